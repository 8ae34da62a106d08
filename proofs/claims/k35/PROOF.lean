import PyProof.Rows.All
import Wide.All
import OpenK.AllK
import Wide.FinOn
import HandS.ForMost
import HandS.Evl
import HandS.IsInst
import HandS.EndBits
import HandS.Wide
import KE.DatumMoreOrd
import HandS.Walk
import HandS.StrMore
import PyProof.StrLawsFrom
import KE.IntTextLaws
import PyProof.Rows.RegStrFacts
import PyProof.Rows.StrCase
import HandS.Replace
import HandS.ReplaceLit
import HandS.ReplaceDef
import HandS.Words
import PyProof.Rows.StrStrike
import HandS.Dict
import HandS.DictComp
import HandS.More
import HandS.TupAny
import HandS.Star
import HandS.Zip
import HandS.RevRange
import HandS.Style
import HandS.MakeKwOnly
import HandS.Defaults
import KE.GoesZip
import KE.GoesEnum
import KE.GoesMore
import PySem.Challenge.RW_folio_k35_needed_widths
set_option Elab.async false
set_option linter.all false
set_option maxRecDepth 100000
set_option maxHeartbeats 4000000
set_option Elab.async false
namespace Ly
open PySem PySem.Spec PyProof.Rows L2 Evl
open PySem.W (Datum DatumOrd Tup T3 T4)

/-! ### data that is held -/
/-- the data of this layer: plain ones, dicts with plain keys, objects by their fields -/
inductive Xd where
  | none
  | bool (b : Bool)
  | int (i : Int)
  | str (x : Str)
  | list (ds : List Xd)
  | tuple (ds : List Xd)
  | dict (ks : List Key) (ds : List Xd)
  | obj (c : Str) (ns : List Str) (ds : List Xd)
  | ptr (a : Addr)
mutual
inductive Xp (K : PySem.W.Frag) (H : Hp) : V → Xd → Prop
  | non : Xp K H .non .none
  | bl (b : Bool) : Xp K H (.bl b) (.bool b)
  | int (i : Int) : Xp K H (.int i) (.int i)
  | str (x : Str) : Xp K H (.str x) (.str x)
  | lst {a : Addr} {xs : List V} {ds : List Xd} : SqL K H a xs → XpAll K H xs ds → Xp K H (.ref a) (.list ds)
  | tup {a : Addr} {xs : List V} {ds : List Xd} : SqT K H a xs → XpAll K H xs ds → Xp K H (.ref a) (.tuple ds)
  | dic {a : Addr} {kvs : List (Key × V)} {vs : List V} {ks : List Key} {ds : List Xd} : Rd H a (.dK kvs) → kvs.map (·.1) = ks → kvs.map (·.2) = vs → XpAll K H vs ds → Xp K H (.ref a) (.dict ks ds)
  | obj {a C dx : Addr} {fs : List (Str × V)} {c : Str} {vs : List V} {ns : List Str} {ds : List Xd} : PySem.W.nsIn K mainGlobals c = some (some (.ref C)) → H a = some (.ins C dx fs) → fs.map (·.1) = ns → fs.map (·.2) = vs → XpAll K H vs ds → Xp K H (.ref a) (.obj c ns ds)
  | ptr (a : Addr) : Xp K H (.ref a) (.ptr a)
inductive XpAll (K : PySem.W.Frag) (H : Hp) : List V → List Xd → Prop
  | nil : XpAll K H [] []
  | cons {v : V} {vs : List V} {d : Xd} {ds : List Xd} : Xp K H v d → XpAll K H vs ds → XpAll K H (v :: vs) (d :: ds)
end
theorem ex_rd {H H' : Hp} (e : Ex H H') {a : Addr} {u : HO} (h : Rd H a u) : Rd H' a u := by
  rcases h with h | ⟨o, h⟩
  · exact .inl (e _ _ h)
  · exact .inr ⟨o, e _ _ h⟩
mutual
theorem dp_mono {K : PySem.W.Frag} {H H' : Hp} (e : Ex H H') : ∀ {v : V} {d : Xd}, Xp K H v d → Xp K H' v d
  | _, _, .non => .non
  | _, _, .bl b => .bl b
  | _, _, .int i => .int i
  | _, _, .str x => .str x
  | _, _, .lst h a => .lst (ex_l e h) (dpa_mono e a)
  | _, _, .tup h a => .tup (ex_t e h) (dpa_mono e a)
  | _, _, .dic h k v a => .dic (ex_rd e h) k v (dpa_mono e a)
  | _, _, .obj c h k v a => .obj c (e _ _ h) k v (dpa_mono e a)
  | _, _, .ptr a => .ptr a
theorem dpa_mono {K : PySem.W.Frag} {H H' : Hp} (e : Ex H H') : ∀ {vs : List V} {ds : List Xd}, XpAll K H vs ds → XpAll K H' vs ds
  | _, _, .nil => .nil
  | _, _, .cons a b => .cons (dp_mono e a) (dpa_mono e b)
end
/-- a Lean type whose things are data -/
class Dx (α : Type) [DecidableEq α] where
  toX : α → Xd
section
variable {α β γ δ : Type} [DecidableEq α] [Dx α] [DecidableEq β] [Dx β] [DecidableEq γ] [Dx γ] [DecidableEq δ] [Dx δ]
instance : Dx Int := ⟨.int⟩
instance : Dx Bool := ⟨.bool⟩
instance : Dx Str := ⟨.str⟩
instance : Dx Unit := ⟨fun _ => .none⟩
instance : Dx (List α) := ⟨fun xs => .list (xs.map Dx.toX)⟩
instance : Dx (Tup α) := ⟨fun xs => .tuple (xs.items.map Dx.toX)⟩
instance : Dx (α × β) := ⟨fun p => .tuple [Dx.toX p.1, Dx.toX p.2]⟩
instance : Dx (T3 α β γ) := ⟨fun p => .tuple [Dx.toX p.a, Dx.toX p.b, Dx.toX p.c]⟩
instance : Dx (T4 α β γ δ) := ⟨fun p => .tuple [Dx.toX p.a, Dx.toX p.b, Dx.toX p.c, Dx.toX p.d]⟩
instance : Dx (Option α) := ⟨fun p => match p with | none => .none | some x => Dx.toX x⟩
/-- no None among them -/
class SomeX (α : Type) [DecidableEq α] [Dx α] : Prop where
  some : ∀ x : α, Dx.toX x ≠ Xd.none
instance : SomeX Int := ⟨fun _ e => by cases e⟩
instance : SomeX Bool := ⟨fun _ e => by cases e⟩
instance : SomeX Str := ⟨fun _ e => by cases e⟩
instance : SomeX (List α) := ⟨fun _ e => by cases e⟩
instance : SomeX (Tup α) := ⟨fun _ e => by cases e⟩
instance : SomeX (α × β) := ⟨fun _ e => by cases e⟩
instance : SomeX (T3 α β γ) := ⟨fun _ e => by cases e⟩
instance : SomeX (T4 α β γ δ) := ⟨fun _ e => by cases e⟩
end
/-- data of the library's own kind: what == and < lean on -/
class DxD (α : Type) [DecidableEq α] [Dx α] [Datum α] : Prop where
  link : ∀ {K : PySem.W.Frag} {H : Hp} {v : V} {x : α}, Xp K H v (Dx.toX x) → Dp K H v (Datum.toD x)
section
variable {α β γ δ : Type} [DecidableEq α] [Dx α] [Datum α] [DxD α] [DecidableEq β] [Dx β] [Datum β] [DxD β] [DecidableEq γ] [Dx γ] [Datum γ] [DxD γ] [DecidableEq δ] [Dx δ] [Datum δ] [DxD δ]
theorem link_all {K : PySem.W.Frag} {H : Hp} : ∀ {xs : List α} {vs : List V}, XpAll K H vs (xs.map Dx.toX) → DpAll K H vs (xs.map Datum.toD)
  | [], _, h => by cases h; exact .nil
  | x :: xs, _, h => by
    cases h with
    | cons a b => exact .cons (DxD.link a) (link_all b)
instance : DxD Int := ⟨fun h => by cases h; exact .int _⟩
instance : DxD Bool := ⟨fun h => by cases h; exact .bl _⟩
instance : DxD Str := ⟨fun h => by cases h; exact .str _⟩
instance : DxD (List α) := ⟨fun h => by cases h with | lst s a => exact .lst s (link_all a)⟩
instance : DxD (Tup α) := ⟨fun h => by cases h with | tup s a => exact .tup s (link_all a)⟩
instance : DxD (α × β) := ⟨fun h => by
  cases h with
  | tup s a =>
    cases a with
    | cons a1 a =>
      cases a with
      | cons a2 a =>
        cases a
        exact .tup s (.cons (DxD.link a1) (.cons (DxD.link a2) .nil))⟩
instance : DxD (T3 α β γ) := ⟨fun h => by
  cases h with
  | tup s a =>
    cases a with
    | cons a1 a =>
      cases a with
      | cons a2 a =>
        cases a with
        | cons a3 a =>
          cases a
          exact .tup s (.cons (DxD.link a1) (.cons (DxD.link a2) (.cons (DxD.link a3) .nil)))⟩
instance : DxD (T4 α β γ δ) := ⟨fun h => by
  cases h with
  | tup s a =>
    cases a with
    | cons a1 a =>
      cases a with
      | cons a2 a =>
        cases a with
        | cons a3 a =>
          cases a with
          | cons a4 a =>
            cases a
            exact .tup s (.cons (DxD.link a1) (.cons (DxD.link a2) (.cons (DxD.link a3) (.cons (DxD.link a4) .nil))))⟩
end
/-! ### masks -/
theorem dpa_len {K : PySem.W.Frag} {H : Hp} : ∀ {vs : List V} {ds : List Xd}, XpAll K H vs ds → vs.length = ds.length
  | _, _, .nil => rfl
  | _, _, .cons _ b => by rw [List.length_cons, List.length_cons, dpa_len b]
theorem dpa_at {K : PySem.W.Frag} {H : Hp} : ∀ {vs : List V} {ds : List Xd} {i : Nat} {d : Xd}, XpAll K H vs ds → ds[i]? = some d → ∃ v, vs[i]? = some v ∧ Xp K H v d
  | _, _, i, d, .nil, e => by simp at e
  | _, _, 0, d, .cons a b, e => by simp at e; subst e; exact ⟨_, rfl, a⟩
  | _, _, i + 1, d, .cons a b, e => by
    obtain ⟨v, h1, h2⟩ := dpa_at (i := i) (d := d) b (by simpa using e)
    exact ⟨v, by simpa using h1, h2⟩
theorem dpa_app {K : PySem.W.Frag} {H : Hp} : ∀ {vs ws : List V} {ds es : List Xd}, XpAll K H vs ds → XpAll K H ws es → XpAll K H (vs ++ ws) (ds ++ es)
  | _, _, _, _, .nil, h => h
  | _, _, _, _, .cons a b, h => .cons a (dpa_app b h)

variable {K : PySem.W.Frag}
/-- v holds x -/
def Dt {α : Type} [DecidableEq α] [Dx α] (K : PySem.W.Frag) (H : Hp) (v : V) (x : α) : Prop := Xp K H v (Dx.toX x)
def Dts {α : Type} [DecidableEq α] [Dx α] (K : PySem.W.Frag) (H : Hp) (vs : List V) (xs : List α) : Prop := XpAll K H vs (xs.map Dx.toX)
/-- the heap without the objects of M -/
def msk (M : List Addr) (H : Hp) : Hp := fun a => if a ∈ M then none else H a
def MOk (M : List Addr) (H : Hp) : Prop := ∀ l ∈ M, H l ≠ none
section
variable {α : Type} [DecidableEq α] [Dx α] {H H1 H2 : Hp} {M N : List Addr} {v : V} {x : α}
theorem msk_in {a : Addr} (h : a ∈ M) : msk M H a = none := by unfold msk; rw [if_pos h]
theorem msk_out {a : Addr} (h : a ∉ M) : msk M H a = H a := by unfold msk; rw [if_neg h]
theorem msk_nil : msk [] H = H := by funext a; unfold msk; simp
theorem msk_ex (e : Ex H H1) : Ex (msk M H) (msk M H1) := fun a o h => by
  by_cases q : a ∈ M
  · rw [msk_in q] at h; cases h
  · rw [msk_out q] at h ⊢; exact e a o h
theorem msk_le : Ex (msk M H) H := fun a o h => by
  by_cases q : a ∈ M
  · rw [msk_in q] at h; cases h
  · rw [msk_out q] at h; exact h
theorem msk_sub (s : ∀ a ∈ N, a ∈ M) : Ex (msk M H) (msk N H) := fun a o h => by
  by_cases q : a ∈ M
  · rw [msk_in q] at h; cases h
  · rw [msk_out q] at h
    rw [msk_out fun z => q (s a z)]
    exact h
theorem msk_upd {l : Addr} {o : HO} (h : l ∈ M) : msk M (upd H l o) = msk M H := by
  funext a
  by_cases q : a ∈ M
  · rw [msk_in q, msk_in q]
  · rw [msk_out q, msk_out q, upd_ne (fun z => q (by rw [z]; exact h))]
theorem msk_new {p : Addr} {o : HO} (h : H p = none) : Ex (msk M H) (msk (p :: M) (upd H p o)) := fun a u e => by
  by_cases q : a ∈ M
  · rw [msk_in q] at e; cases e
  · rw [msk_out q] at e
    have n : a ≠ p := ne_of_none e h
    rw [msk_out (by simp [n, q]), upd_ne n]
    exact e
theorem MOk.ex (e : Ex H H1) (m : MOk M H) : MOk M H1 := fun l hl z => by
  have := m l hl
  cases q : H l with
  | none => exact this q
  | some o => rw [e l o q] at z; cases z
theorem MOk.nin {p : Addr} (m : MOk M H) (h : H p = none) : p ∉ M := fun z => m p z h
theorem msk_at {p : Addr} {o : HO} (m : MOk M H) (h : H p = none) : msk M (upd H p o) p = some o := by
  rw [msk_out (m.nin h), upd_same]
theorem Dt.mono (e : Ex H H1) (h : Dt K H v x) : Dt K H1 v x := dp_mono e h
theorem Dts.mono {vs : List V} {xs : List α} (e : Ex H H1) (h : Dts K H vs xs) : Dts K H1 vs xs := dpa_mono e h
theorem Dts.len {vs : List V} {xs : List α} (h : Dts K H vs xs) : vs.length = xs.length := by
  have := dpa_len h
  rwa [List.length_map] at this
theorem Dts.nil : Dts K H [] ([] : List α) := XpAll.nil
theorem Dts.cons {vs : List V} {xs : List α} (a : Dt K H v x) (b : Dts K H vs xs) : Dts K H (v :: vs) (x :: xs) := XpAll.cons a b
theorem Dts.app {vs ws : List V} {xs ys : List α} (a : Dts K H vs xs) (b : Dts K H ws ys) : Dts K H (vs ++ ws) (xs ++ ys) := by
  unfold Dts
  rw [List.map_append]
  exact dpa_app a b
theorem Dts.snoc {vs : List V} {xs : List α} (b : Dts K H vs xs) (a : Dt K H v x) : Dts K H (vs ++ [v]) (xs ++ [x]) := b.app (XpAll.cons a XpAll.nil)
theorem Dts.at {vs : List V} {xs : List α} {i : Nat} {x : α} (h : Dts K H vs xs) (e : xs[i]? = some x) : ∃ v, vs[i]? = some v ∧ Dt K H v x :=
  dpa_at h (by rw [List.getElem?_map, e]; rfl)
theorem Dt.int {i : Int} (h : Dt K H v i) : v = .int i := by
  cases (show Xp K H v (.int i) from h); rfl
theorem Dt.ofInt (i : Int) : Dt K H (.int i) i := Xp.int i
theorem Dt.bool {i : Bool} (h : Dt K H v i) : v = .bl i := by
  cases (show Xp K H v (.bool i) from h); rfl
theorem Dt.ofBool (i : Bool) : Dt K H (.bl i) i := Xp.bl i
theorem Dt.str {i : Str} (h : Dt K H v i) : v = .str i := by
  cases (show Xp K H v (.str i) from h); rfl
theorem Dt.ofStr (i : Str) : Dt K H (.str i) i := Xp.str i
theorem Dt.unit {i : Unit} (h : Dt K H v i) : v = .non := by
  cases (show Xp K H v .none from h); rfl
theorem Dt.list {xs : List α} (h : Dt K H v xs) : ∃ a vs, v = .ref a ∧ SqL K H a vs ∧ Dts K H vs xs := by
  cases (show Xp K H v (.list _) from h) with
  | lst a b => exact ⟨_, _, rfl, a, b⟩
theorem Dt.ofList {a : Addr} {vs : List V} {xs : List α} (h : SqL K H a vs) (d : Dts K H vs xs) : Dt K H (.ref a) xs := Xp.lst h d
theorem Dt.tupv {xs : Tup α} (h : Dt K H v xs) : ∃ a vs, v = .ref a ∧ SqT K H a vs ∧ Dts K H vs xs.items := by
  cases (show Xp K H v (.tuple _) from h) with
  | tup a b => exact ⟨_, _, rfl, a, b⟩
theorem Dt.ofTupv {a : Addr} {vs : List V} {xs : Tup α} (h : SqT K H a vs) (d : Dts K H vs xs.items) : Dt K H (.ref a) xs := Xp.tup h d
end
section
variable {α β γ δ : Type} [DecidableEq α] [Dx α] [DecidableEq β] [Dx β] [DecidableEq γ] [Dx γ] [DecidableEq δ] [Dx δ] {H H1 H2 : Hp} {v : V}
theorem Dt.pair {p : α × β} (h : Dt K H v p) : ∃ l a b, v = .ref l ∧ SqT K H l [a, b] ∧ Dt K H a p.1 ∧ Dt K H b p.2 := by
  cases (show Xp K H v (.tuple [_, _]) from h) with
  | tup s b =>
    cases b with
    | cons b1 b =>
      cases b with
      | cons b2 b =>
        cases b
        exact ⟨_, _, _, rfl, s, b1, b2⟩
theorem Dt.ofPair {l : Addr} {a b : V} {x : α} {y : β} (s : SqT K H l [a, b]) (ha : Dt K H a x) (hb : Dt K H b y) : Dt K H (.ref l) (x, y) := Xp.tup s (.cons ha (.cons hb .nil))
theorem Dt.t3 {p : T3 α β γ} (h : Dt K H v p) : ∃ l a b c, v = .ref l ∧ SqT K H l [a, b, c] ∧ Dt K H a p.a ∧ Dt K H b p.b ∧ Dt K H c p.c := by
  cases (show Xp K H v (.tuple [_, _, _]) from h) with
  | tup s b =>
    cases b with
    | cons b1 b =>
      cases b with
      | cons b2 b =>
        cases b with
        | cons b3 b =>
          cases b
          exact ⟨_, _, _, _, rfl, s, b1, b2, b3⟩
theorem Dt.ofT3 {l : Addr} {a b c : V} {x : α} {y : β} {z : γ} (s : SqT K H l [a, b, c]) (ha : Dt K H a x) (hb : Dt K H b y) (hc : Dt K H c z) : Dt K H (.ref l) (T3.mk x y z) := Xp.tup s (.cons ha (.cons hb (.cons hc .nil)))
theorem Dt.t4 {p : T4 α β γ δ} (h : Dt K H v p) : ∃ l a b c d, v = .ref l ∧ SqT K H l [a, b, c, d] ∧ Dt K H a p.a ∧ Dt K H b p.b ∧ Dt K H c p.c ∧ Dt K H d p.d := by
  cases (show Xp K H v (.tuple [_, _, _, _]) from h) with
  | tup s b =>
    cases b with
    | cons b1 b =>
      cases b with
      | cons b2 b =>
        cases b with
        | cons b3 b =>
          cases b with
          | cons b4 b =>
            cases b
            exact ⟨_, _, _, _, _, rfl, s, b1, b2, b3, b4⟩
theorem Dt.ofT4 {l : Addr} {a b c d : V} {x : α} {y : β} {z : γ} {u : δ} (s : SqT K H l [a, b, c, d]) (ha : Dt K H a x) (hb : Dt K H b y) (hc : Dt K H c z) (hd : Dt K H d u) : Dt K H (.ref l) (T4.mk x y z u) := Xp.tup s (.cons ha (.cons hb (.cons hc (.cons hd .nil))))
end
end Ly

namespace Ly
open PySem PySem.Spec PyProof.Rows L2 Evl
open PySem.W (Datum DatumOrd Tup T3 T4)

/-! ### what an expression gives -/
section
variable {K : PySem.W.Frag} {M : List Addr} {σ : L2.St} {H H' : Hp} {te ta tb tc td : TE} {tt tu : TT}
variable {α β γ δ ε : Type} [DecidableEq α] [Dx α] [DecidableEq β] [Dx β] [DecidableEq γ] [Dx γ] [DecidableEq δ] [Dx δ] [DecidableEq ε] [Dx ε]

def Hv (K : PySem.W.Frag) (M : List Addr) (te : TE) (σ : L2.St) (H : Hp) (x : α) : Prop :=
  ∀ H1, Ex H H1 → MOk M H1 → ∀ Q : VK, (∀ v H2, Ex H1 H2 → Dt K (msk M H2) v x → Q v H2) → te σ H1 Q
def HT (M : List Addr) (tt : TT) (σ : L2.St) (H : Hp) (b : Bool) : Prop :=
  ∀ H1, Ex H H1 → MOk M H1 → ∀ Q : Bool → Hp → Prop, (∀ H2, Ex H1 H2 → Q b H2) → tt σ H1 Q
/-- arguments: P of their values -/
def HA (M : List Addr) (ta : TA) (σ : L2.St) (H : Hp) (P : List V → Hp → Prop) : Prop :=
  ∀ H1, Ex H H1 → MOk M H1 → ∀ Q : List V → Hp → Prop, (∀ vs H2, Ex H1 H2 → P vs H2 → Q vs H2) → ta σ H1 Q
theorem Hv.mono {x : α} (e : Ex H H') (h : Hv K M te σ H x) : Hv K M te σ H' x := fun H1 a m Q q => h H1 (e.trans a) m Q q
theorem HT.mono {b : Bool} (e : Ex H H') (h : HT M tt σ H b) : HT M tt σ H' b := fun H1 a m Q q => h H1 (e.trans a) m Q q
theorem Hv.is {x y : α} (h : Hv K M te σ H x) (e : x = y) : Hv K M te σ H y := by rw [← e]; exact h
theorem HT.is {x y : Bool} (h : HT M tt σ H x) (e : x = y) : HT M tt σ H y := by rw [← e]; exact h
/-- a value that is told -/
theorem hv_ev {v : V} {x : α} (h : Ev te σ H v) (d : Dt K (msk M H) v x) : Hv K M te σ H x := fun H1 e m Q q =>
  h H1 e Q fun H2 e2 => q v H2 e2 (d.mono (msk_ex (e.trans e2)))
theorem hv_evI {x : Int} (h : Ev te σ H (.int x)) : Hv K M te σ H x := hv_ev h (Dt.ofInt x)
theorem hv_evB {x : Bool} (h : Ev te σ H (.bl x)) : Hv K M te σ H x := hv_ev h (Dt.ofBool x)
theorem hv_evS {x : Str} (h : Ev te σ H (.str x)) : Hv K M te σ H x := hv_ev h (Dt.ofStr x)
theorem ev_hvI {x : Int} (h : Hv K M te σ H x) (m : MOk M H) : Ev te σ H (.int x) := fun H1 e Q q =>
  h H1 e (m.ex e) Q fun v H2 e2 d => by rw [d.int]; exact q H2 e2
theorem ev_hvB {x : Bool} (h : Hv K M te σ H x) (m : MOk M H) : Ev te σ H (.bl x) := fun H1 e Q q =>
  h H1 e (m.ex e) Q fun v H2 e2 d => by rw [d.bool]; exact q H2 e2
theorem ev_hvS {x : Str} (h : Hv K M te σ H x) (m : MOk M H) : Ev te σ H (.str x) := fun H1 e Q q =>
  h H1 e (m.ex e) Q fun v H2 e2 d => by rw [d.str]; exact q H2 e2
theorem hv_var {i : Nat} {v : V} {x : α} (h : σ[i]? = some (some v)) (d : Dt K (msk M H) v x) : Hv K M (tVar i) σ H x := hv_ev (ev_var h) d
theorem hv_vI {i : Nat} {x : Int} (h : σ[i]? = some (some (.int x))) : Hv K M (tVar i) σ H x := hv_evI (ev_var h)
theorem hv_vB {i : Nat} {x : Bool} (h : σ[i]? = some (some (.bl x))) : Hv K M (tVar i) σ H x := hv_evB (ev_var h)
theorem hv_vS {i : Nat} {x : Str} (h : σ[i]? = some (some (.str x))) : Hv K M (tVar i) σ H x := hv_evS (ev_var h)
theorem hv_int (n : Int) : Hv K M (tC (.int n)) σ H n := hv_evI ev_c
theorem hv_bl (n : Bool) : Hv K M (tC (.bl n)) σ H n := hv_evB ev_c
theorem hv_str (n : Str) : Hv K M (tC (.str n)) σ H n := hv_evS ev_c
theorem hv_none : Hv K M (tC .non) σ H (none : Option α) := hv_ev ev_c Xp.non
theorem hv_some {x : α} (h : Hv K M te σ H x) : Hv K M te σ H (some x) := fun H1 e m Q q => h H1 e m Q fun v H2 e2 d => q v H2 e2 d

/-! ### whole numbers -/
theorem hv_op0 {g : Int → Int → Int} {i j : Int} (ha : Hv K M ta σ H i) (hb : Hv K M tb σ H j) : Hv K M (tOp (rI0 fun i j => .int (g i j)) ta tb) σ H (g i j) := fun H1 e m Q q =>
  ha H1 e m _ fun v H2 e2 d => hb H2 (e.trans e2) (m.ex e2) _ fun u H3 e3 d' => ⟨i, j, d.int, d'.int, q _ H3 (e2.trans e3) (Dt.ofInt _)⟩
theorem hv_opC {C : Int → Int → Prop} {g : Int → Int → Int} {i j : Int} (ha : Hv K M ta σ H i) (hb : Hv K M tb σ H j) (c : C i j) : Hv K M (tOp (rI C fun i j => .int (g i j)) ta tb) σ H (g i j) := fun H1 e m Q q =>
  ha H1 e m _ fun v H2 e2 d => hb H2 (e.trans e2) (m.ex e2) _ fun u H3 e3 d' => ⟨i, j, d.int, d'.int, c, q _ H3 (e2.trans e3) (Dt.ofInt _)⟩
theorem hv_cmp0 {g : Int → Int → Bool} {i j : Int} (ha : Hv K M ta σ H i) (hb : Hv K M tb σ H j) : Hv K M (tOp (rI0 fun i j => .bl (g i j)) ta tb) σ H (g i j) := fun H1 e m Q q =>
  ha H1 e m _ fun v H2 e2 d => hb H2 (e.trans e2) (m.ex e2) _ fun u H3 e3 d' => ⟨i, j, d.int, d'.int, q _ H3 (e2.trans e3) (Dt.ofBool _)⟩
theorem hv_neg {i : Int} (ha : Hv K M ta σ H i) : Hv K M (tUn (rU fun i => .int (-i)) ta) σ H (-i) := fun H1 e m Q q =>
  ha H1 e m _ fun v H2 e2 d => ⟨i, d.int, q _ H2 e2 (Dt.ofInt _)⟩
theorem hv_lt {i j : Int} (ha : Hv K M ta σ H i) (hb : Hv K M tb σ H j) : Hv K M (tOp (rI0 fun i j => .bl (decide (i < j))) ta tb) σ H (decide (i < j)) := hv_cmp0 (g := fun i j => decide (i < j)) ha hb
theorem hv_le {i j : Int} (ha : Hv K M ta σ H i) (hb : Hv K M tb σ H j) : Hv K M (tOp (rI0 fun i j => .bl (decide (i ≤ j))) ta tb) σ H (decide (i ≤ j)) := hv_cmp0 (g := fun i j => decide (i ≤ j)) ha hb
theorem hv_gt {i j : Int} (ha : Hv K M ta σ H i) (hb : Hv K M tb σ H j) : Hv K M (tOp (rI0 fun i j => .bl (decide (j < i))) ta tb) σ H (decide (j < i)) := hv_cmp0 (g := fun i j => decide (j < i)) ha hb
theorem hv_ge {i j : Int} (ha : Hv K M ta σ H i) (hb : Hv K M tb σ H j) : Hv K M (tOp (rI0 fun i j => .bl (decide (j ≤ i))) ta tb) σ H (decide (j ≤ i)) := hv_cmp0 (g := fun i j => decide (j ≤ i)) ha hb
theorem hv_add {i j : Int} (ha : Hv K M ta σ H i) (hb : Hv K M tb σ H j) : Hv K M (tOp (rI0 fun i j => .int (i + j)) ta tb) σ H (i + j) := hv_op0 (g := fun i j => i + j) ha hb
theorem hv_sub {i j : Int} (ha : Hv K M ta σ H i) (hb : Hv K M tb σ H j) : Hv K M (tOp (rI0 fun i j => .int (i - j)) ta tb) σ H (i - j) := hv_op0 (g := fun i j => i - j) ha hb
theorem hv_mul {i j : Int} (ha : Hv K M ta σ H i) (hb : Hv K M tb σ H j) (c : CMul i j) : Hv K M (tOp (rI CMul fun i j => .int (i * j)) ta tb) σ H (i * j) := hv_opC (g := fun i j => i * j) ha hb c
theorem hv_mod {i j : Int} (ha : Hv K M ta σ H i) (hb : Hv K M tb σ H j) (c : 0 < j) : Hv K M (tOp (rI (fun _ j => 0 < j) fun i j => .int (i % j)) ta tb) σ H (i % j) := hv_opC (C := fun _ j => 0 < j) (g := fun i j => i % j) ha hb c
theorem hv_div {i j : Int} (ha : Hv K M ta σ H i) (hb : Hv K M tb σ H j) (c : CDivW i j) : Hv K M (tOp (rI CDivW fun i j => .int (i / j)) ta tb) σ H (i / j) := hv_opC (g := fun i j => i / j) ha hb c
theorem hv_pow {i j : Int} (ha : Hv K M ta σ H i) (hb : Hv K M tb σ H j) (c : CPow i j) : Hv K M (tOp (rI CPow fun i j => .int (i ^ j.toNat)) ta tb) σ H (i ^ j.toNat) := hv_opC (g := fun i j => i ^ j.toNat) ha hb c
theorem hv_eqI {i j : Int} (ha : Hv K M ta σ H i) (hb : Hv K M tb σ H j) : Hv K M (tOp rEq ta tb) σ H (decide (i = j)) := fun H1 e m Q q =>
  ha H1 e m _ fun v H2 e2 d => hb H2 (e.trans e2) (m.ex e2) _ fun u H3 e3 d' => by
    rw [d.int, d'.int]
    exact ⟨rfl, q _ H3 (e2.trans e3) (by rw [show decide (V.int i = V.int j) = decide (i = j) from decide_eq_decide.mpr ⟨V.int.inj, fun z => by rw [z]⟩]; exact Dt.ofBool _)⟩
theorem hv_neI {i j : Int} (ha : Hv K M ta σ H i) (hb : Hv K M tb σ H j) : Hv K M (tOp rNe ta tb) σ H (!decide (i = j)) := fun H1 e m Q q =>
  ha H1 e m _ fun v H2 e2 d => hb H2 (e.trans e2) (m.ex e2) _ fun u H3 e3 d' => by
    rw [d.int, d'.int]
    exact ⟨rfl, q _ H3 (e2.trans e3) (by rw [show decide (V.int i = V.int j) = decide (i = j) from decide_eq_decide.mpr ⟨V.int.inj, fun z => by rw [z]⟩]; exact Dt.ofBool _)⟩
theorem hv_eqS {i j : Str} (ha : Hv K M ta σ H i) (hb : Hv K M tb σ H j) : Hv K M (tOp rEq ta tb) σ H (decide (i = j)) := fun H1 e m Q q =>
  ha H1 e m _ fun v H2 e2 d => hb H2 (e.trans e2) (m.ex e2) _ fun u H3 e3 d' => by
    rw [d.str, d'.str]
    exact ⟨rfl, q _ H3 (e2.trans e3) (by rw [show decide (V.str i = V.str j) = decide (i = j) from decide_eq_decide.mpr ⟨V.str.inj, fun z => by rw [z]⟩]; exact Dt.ofBool _)⟩
theorem hv_neS {i j : Str} (ha : Hv K M ta σ H i) (hb : Hv K M tb σ H j) : Hv K M (tOp rNe ta tb) σ H (!decide (i = j)) := fun H1 e m Q q =>
  ha H1 e m _ fun v H2 e2 d => hb H2 (e.trans e2) (m.ex e2) _ fun u H3 e3 d' => by
    rw [d.str, d'.str]
    exact ⟨rfl, q _ H3 (e2.trans e3) (by rw [show decide (V.str i = V.str j) = decide (i = j) from decide_eq_decide.mpr ⟨V.str.inj, fun z => by rw [z]⟩]; exact Dt.ofBool _)⟩
theorem hv_eqB {i j : Bool} (ha : Hv K M ta σ H i) (hb : Hv K M tb σ H j) : Hv K M (tOp rEq ta tb) σ H (decide (i = j)) := fun H1 e m Q q =>
  ha H1 e m _ fun v H2 e2 d => hb H2 (e.trans e2) (m.ex e2) _ fun u H3 e3 d' => by
    rw [d.bool, d'.bool]
    exact ⟨rfl, q _ H3 (e2.trans e3) (by rw [show decide (V.bl i = V.bl j) = decide (i = j) from decide_eq_decide.mpr ⟨V.bl.inj, fun z => by rw [z]⟩]; exact Dt.ofBool _)⟩

/-! ### tests -/
theorem ht_val {b : Bool} (h : Hv K M te σ H b) : HT M (tTest te) σ H b := fun H1 e m Q q => h H1 e m _ fun v H2 e2 d => ⟨b, d.bool, q H2 e2⟩
theorem ht_B {b : Bool} (h : Hv K M te σ H b) : HT M (tB te) σ H b := fun H1 e m Q q => h H1 e m _ fun v H2 e2 d => ⟨b, d.bool, q H2 e2⟩
theorem ht_and {a b : Bool} (h1 : HT M tt σ H a) (h2 : a = true → HT M tu σ H b) : HT M (tAnd tt tu) σ H (a && b) := fun H1 e m Q q => h1 H1 e m _ fun H2 e2 => by
  cases a with
  | true =>
    show tu σ H2 Q
    exact h2 rfl H2 (e.trans e2) (m.ex e2) Q fun H3 e3 => q H3 (e2.trans e3)
  | false =>
    show Q false H2
    exact q H2 e2
theorem ht_or {a b : Bool} (h1 : HT M tt σ H a) (h2 : a = false → HT M tu σ H b) : HT M (tOr tt tu) σ H (a || b) := fun H1 e m Q q => h1 H1 e m _ fun H2 e2 => by
  cases a with
  | true =>
    show Q true H2
    exact q H2 e2
  | false =>
    show tu σ H2 Q
    exact h2 rfl H2 (e.trans e2) (m.ex e2) Q fun H3 e3 => q H3 (e2.trans e3)
theorem ht_not {a : Bool} (h1 : HT M tt σ H a) : HT M (tNot tt) σ H (!a) := fun H1 e m _ q => h1 H1 e m _ fun H2 e2 => q H2 e2
theorem hv_and {a b : Bool} (h1 : Hv K M ta σ H a) (h2 : a = true → Hv K M tb σ H b) : Hv K M (tAndV ta tb) σ H (a && b) := fun H1 e m Q q => h1 H1 e m _ fun v H2 e2 d => ⟨a, d.bool, by
  cases a with
  | true =>
    show tb σ H2 Q
    exact h2 rfl H2 (e.trans e2) (m.ex e2) Q fun v H3 e3 => q v H3 (e2.trans e3)
  | false =>
    show Q (.bl false) H2
    exact q _ H2 e2 (Dt.ofBool _)⟩
theorem hv_or {a b : Bool} (h1 : Hv K M ta σ H a) (h2 : a = false → Hv K M tb σ H b) : Hv K M (tOrV ta tb) σ H (a || b) := fun H1 e m Q q => h1 H1 e m _ fun v H2 e2 d => ⟨a, d.bool, by
  cases a with
  | true =>
    show Q (.bl true) H2
    exact q _ H2 e2 (Dt.ofBool _)
  | false =>
    show tb σ H2 Q
    exact h2 rfl H2 (e.trans e2) (m.ex e2) Q fun v H3 e3 => q v H3 (e2.trans e3)⟩
theorem hv_not {a : Bool} (h1 : Hv K M ta σ H a) : Hv K M (tNotV ta) σ H (!a) := fun H1 e m _ q => h1 H1 e m _ fun v H2 e2 d => ⟨a, d.bool, q _ H2 e2 (Dt.ofBool _)⟩
theorem hv_ite {b : Bool} {x y : α} (h : HT M tt σ H b) (h1 : b = true → Hv K M ta σ H x) (h2 : b = false → Hv K M tb σ H y) : Hv K M (tIf tt ta tb) σ H (if b = true then x else y) := fun H1 e m Q q => h H1 e m _ fun H2 e2 => by
  cases b with
  | true =>
    show ta σ H2 Q
    exact h1 rfl H2 (e.trans e2) (m.ex e2) Q fun v H3 e3 => q v H3 (e2.trans e3)
  | false =>
    show tb σ H2 Q
    exact h2 rfl H2 (e.trans e2) (m.ex e2) Q fun v H3 e3 => q v H3 (e2.trans e3)

/-! ### tuples and lists that are written -/
theorem ha_nil : HA M tNil σ H (fun vs _ => vs = []) := fun H1 e m Q q => q [] H1 (Ex.refl H1) rfl
theorem ha_cons {tr : TA} {x : α} {P : List V → Hp → Prop} (h : Hv K M te σ H x) (hr : HA M tr σ H P) : HA M (tCons te tr) σ H (fun vs H => ∃ v r, vs = v :: r ∧ Dt K (msk M H) v x ∧ P r H) := fun H1 e m Q q =>
  h H1 e m _ fun v H2 e2 d => hr H2 (e.trans e2) (m.ex e2) _ fun vs H3 e3 p => q _ H3 (e2.trans e3) ⟨v, vs, rfl, d.mono (msk_ex e3), p⟩
/-- an argument whose value is told -/
theorem ha_consV {tr : TA} {v : V} {P : List V → Hp → Prop} (h : Ev te σ H v) (hr : HA M tr σ H P) : HA M (tCons te tr) σ H (fun vs H => ∃ r, vs = v :: r ∧ P r H) := fun H1 e m Q q =>
  h H1 e _ fun H2 e2 => hr H2 (e.trans e2) (m.ex e2) _ fun vs H3 e3 p => q _ H3 (e2.trans e3) ⟨vs, rfl, p⟩
theorem hv_tup2 {x : α} {y : β} (ha : Hv K M ta σ H x) (hb : Hv K M tb σ H y) : Hv K M (tTup (tCons ta (tCons tb tNil))) σ H (x, y) := fun H1 e m Q q =>
  ha H1 e m _ fun v H2 e2 d => hb H2 (e.trans e2) (m.ex e2) _ fun u H3 e3 d' => ⟨sz_of (by show 2 ≤ 100000; decide), fun p hp => by
    have m3 : MOk M H3 := m.ex (e2.trans e3)
    have e4 : Ex H3 (upd H3 p (.tup [v, u])) := Ex.new hp
    exact q _ _ ((e2.trans e3).trans e4) (Dt.ofPair (SqT.of (msk_at m3 hp)) (d.mono (msk_ex (e3.trans e4))) (d'.mono (msk_ex e4)))⟩
theorem hv_tup3 {x : α} {y : β} {z : γ} (ha : Hv K M ta σ H x) (hb : Hv K M tb σ H y) (hc : Hv K M tc σ H z) : Hv K M (tTup (tCons ta (tCons tb (tCons tc tNil)))) σ H (T3.mk x y z) := fun H1 e m Q q =>
  ha H1 e m _ fun v H2 e2 d => hb H2 (e.trans e2) (m.ex e2) _ fun u H3 e3 d' => hc H3 ((e.trans e2).trans e3) ((m.ex e2).ex e3) _ fun w H4 e4 d'' => ⟨sz_of (by show 3 ≤ 100000; decide), fun p hp => by
    have m4 : MOk M H4 := m.ex ((e2.trans e3).trans e4)
    have e5 : Ex H4 (upd H4 p (.tup [v, u, w])) := Ex.new hp
    exact q _ _ (((e2.trans e3).trans e4).trans e5) (Dt.ofT3 (SqT.of (msk_at m4 hp)) (d.mono (msk_ex ((e3.trans e4).trans e5))) (d'.mono (msk_ex (e4.trans e5))) (d''.mono (msk_ex e5)))⟩
theorem hv_tup4 {x : α} {y : β} {z : γ} {w : δ} (ha : Hv K M ta σ H x) (hb : Hv K M tb σ H y) (hc : Hv K M tc σ H z) (hd : Hv K M td σ H w) : Hv K M (tTup (tCons ta (tCons tb (tCons tc (tCons td tNil))))) σ H (T4.mk x y z w) := fun H1 e m Q q =>
  ha H1 e m _ fun v H2 e2 d => hb H2 (e.trans e2) (m.ex e2) _ fun u H3 e3 d' => hc H3 ((e.trans e2).trans e3) ((m.ex e2).ex e3) _ fun w H4 e4 d'' => hd H4 (((e.trans e2).trans e3).trans e4) (((m.ex e2).ex e3).ex e4) _ fun r H5 e5 d3 => ⟨sz_of (by show 4 ≤ 100000; decide), fun p hp => by
    have m4 : MOk M H5 := m.ex (((e2.trans e3).trans e4).trans e5)
    have e6 : Ex H5 (upd H5 p (.tup [v, u, w, r])) := Ex.new hp
    exact q _ _ ((((e2.trans e3).trans e4).trans e5).trans e6) (Dt.ofT4 (SqT.of (msk_at m4 hp)) (d.mono (msk_ex (((e3.trans e4).trans e5).trans e6))) (d'.mono (msk_ex ((e4.trans e5).trans e6))) (d''.mono (msk_ex (e5.trans e6))) (d3.mono (msk_ex e6)))⟩
/-- items of one type -/
def HAs (K : PySem.W.Frag) (M : List Addr) (ta : TA) (σ : L2.St) (H : Hp) (xs : List α) : Prop := HA M ta σ H (fun vs H => Dts K (msk M H) vs xs)
theorem has_nil : HAs K M tNil σ H ([] : List α) := fun H1 e m Q q => q [] H1 (Ex.refl H1) Dts.nil
theorem has_cons {tr : TA} {x : α} {xs : List α} (h : Hv K M te σ H x) (hr : HAs K M tr σ H xs) : HAs K M (tCons te tr) σ H (x :: xs) := fun H1 e m Q q =>
  h H1 e m _ fun v H2 e2 d => hr H2 (e.trans e2) (m.ex e2) _ fun vs H3 e3 p => q _ H3 (e2.trans e3) (Dts.cons (d.mono (msk_ex e3)) p)
theorem hv_lst {tr : TA} {xs : List α} (h : HAs K M tr σ H xs) (hl : xs.length ≤ 100000) : Hv K M (tLst tr) σ H xs := fun H1 e m Q q =>
  h H1 e m _ fun vs H2 e2 d => ⟨sz_of (by rw [d.len]; exact hl), fun p hp => by
    have e3 : Ex H2 (upd H2 p (.lst vs)) := Ex.new hp
    exact q _ _ (e2.trans e3) (Dt.ofList (SqL.of (msk_at (m.ex e2) hp)) (d.mono (msk_ex e3)))⟩
theorem hv_tupv {tr : TA} {xs : List α} (h : HAs K M tr σ H xs) (hl : xs.length ≤ 100000) : Hv K M (tTup tr) σ H (Tup.mk xs) := fun H1 e m Q q =>
  h H1 e m _ fun vs H2 e2 d => ⟨sz_of (by rw [d.len]; exact hl), fun p hp => by
    have e3 : Ex H2 (upd H2 p (.tup vs)) := Ex.new hp
    exact q _ _ (e2.trans e3) (Dt.ofTupv (SqT.of (msk_at (m.ex e2) hp)) (d.mono (msk_ex e3)))⟩

/-! ### items -/
theorem hv_ixL {xs : List α} {i : Int} {x : α} (ha : Hv K M ta σ H xs) (hb : Hv K M tb σ H i) (h0 : 0 ≤ i) (hx : xs[i.toNat]? = some x) : Hv K M (tOp (rIxL K) ta tb) σ H x := fun H1 e m Q q =>
  ha H1 e m _ fun v H2 e2 d => hb H2 (e.trans e2) (m.ex e2) _ fun u H3 e3 d' => by
    obtain ⟨a, vs, rfl, s, ds⟩ := d.list
    obtain ⟨w, h1, h2⟩ := ds.at hx
    exact ⟨a, vs, i, w, rfl, d'.int, ex_l (msk_le.trans e3) s, at_of (Int.toNat_of_nonneg h0).symm h1, q w H3 (e2.trans e3) (h2.mono (msk_ex e3))⟩
theorem hv_ixV {xs : Tup α} {i : Int} {x : α} (ha : Hv K M ta σ H xs) (hb : Hv K M tb σ H i) (h0 : 0 ≤ i) (hx : xs.items[i.toNat]? = some x) : Hv K M (tOp (rIxT K) ta tb) σ H x := fun H1 e m Q q =>
  ha H1 e m _ fun v H2 e2 d => hb H2 (e.trans e2) (m.ex e2) _ fun u H3 e3 d' => by
    obtain ⟨a, vs, rfl, s, ds⟩ := d.tupv
    obtain ⟨w, h1, h2⟩ := ds.at hx
    exact ⟨a, vs, i, w, rfl, d'.int, ex_t (msk_le.trans e3) s, at_of (Int.toNat_of_nonneg h0).symm h1, q w H3 (e2.trans e3) (h2.mono (msk_ex e3))⟩
theorem hv_p0 {p : α × β} (ha : Hv K M ta σ H p) : Hv K M (tOp (rIxT K) ta (tC (.int 0))) σ H p.1 := fun H1 e m Q q =>
  ha H1 e m _ fun v H2 e2 d => by
    obtain ⟨l, a, b, rfl, s, d1, d2⟩ := d.pair
    exact ⟨l, [a, b], 0, a, rfl, rfl, ex_t msk_le s, at_of (j := 0) rfl rfl, q a H2 e2 d1⟩
theorem hv_p1 {p : α × β} (ha : Hv K M ta σ H p) : Hv K M (tOp (rIxT K) ta (tC (.int 1))) σ H p.2 := fun H1 e m Q q =>
  ha H1 e m _ fun v H2 e2 d => by
    obtain ⟨l, a, b, rfl, s, d1, d2⟩ := d.pair
    exact ⟨l, [a, b], 1, b, rfl, rfl, ex_t msk_le s, at_of (j := 1) rfl rfl, q b H2 e2 d2⟩
theorem hv_t30 {p : T3 α β γ} (ha : Hv K M ta σ H p) : Hv K M (tOp (rIxT K) ta (tC (.int 0))) σ H p.a := fun H1 e m Q q =>
  ha H1 e m _ fun v H2 e2 d => by
    obtain ⟨l, a, b, c, rfl, s, d1, d2, d3⟩ := d.t3
    exact ⟨l, [a, b, c], 0, a, rfl, rfl, ex_t msk_le s, at_of (j := 0) rfl rfl, q a H2 e2 d1⟩
theorem hv_t31 {p : T3 α β γ} (ha : Hv K M ta σ H p) : Hv K M (tOp (rIxT K) ta (tC (.int 1))) σ H p.b := fun H1 e m Q q =>
  ha H1 e m _ fun v H2 e2 d => by
    obtain ⟨l, a, b, c, rfl, s, d1, d2, d3⟩ := d.t3
    exact ⟨l, [a, b, c], 1, b, rfl, rfl, ex_t msk_le s, at_of (j := 1) rfl rfl, q b H2 e2 d2⟩
theorem hv_t32 {p : T3 α β γ} (ha : Hv K M ta σ H p) : Hv K M (tOp (rIxT K) ta (tC (.int 2))) σ H p.c := fun H1 e m Q q =>
  ha H1 e m _ fun v H2 e2 d => by
    obtain ⟨l, a, b, c, rfl, s, d1, d2, d3⟩ := d.t3
    exact ⟨l, [a, b, c], 2, c, rfl, rfl, ex_t msk_le s, at_of (j := 2) rfl rfl, q c H2 e2 d3⟩
def T3.at {α : Type} (p : T3 α α α) (i : Int) : α := if i = 0 then p.a else if i = 1 then p.b else p.c
theorem hv_t3i {p : T3 α α α} {i : Int} (ha : Hv K M ta σ H p) (hb : Hv K M tb σ H i) (h0 : 0 ≤ i) (h3 : i < 3) : Hv K M (tOp (rIxT K) ta tb) σ H (Ly.T3.at p i) := fun H1 e m Q q =>
  ha H1 e m _ fun v H2 e2 d => hb H2 (e.trans e2) (m.ex e2) _ fun u H3 e3 d' => by
    obtain ⟨l, a, b, c, rfl, s, d1, d2, d3⟩ := d.t3
    have hh : i = 0 ∨ i = 1 ∨ i = 2 := by omega
    rcases hh with rfl | rfl | rfl
    · exact ⟨l, [a, b, c], 0, a, rfl, d'.int, ex_t (msk_le.trans e3) s, at_of (j := 0) rfl rfl, q a H3 (e2.trans e3) (d1.mono (msk_ex e3))⟩
    · exact ⟨l, [a, b, c], 1, b, rfl, d'.int, ex_t (msk_le.trans e3) s, at_of (j := 1) rfl rfl, q b H3 (e2.trans e3) (d2.mono (msk_ex e3))⟩
    · exact ⟨l, [a, b, c], 2, c, rfl, d'.int, ex_t (msk_le.trans e3) s, at_of (j := 2) rfl rfl, q c H3 (e2.trans e3) (d3.mono (msk_ex e3))⟩
end
end Ly

namespace Ly
open PySem PySem.Spec PyProof.Rows L2 Evl
open PySem.W (Datum DatumOrd Tup T3 T4)

/-! ### the state of a def: what its names hold -/
/-- what a thing that may still change holds -/
inductive Mv where
  | lst (ds : List Xd)
  | dic (kds : List (Key × Xd))
  | ins (C dx : Addr) (nds : List (Str × Xd))
def MvOk (K : PySem.W.Frag) (H : Hp) (o : HO) : Mv → Prop
  | .lst ds => ∃ vs, o = .lst vs ∧ XpAll K H vs ds
  | .dic kds => ∃ kvs, o = .dK kvs ∧ kvs.map (·.1) = kds.map (·.1) ∧ XpAll K H (kvs.map (·.2)) (kds.map (·.2))
  | .ins C dx nds => ∃ fs, o = .ins C dx fs ∧ fs.map (·.1) = nds.map (·.1) ∧ XpAll K H (fs.map (·.2)) (nds.map (·.2))
theorem MvOk.mono {K : PySem.W.Frag} {H H' : Hp} {o : HO} {m : Mv} (e : Ex H H') (h : MvOk K H o m) : MvOk K H' o m := by
  cases m with
  | lst ds => obtain ⟨vs, e1, e2⟩ := h; exact ⟨vs, e1, dpa_mono e e2⟩
  | dic kds => obtain ⟨vs, e1, e2, e3⟩ := h; exact ⟨vs, e1, e2, dpa_mono e e3⟩
  | ins C dx nds => obtain ⟨vs, e1, e2, e3⟩ := h; exact ⟨vs, e1, e2, dpa_mono e e3⟩
abbrev Mus := List (Addr × Mv)
abbrev Ims := List (V × Xd)
def muA (mus : Mus) : List Addr := mus.map (·.1)
def Im (K : PySem.W.Frag) (H : Hp) : Ims → Prop
  | [] => True
  | (v, d) :: r => Xp K H v d ∧ Im K H r
def Mu (K : PySem.W.Frag) (Hm H : Hp) : Mus → Prop
  | [] => True
  | (l, m) :: r => (∃ o, H l = some o ∧ MvOk K Hm o m) ∧ Mu K Hm H r
theorem Im.mono {K : PySem.W.Frag} {H H' : Hp} (e : Ex H H') : ∀ {is : Ims}, Im K H is → Im K H' is
  | [], h => h
  | (_, _) :: _, h => ⟨dp_mono e h.1, Im.mono e h.2⟩
theorem Mu.mono {K : PySem.W.Frag} {Hm Hm' H H' : Hp} (e : Ex Hm Hm') (e' : Ex H H') : ∀ {ms : Mus}, Mu K Hm H ms → Mu K Hm' H' ms
  | [], h => h
  | (l, m) :: _, h => by
    obtain ⟨⟨o, h1, h2⟩, h3⟩ := h
    exact ⟨⟨o, e' l o h1, h2.mono e⟩, Mu.mono e e' h3⟩
theorem Mu.upd {K : PySem.W.Frag} {Hm H : Hp} {p : Addr} {o : HO} : ∀ {ms : Mus}, p ∉ muA ms → Mu K Hm H ms → Mu K Hm (upd H p o) ms
  | [], _, h => h
  | (l, m) :: r, n, h => by
    have n' : l ≠ p ∧ p ∉ muA r := by
      unfold muA at n
      simp only [List.map_cons, List.mem_cons, not_or] at n
      exact ⟨fun z => n.1 z.symm, n.2⟩
    obtain ⟨⟨o', h1, h2⟩, h3⟩ := h
    exact ⟨⟨o', by rw [upd_ne n'.1]; exact h1, h2⟩, Mu.upd n'.2 h3⟩
theorem Mu.get {K : PySem.W.Frag} {Hm H : Hp} : ∀ {ms : Mus} {k : Nat} {l : Addr} {m : Mv}, Mu K Hm H ms → ms[k]? = some (l, m) → ∃ o, H l = some o ∧ MvOk K Hm o m
  | [], k, _, _, _, e => by simp at e
  | (l, m) :: r, 0, _, _, h, e => by
    have e' : (l, m) = _ := Option.some.inj (show some (l, m) = some _ from e)
    cases e'
    exact h.1
  | (l, m) :: r, k + 1, _, _, h, e => Mu.get (ms := r) h.2 (by simpa using e)
theorem mem_muA {ms : Mus} {k : Nat} {l : Addr} {m : Mv} (e : ms[k]? = some (l, m)) : l ∈ muA ms := by
  have h : (l, m) ∈ ms := List.mem_of_getElem? e
  exact List.mem_map.mpr ⟨_, h, rfl⟩
theorem muA_set : ∀ {ms : Mus} {k : Nat} {l : Addr} {m m' : Mv}, ms[k]? = some (l, m) → muA (ms.set k (l, m')) = muA ms
  | [], k, _, _, _, e => by simp at e
  | (l, m) :: r, 0, _, _, _, e => by
    have e' : (l, m) = _ := Option.some.inj (show some (l, m) = some _ from e)
    cases e'
    rfl
  | (l, m) :: r, k + 1, l', m0, m', e => by
    have := muA_set (ms := r) (k := k) (m' := m') (show r[k]? = some (l', m0) by simpa using e)
    show l :: muA (r.set k (l', m')) = l :: muA r
    rw [this]
theorem Mu.set {K : PySem.W.Frag} {Hm H : Hp} {o : HO} {m' : Mv} : ∀ {ms : Mus} {k : Nat} {l : Addr} {m : Mv}, (muA ms).Nodup → ms[k]? = some (l, m) → MvOk K Hm o m' → Mu K Hm H ms → Mu K Hm (L2.upd H l o) (ms.set k (l, m'))
  | [], k, _, _, _, e, _, _ => by simp at e
  | (l, m) :: r, 0, _, _, nd, e, ok, h => by
    have e' : (l, m) = _ := Option.some.inj (show some (l, m) = some _ from e)
    cases e'
    have nd' : l ∉ muA r ∧ (muA r).Nodup := List.nodup_cons.mp nd
    exact ⟨⟨o, upd_same, ok⟩, Mu.upd nd'.1 h.2⟩
  | (l, m) :: r, k + 1, l', m0, nd, e, ok, h => by
    have nd' : l ∉ muA r ∧ (muA r).Nodup := List.nodup_cons.mp nd
    have e' : r[k]? = some (l', m0) := by simpa using e
    have ne : l ≠ l' := fun z => nd'.1 (z ▸ mem_muA e')
    obtain ⟨⟨o', h1, h2⟩, h3⟩ := h
    exact ⟨⟨o', by rw [upd_ne ne]; exact h1, h2⟩, Mu.set (ms := r) nd'.2 e' ok h3⟩

/-- Mc: what the caller may still change; He: the heap at the entry -/
structure Sg (K : PySem.W.Frag) (Mc : List Addr) (He H : Hp) (is : Ims) (ms : Mus) : Prop where
  ext : Ex He (msk (muA ms) H)
  okc : MOk Mc He
  nd : (muA ms).Nodup
  im : Im K (msk (muA ms ++ Mc) H) is
  mu : Mu K (msk (muA ms ++ Mc) H) H ms
section
variable {K : PySem.W.Frag} {Mc : List Addr} {He H H1 H2 : Hp} {is js : Ims} {ms : Mus} {σ : L2.St} {te ta tb tl : TE}
variable {α β : Type} [DecidableEq α] [Dx α] [DecidableEq β] [Dx β]
theorem Sg.enter (m : MOk Mc He) (im : Im K (msk Mc He) is) : Sg K Mc He He is [] := by
  refine ⟨?_, m, List.nodup_nil, im, True.intro⟩
  show Ex He (msk [] He)
  rw [msk_nil]
  exact Ex.refl He
theorem Sg.all (s : Sg K Mc He H is ms) : Ex He H := s.ext.trans msk_le
theorem Sg.mok (s : Sg K Mc He H is ms) : MOk (muA ms ++ Mc) H := fun l hl => by
  rcases List.mem_append.mp hl with h | h
  · obtain ⟨p, hp, e⟩ := List.mem_map.mp h
    obtain ⟨k, hk⟩ := List.getElem?_of_mem hp
    obtain ⟨o, ho, _⟩ := s.mu.get (k := k) (l := p.1) (m := p.2) hk
    rw [← e, ho]
    exact fun z => nomatch z
  · exact (s.okc.ex s.all) l h
theorem Sg.new_of (s : Sg K Mc He H is ms) {l : Addr} (h : l ∈ muA ms) : He l = none := by
  cases q : He l with
  | none => rfl
  | some o =>
    have := s.ext l o q
    rw [msk_in h] at this
    cases this
theorem Sg.notc (s : Sg K Mc He H is ms) {l : Addr} (h : l ∈ muA ms) : l ∉ Mc := fun z => s.okc l z (s.new_of h)
theorem Sg.ex (s : Sg K Mc He H is ms) (e : Ex H H1) : Sg K Mc He H1 is ms :=
  ⟨s.ext.trans (msk_ex e), s.okc, s.nd, s.im.mono (msk_ex e), s.mu.mono (msk_ex e) e⟩
theorem Sg.put (s : Sg K Mc He H is ms) {v : V} {x : α} (d : Dt K (msk (muA ms ++ Mc) H) v x) : Sg K Mc He H ((v, Dx.toX x) :: is) ms :=
  ⟨s.ext, s.okc, s.nd, ⟨d, s.im⟩, s.mu⟩
/-- a new thing that may change -/
theorem Sg.new (s : Sg K Mc He H is ms) {p : Addr} {o : HO} {m : Mv} (hp : H p = none) (ok : MvOk K (msk (p :: (muA ms ++ Mc)) (upd H p o)) o m) : Sg K Mc He (upd H p o) is ((p, m) :: ms) := by
  have np : p ∉ muA ms := fun z => by
    have := s.mok p (List.mem_append_left _ z)
    exact this hp
  refine ⟨s.ext.trans (msk_new hp), s.okc, List.nodup_cons.mpr ⟨np, s.nd⟩, ?_, ⟨⟨o, upd_same, ok⟩, ?_⟩⟩
  · exact s.im.mono (msk_new hp)
  · have h := s.mu.mono (msk_new (M := muA ms ++ Mc) (o := o) hp) (Ex.refl H)
    exact Mu.upd np h
/-- the k-th of what may change, changed -/
theorem Sg.set (s : Sg K Mc He H is ms) {k : Nat} {l : Addr} {m m' : Mv} {o : HO} (e : ms[k]? = some (l, m)) (ok : MvOk K (msk (muA ms ++ Mc) H) o m') : Sg K Mc He (upd H l o) is (ms.set k (l, m')) := by
  have hl : l ∈ muA ms := mem_muA e
  have ea := muA_set (m' := m') e
  have hl2 : l ∈ muA ms ++ Mc := List.mem_append_left _ hl
  refine ⟨?_, s.okc, by rw [ea]; exact s.nd, ?_, ?_⟩
  · rw [ea, msk_upd hl]; exact s.ext
  · rw [ea, msk_upd hl2]; exact s.im
  · rw [ea, msk_upd hl2]; exact Mu.set s.nd e ok s.mu
/-- no longer changed: the head of what may change, a list -/
theorem Sg.frz {l : Addr} {xs : List α} (s : Sg K Mc He H is ((l, .lst (xs.map Dx.toX)) :: ms)) : Sg K Mc He H ((.ref l, Dx.toX xs) :: is) ms := by
  have sub : Ex (msk (muA ((l, Mv.lst (xs.map Dx.toX)) :: ms) ++ Mc) H) (msk (muA ms ++ Mc) H) := msk_sub fun a ha => List.mem_cons_of_mem _ ha
  have nd := List.nodup_cons.mp s.nd
  obtain ⟨⟨o, h1, vs, e, h2⟩, h3⟩ := s.mu
  subst e
  have nl : l ∉ muA ms ++ Mc := fun z => (List.mem_append.mp z).elim nd.1 (s.notc List.mem_cons_self)
  refine ⟨s.ext.trans (msk_sub fun a ha => List.mem_cons_of_mem _ ha), s.okc, nd.2, ⟨?_, s.im.mono sub⟩, h3.mono sub (Ex.refl H)⟩
  exact Dt.ofList (SqL.of (by rw [msk_out nl]; exact h1)) (dpa_mono sub h2)
/-- what stands first moves behind -/
theorem Sg.rot {l l' : Addr} {m m' : Mv} (s : Sg K Mc He H is ((l, m) :: (l', m') :: ms)) : Sg K Mc He H is ((l', m') :: (l, m) :: ms) := by
  have ea : ∀ N : List Addr, msk (l :: l' :: N) H = msk (l' :: l :: N) H := fun N => by
    funext a
    unfold msk
    by_cases h : a ∈ l :: l' :: N
    · rw [if_pos h, if_pos (by simp only [List.mem_cons] at h ⊢; rcases h with h | h | h <;> simp [h])]
    · rw [if_neg h, if_neg (by simp only [List.mem_cons, not_or] at h ⊢; exact ⟨h.2.1, h.1, h.2.2⟩)]
  refine ⟨?_, s.okc, ?_, ?_, ?_⟩
  · have := s.ext
    show Ex He (msk (l' :: l :: muA ms) H)
    rw [← ea]; exact this
  · have nd : (l :: l' :: muA ms).Nodup := s.nd
    show (l' :: l :: muA ms).Nodup
    simp only [List.nodup_cons, List.mem_cons, not_or] at nd ⊢
    exact ⟨⟨fun z => nd.1.1 z.symm, nd.2.1⟩, nd.1.2, nd.2.2⟩
  · show Im K (msk (l' :: l :: (muA ms ++ Mc)) H) is
    rw [← ea]; exact s.im
  · have mu : (∃ o, H l = some o ∧ MvOk K (msk (l :: l' :: (muA ms ++ Mc)) H) o m) ∧ (∃ o, H l' = some o ∧ MvOk K (msk (l :: l' :: (muA ms ++ Mc)) H) o m') ∧ Mu K (msk (l :: l' :: (muA ms ++ Mc)) H) H ms := s.mu
    show (∃ o, H l' = some o ∧ MvOk K (msk (l' :: l :: (muA ms ++ Mc)) H) o m') ∧ (∃ o, H l = some o ∧ MvOk K (msk (l' :: l :: (muA ms ++ Mc)) H) o m) ∧ Mu K (msk (l' :: l :: (muA ms ++ Mc)) H) H ms
    rw [← ea]
    exact ⟨mu.2.1, mu.1, mu.2.2⟩
/-- forgetting what is known of names -/
theorem Sg.keep (s : Sg K Mc He H is ms) (h : ∀ Hm, Im K Hm is → Im K Hm js) : Sg K Mc He H js ms := ⟨s.ext, s.okc, s.nd, h _ s.im, s.mu⟩
theorem Sg.lst (s : Sg K Mc He H is ms) {k : Nat} {l : Addr} {xs : List α} (e : ms[k]? = some (l, .lst (xs.map Dx.toX))) : ∃ vs, H l = some (.lst vs) ∧ Dts K (msk (muA ms ++ Mc) H) vs xs := by
  obtain ⟨o, h1, vs, e1, h2⟩ := s.mu.get e
  subst e1
  exact ⟨vs, h1, h2⟩

/-! ### a list that may still change, read -/
def HS (K : PySem.W.Frag) (M : List Addr) (te : TE) (σ : L2.St) (H : Hp) (xs : List α) : Prop :=
  ∀ H1, Ex H H1 → MOk M H1 → ∀ Q : VK, (∀ a vs H2, Ex H1 H2 → SqL K H2 a vs → Dts K (msk M H2) vs xs → Q (.ref a) H2) → te σ H1 Q
theorem hs_of {M : List Addr} {xs : List α} (h : Hv K M te σ H xs) : HS K M te σ H xs := fun H1 e m Q q =>
  h H1 e m Q fun v H2 e2 d => by
    obtain ⟨a, vs, rfl, s, ds⟩ := d.list
    exact q a vs H2 e2 (ex_l msk_le s) ds
theorem hs_mut (s : Sg K Mc He H is ms) {k i : Nat} {l : Addr} {xs : List α} (e : ms[k]? = some (l, .lst (xs.map Dx.toX))) (h : σ[i]? = some (some (.ref l))) : HS K (muA ms ++ Mc) (tVar i) σ H xs := fun H1 e1 m Q q => by
  obtain ⟨vs, h1, h2⟩ := (s.ex e1).lst e
  exact ⟨_, h, q l vs H1 (Ex.refl H1) (SqL.of h1) h2⟩
/-- all of it, for a use that leaves nothing behind -/
theorem hv_mut (s : Sg K Mc He H is ms) {k i : Nat} {l : Addr} {xs : List α} (e : ms[k]? = some (l, .lst (xs.map Dx.toX))) (h : σ[i]? = some (some (.ref l))) : Hv K [] (tVar i) σ H xs := fun H1 e1 m Q q => by
  obtain ⟨vs, h1, h2⟩ := (s.ex e1).lst e
  refine ⟨_, h, q _ H1 (Ex.refl H1) ?_⟩
  rw [msk_nil]
  exact Dt.ofList (SqL.of h1) (h2.mono msk_le)
theorem hv_whole (s : Sg K Mc He H is ms) {x : α} (h : Hv K (muA ms ++ Mc) te σ H x) : Hv K [] te σ H x := fun H1 e m Q q =>
  h H1 e (s.mok.ex e) Q fun v H2 e2 d => q v H2 e2 (by rw [msk_nil]; exact d.mono msk_le)
theorem hv_wholeS (s : Sg K Mc He H is ms) {xs : List α} (h : HS K (muA ms ++ Mc) te σ H xs) : Hv K [] te σ H xs := fun H1 e m Q q =>
  h H1 e (s.mok.ex e) Q fun a vs H2 e2 s2 d => q _ H2 e2 (by rw [msk_nil]; exact Dt.ofList s2 (d.mono msk_le))
theorem hv_backI {M : List Addr} {x : Int} (h : Hv K [] te σ H x) : Hv K M te σ H x := fun H1 e m Q q =>
  h H1 e (fun _ z => nomatch z) Q fun v H2 e2 d => by rw [d.int]; exact q _ H2 e2 (Dt.ofInt x)
theorem hv_backB {M : List Addr} {x : Bool} (h : Hv K [] te σ H x) : Hv K M te σ H x := fun H1 e m Q q =>
  h H1 e (fun _ z => nomatch z) Q fun v H2 e2 d => by rw [d.bool]; exact q _ H2 e2 (Dt.ofBool x)
theorem hv_backS {M : List Addr} {x : Str} (h : Hv K [] te σ H x) : Hv K M te σ H x := fun H1 e m Q q =>
  h H1 e (fun _ z => nomatch z) Q fun v H2 e2 d => by rw [d.str]; exact q _ H2 e2 (Dt.ofStr x)
theorem hv_ixS {M : List Addr} {xs : List α} {i : Int} {x : α} (ha : HS K M ta σ H xs) (hb : Hv K M tb σ H i) (h0 : 0 ≤ i) (hx : xs[i.toNat]? = some x) : Hv K M (tOp (rIxL K) ta tb) σ H x := fun H1 e m Q q =>
  ha H1 e m _ fun a vs H2 e2 s ds => hb H2 (e.trans e2) (m.ex e2) _ fun u H3 e3 d' => by
    obtain ⟨w, h1, h2⟩ := ds.at hx
    exact ⟨a, vs, i, w, rfl, d'.int, ex_l e3 s, at_of (Int.toNat_of_nonneg h0).symm h1, q w H3 (e2.trans e3) (h2.mono (msk_ex e3))⟩

/-! ### statements -/
variable {D : Ends} {tz tu tw : TS} {tt : TT} {g : TG}
theorem z_asg {i : Nat} {x : α} (s : Sg K Mc He H is ms) (h : Hv K (muA ms ++ Mc) te σ H x) (k : ∀ v H1, Sg K Mc He H1 ((v, Dx.toX x) :: is) ms → tz D (σ.set i (some v)) H1) : tSeq (tAsg te (gName i)) tz D σ H :=
  h H (Ex.refl H) s.mok _ fun v H1 e d => k v H1 ((s.ex e).put d)
theorem z_asgI {i : Nat} {x : Int} (s : Sg K Mc He H is ms) (h : Hv K (muA ms ++ Mc) te σ H x) (k : ∀ H1, Sg K Mc He H1 is ms → tz D (σ.set i (some (.int x))) H1) : tSeq (tAsg te (gName i)) tz D σ H :=
  h H (Ex.refl H) s.mok _ fun v H1 e d => by rw [d.int]; exact k H1 (s.ex e)
theorem z_asgB {i : Nat} {x : Bool} (s : Sg K Mc He H is ms) (h : Hv K (muA ms ++ Mc) te σ H x) (k : ∀ H1, Sg K Mc He H1 is ms → tz D (σ.set i (some (.bl x))) H1) : tSeq (tAsg te (gName i)) tz D σ H :=
  h H (Ex.refl H) s.mok _ fun v H1 e d => by rw [d.bool]; exact k H1 (s.ex e)
theorem z_asgS {i : Nat} {x : Str} (s : Sg K Mc He H is ms) (h : Hv K (muA ms ++ Mc) te σ H x) (k : ∀ H1, Sg K Mc He H1 is ms → tz D (σ.set i (some (.str x))) H1) : tSeq (tAsg te (gName i)) tz D σ H :=
  h H (Ex.refl H) s.mok _ fun v H1 e d => by rw [d.str]; exact k H1 (s.ex e)
/-- x = [], to be filled -/
theorem z_nil {i : Nat} (s : Sg K Mc He H is ms) (k : ∀ p H1, Sg K Mc He H1 is ((p, .lst []) :: ms) → tz D (σ.set i (some (.ref p))) H1) : tSeq (tAsg (tLst tNil) (gName i)) tz D σ H :=
  ⟨Nat.zero_le _, fun p hp => k p _ (s.new hp ⟨[], rfl, .nil⟩)⟩
theorem z_if {b : Bool} (s : Sg K Mc He H is ms) (h : HT (muA ms ++ Mc) tt σ H b) (h1 : b = true → ∀ H1, Sg K Mc He H1 is ms → tu { D with nx := tz D } σ H1) (h2 : b = false → ∀ H1, Sg K Mc He H1 is ms → tw { D with nx := tz D } σ H1) :
    tSeq (tIfS tt tu tw) tz D σ H := h H (Ex.refl H) s.mok _ fun H1 e => by
  cases b with
  | true => exact h1 rfl H1 (s.ex e)
  | false => exact h2 rfl H1 (s.ex e)
theorem z_ifE {b : Bool} (s : Sg K Mc He H is ms) (h : HT (muA ms ++ Mc) tt σ H b) (h1 : b = true → ∀ H1, Sg K Mc He H1 is ms → tu D σ H1) (h2 : b = false → ∀ H1, Sg K Mc He H1 is ms → tw D σ H1) :
    tIfS tt tu tw D σ H := h H (Ex.refl H) s.mok _ fun H1 e => by
  cases b with
  | true => exact h1 rfl H1 (s.ex e)
  | false => exact h2 rfl H1 (s.ex e)
theorem z_ret {x : α} (s : Sg K Mc He H is ms) (h : Hv K (muA ms ++ Mc) te σ H x) (k : ∀ v H1, Ex He H1 → Dt K (msk Mc H1) v x → D.rt v H1) : tRet te D σ H :=
  h H (Ex.refl H) s.mok _ fun v H1 e d => k v H1 (s.ex e).all (d.mono (msk_sub fun a ha => List.mem_append_right _ ha))
/-- xs.append(e) -/
theorem z_app {kk : Nat} {l : Addr} {xs : List α} {x : α} (s : Sg K Mc He H is ms) (e : ms[kk]? = some (l, .lst (xs.map Dx.toX))) (hi : Ev ta σ H (.ref l)) (h : Hv K (muA ms ++ Mc) te σ H x) (hz : xs.length < 100000)
    (k : ∀ H1, Sg K Mc He H1 is (ms.set kk (l, .lst ((xs ++ [x]).map Dx.toX))) → D.nx σ H1) : tDrop (tBM K "list" rAppend ta (tCons te tNil)) D σ H := hi H (Ex.refl H) _ fun H1 e1 => by
  obtain ⟨vs, h1, h2⟩ := (s.ex e1).lst e
  refine ⟨Or.inl ⟨rfl, vs, sq_of h1⟩, h H1 e1 (s.mok.ex e1) _ fun v H2 e2 d => ?_⟩
  obtain ⟨vs', h3, h4⟩ := ((s.ex e1).ex e2).lst e
  refine ⟨l, vs', v, rfl, rfl, h3, sz_lt (by rw [h4.len]; exact hz), k _ (((s.ex e1).ex e2).set e ⟨_, rfl, ?_⟩)⟩
  rw [List.map_append]
  exact dpa_app h4 (.cons d .nil)
theorem zq_app {kk : Nat} {l : Addr} {xs : List α} {x : α} (s : Sg K Mc He H is ms) (e : ms[kk]? = some (l, .lst (xs.map Dx.toX))) (hi : Ev ta σ H (.ref l)) (h : Hv K (muA ms ++ Mc) te σ H x) (hz : xs.length < 100000)
    (k : ∀ H1, Sg K Mc He H1 is (ms.set kk (l, .lst ((xs ++ [x]).map Dx.toX))) → tz D σ H1) : tSeq (tDrop (tBM K "list" rAppend ta (tCons te tNil))) tz D σ H := z_app (D := { D with nx := tz D }) s e hi h hz k
/-- the same as last statements -/
theorem z_asgE {i : Nat} {x : α} (s : Sg K Mc He H is ms) (h : Hv K (muA ms ++ Mc) te σ H x) (k : ∀ v H1, Sg K Mc He H1 ((v, Dx.toX x) :: is) ms → D.nx (σ.set i (some v)) H1) : tAsg te (gName i) D σ H :=
  h H (Ex.refl H) s.mok _ fun v H1 e d => k v H1 ((s.ex e).put d)
theorem z_asgIE {i : Nat} {x : Int} (s : Sg K Mc He H is ms) (h : Hv K (muA ms ++ Mc) te σ H x) (k : ∀ H1, Sg K Mc He H1 is ms → D.nx (σ.set i (some (.int x))) H1) : tAsg te (gName i) D σ H :=
  h H (Ex.refl H) s.mok _ fun v H1 e d => by rw [d.int]; exact k H1 (s.ex e)
theorem z_asgBE {i : Nat} {x : Bool} (s : Sg K Mc He H is ms) (h : Hv K (muA ms ++ Mc) te σ H x) (k : ∀ H1, Sg K Mc He H1 is ms → D.nx (σ.set i (some (.bl x))) H1) : tAsg te (gName i) D σ H :=
  h H (Ex.refl H) s.mok _ fun v H1 e d => by rw [d.bool]; exact k H1 (s.ex e)
theorem z_asgSE {i : Nat} {x : Str} (s : Sg K Mc He H is ms) (h : Hv K (muA ms ++ Mc) te σ H x) (k : ∀ H1, Sg K Mc He H1 is ms → D.nx (σ.set i (some (.str x))) H1) : tAsg te (gName i) D σ H :=
  h H (Ex.refl H) s.mok _ fun v H1 e d => by rw [d.str]; exact k H1 (s.ex e)
theorem z_cut {N : L2.St → Hp → Prop} (h : tu { D with nx := N } σ H) (k : ∀ σ' H', N σ' H' → tz D σ' H') : tCut tu tz D σ H := ⟨N, h, k⟩

/-! ### loops -/
theorem for_listD {M : List Addr} {a : Addr} {xs : List α} (Pv : Nat → L2.St → Hp → Prop) (h0 : Pv 0 σ H) (hl : ∀ i σ' H', i ≤ xs.length → Pv i σ' H' → ∃ vs, SqL K H' a vs ∧ Dts K (msk M H') vs xs)
    (hs : ∀ i x w σ' H', xs[i]? = some x → Pv i σ' H' → Dt K (msk M H') w x → g w σ' H' fun σ2 H2 => tu { D with nx := Pv (i + 1), ct := Pv (i + 1), bk := D.nx } σ2 H2) (hd : ∀ σ' H', Pv xs.length σ' H' → D.nx σ' H') :
    ∃ W : Nat → Nat → L2.St → Hp → Prop, (∃ m, W 0 m σ H) ∧ ∀ i m σ H, W i m σ H →
      ((Itl K a).stop i H ∧ D.nx σ H) ∨ ((Itl K a).go i H ∧ ∃ N : L2.St → Hp → Prop, (∀ σ' H', N σ' H' → ∃ m', m' < m ∧ W (i + 1) m' σ' H') ∧ ∀ x H', (Itl K a).yld i H x H' → g x σ H' fun σ2 H2 => tu { D with nx := N, ct := N, bk := D.nx } σ2 H2) := by
  refine ⟨fun i m σ H => m = xs.length - i ∧ i ≤ xs.length ∧ Pv i σ H, ⟨xs.length, by simp, Nat.zero_le _, h0⟩, ?_⟩
  rintro i m σ H ⟨rfl, hi, p⟩
  obtain ⟨vs, q, ds⟩ := hl i σ H hi p
  have el := ds.len
  by_cases hlt : i < xs.length
  · refine .inr ⟨⟨vs, vs[i]'(by omega), q, by simp [show i < vs.length by omega]⟩, Pv (i + 1), fun σ' H' p' => ⟨xs.length - (i + 1), by omega, rfl, hlt, p'⟩, fun x H' y => ?_⟩
    obtain ⟨e, y⟩ := y
    subst e
    obtain ⟨w, h1, h2⟩ := ds.at (i := i) (x := xs[i]) (by simp [hlt])
    have e1 : x = w := Option.some.inj ((y vs q).symm.trans h1)
    subst e1
    exact hs i _ x σ _ (by simp [hlt]) p h2
  · have e : i = xs.length := by omega
    subst e
    exact .inl ⟨⟨vs, q, by omega⟩, hd σ H p⟩
/-- over a value -/
theorem z_for {xs : List α} (s : Sg K Mc He H is ms) (h : Hv K (muA ms ++ Mc) tl σ H xs) (Pv : V → Nat → L2.St → Hp → Prop) (h0 : ∀ v H1, Sg K Mc He H1 ((v, Dx.toX xs) :: is) ms → Pv v 0 σ H1)
    (hl : ∀ v i σ' H', Pv v i σ' H' → Dt K (msk (muA ms ++ Mc) H') v xs)
    (hs : ∀ v i x w σ' H', xs[i]? = some x → Pv v i σ' H' → Dt K (msk (muA ms ++ Mc) H') w x → g w σ' H' fun σ2 H2 => tu { D with nx := Pv v (i + 1), ct := Pv v (i + 1), bk := D.nx } σ2 H2)
    (hd : ∀ v σ' H', Pv v xs.length σ' H' → D.nx σ' H') : tFor (iList K tl) g tu D σ H :=
  h H (Ex.refl H) s.mok _ fun v H1 e d => by
    obtain ⟨a, vs, rfl, s1, ds⟩ := d.list
    refine ⟨a, rfl, ⟨vs, ex_l msk_le s1⟩, for_listD (Pv (.ref a)) (h0 _ H1 ((s.ex e).put d)) (fun i σ' H' _ p => ?_) (hs _) (hd _)⟩
    obtain ⟨a', vs', e', s2, ds'⟩ := (hl _ i σ' H' p).list
    cases e'
    exact ⟨vs', ex_l msk_le s2, ds'⟩
theorem zq_for {xs : List α} (s : Sg K Mc He H is ms) (h : Hv K (muA ms ++ Mc) tl σ H xs) (Pv : V → Nat → L2.St → Hp → Prop) (h0 : ∀ v H1, Sg K Mc He H1 ((v, Dx.toX xs) :: is) ms → Pv v 0 σ H1)
    (hl : ∀ v i σ' H', Pv v i σ' H' → Dt K (msk (muA ms ++ Mc) H') v xs)
    (hs : ∀ v i x w σ' H', xs[i]? = some x → Pv v i σ' H' → Dt K (msk (muA ms ++ Mc) H') w x → g w σ' H' fun σ2 H2 => tu { D with nx := Pv v (i + 1), ct := Pv v (i + 1), bk := tz D } σ2 H2)
    (hd : ∀ v σ' H', Pv v xs.length σ' H' → tz D σ' H') : tSeq (tFor (iList K tl) g tu) tz D σ H := z_for (D := { D with nx := tz D }) s h Pv h0 hl hs hd
/-- over the numbers 0 .. n - 1 -/
theorem z_forR {j : Nat} {n : Int} (s : Sg K Mc He H is ms) (h : Hv K (muA ms ++ Mc) te σ H n) (hn : -100000 ≤ n ∧ n ≤ 100000) (Pv : Nat → L2.St → Hp → Prop) (h0 : ∀ H1, Sg K Mc He H1 is ms → Pv 0 σ H1)
    (hs : ∀ (i : Nat) σ' H', (i : Int) < n → Pv i σ' H' → tu { D with nx := Pv (i + 1), ct := Pv (i + 1), bk := D.nx } (σ'.set j (some (.int (i : Int)))) H') (hd : ∀ σ' H', Pv n.toNat σ' H' → D.nx σ' H') : tFor (iRng1 (tCons te tNil)) (gName j) tu D σ H :=
  h H (Ex.refl H) s.mok _ fun v H1 e d => by
    refine ⟨n, by rw [d.int], by omega, by omega, for_range (lo := 0) (n := n.toNat) Pv (h0 H1 (s.ex e)) (fun i σ' H' hi p => ?_) hd⟩
    have e0 : (0 : Int) + (i : Int) = (i : Int) := Int.zero_add _
    show tu { D with nx := Pv (i + 1), ct := Pv (i + 1), bk := D.nx } (σ'.set j (some (.int ((0 : Int) + (i : Int))))) H'
    rw [e0]
    exact hs i σ' H' (by omega) p
theorem zq_forR {j : Nat} {n : Int} (s : Sg K Mc He H is ms) (h : Hv K (muA ms ++ Mc) te σ H n) (hn : -100000 ≤ n ∧ n ≤ 100000) (Pv : Nat → L2.St → Hp → Prop) (h0 : ∀ H1, Sg K Mc He H1 is ms → Pv 0 σ H1)
    (hs : ∀ (i : Nat) σ' H', (i : Int) < n → Pv i σ' H' → tu { D with nx := Pv (i + 1), ct := Pv (i + 1), bk := tz D } (σ'.set j (some (.int (i : Int)))) H') (hd : ∀ σ' H', Pv n.toNat σ' H' → tz D σ' H') : tSeq (tFor (iRng1 (tCons te tNil)) (gName j) tu) tz D σ H :=
  z_forR (D := { D with nx := tz D }) s h hn Pv h0 hs hd
theorem z_forR2 {j : Nat} {lo n : Int} (s : Sg K Mc He H is ms) (h1 : Hv K (muA ms ++ Mc) ta σ H lo) (h : Hv K (muA ms ++ Mc) te σ H n) (hn : -100000 ≤ lo ∧ lo ≤ 100000 ∧ -100000 ≤ n ∧ n ≤ 100000) (Pv : Nat → L2.St → Hp → Prop) (h0 : ∀ H1, Sg K Mc He H1 is ms → Pv 0 σ H1)
    (hs : ∀ (i : Nat) σ' H', lo + (i : Int) < n → Pv i σ' H' → tu { D with nx := Pv (i + 1), ct := Pv (i + 1), bk := D.nx } (σ'.set j (some (.int (lo + (i : Int))))) H') (hd : ∀ σ' H', Pv (n - lo).toNat σ' H' → D.nx σ' H') : tFor (iRng2 (tCons ta (tCons te tNil))) (gName j) tu D σ H :=
  h1 H (Ex.refl H) s.mok _ fun v H1 e d => h H1 e (s.mok.ex e) _ fun v' H2 e2 d' => by
    refine ⟨lo, n, by rw [d.int, d'.int], ⟨by omega, by omega, by omega, by omega⟩, for_range (lo := lo) (n := (n - lo).toNat) Pv (h0 H2 ((s.ex e).ex e2)) (fun i σ' H' hi p => hs i σ' H' (by omega) p) hd⟩
theorem zq_forR2 {j : Nat} {lo n : Int} (s : Sg K Mc He H is ms) (h1 : Hv K (muA ms ++ Mc) ta σ H lo) (h : Hv K (muA ms ++ Mc) te σ H n) (hn : -100000 ≤ lo ∧ lo ≤ 100000 ∧ -100000 ≤ n ∧ n ≤ 100000) (Pv : Nat → L2.St → Hp → Prop) (h0 : ∀ H1, Sg K Mc He H1 is ms → Pv 0 σ H1)
    (hs : ∀ (i : Nat) σ' H', lo + (i : Int) < n → Pv i σ' H' → tu { D with nx := Pv (i + 1), ct := Pv (i + 1), bk := tz D } (σ'.set j (some (.int (lo + (i : Int))))) H') (hd : ∀ σ' H', Pv (n - lo).toNat σ' H' → tz D σ' H') : tSeq (tFor (iRng2 (tCons ta (tCons te tNil))) (gName j) tu) tz D σ H :=
  z_forR2 (D := { D with nx := tz D }) s h1 h hn Pv h0 hs hd
end
end Ly

namespace Ly
open PySem PySem.Spec PyProof.Rows L2 Evl
open PySem.W (Datum DatumOrd Tup T3 T4)

/-! ### calls -/
section
variable {K : PySem.W.Frag} {Mc M : List Addr} {He H H1 H2 : Hp} {is js : Ims} {ms : Mus} {σ : L2.St} {te ta tb tl : TE}
variable {α β γ : Type} [DecidableEq α] [Dx α] [DecidableEq β] [Dx β]
/-- the promise of a def that changes nothing: its arguments hold what args tells of c, it gives F c -/
def PrD (K : PySem.W.Frag) (args : γ → List Xd) (pre : γ → Prop) (F : γ → β) : Sp := fun vs H Q _ =>
  ∃ (Mc : List Addr) (c : γ), MOk Mc H ∧ XpAll K (msk Mc H) vs (args c) ∧ pre c ∧ ∀ w H', Ex H H' → Dt K (msk Mc H') w (F c) → Q w H'
def HD (K : PySem.W.Frag) (M : List Addr) (ta : TA) (σ : L2.St) (H : Hp) (ds : List Xd) : Prop := HA M ta σ H (fun vs H => XpAll K (msk M H) vs ds)
theorem hd_nil : HD K M tNil σ H [] := fun H1 e m Q q => q [] H1 (Ex.refl H1) .nil
theorem hd_cons {tr : TA} {x : α} {ds : List Xd} (h : Hv K M te σ H x) (hr : HD K M tr σ H ds) : HD K M (tCons te tr) σ H (Dx.toX x :: ds) := fun H1 e m Q q =>
  h H1 e m _ fun v H2 e2 d => hr H2 (e.trans e2) (m.ex e2) _ fun vs H3 e3 p => q _ H3 (e2.trans e3) (.cons (dp_mono (msk_ex e3) d) p)
theorem hv_call {args : γ → List Xd} {pre : γ → Prop} {F : γ → β} {tr : TA} {E : XK} (c : γ) (h : HD K M tr σ H (args c)) (p : pre c) : Hv K M (tCall (PrD K args pre F) [] E tr) σ H (F c) := fun H1 e m Q q =>
  h H1 e m _ fun vs H2 e2 d => by
    show PrD K args pre F (vs ++ []) H2 Q E
    rw [List.append_nil]
    exact ⟨M, c, m.ex e2, d, p, fun w H3 e3 d3 => q w H3 (e2.trans e3) d3⟩
end

/-! ### loops, as functions -/
def loopN {S : Type} (f : S → Int → S) : Nat → Int → S → S
  | 0, _, s => s
  | n + 1, k, s => loopN f n (k + 1) (f s k)
theorem loopN_step {S : Type} {f : S → Int → S} {n i : Nat} {lo : Int} {s : S} (h : i < n) : loopN f (n - i) (lo + (i : Int)) s = loopN f (n - (i + 1)) (lo + ((i + 1 : Nat) : Int)) (f s (lo + (i : Int))) := by
  have e : n - i = (n - (i + 1)) + 1 := by omega
  rw [e]
  show loopN f (n - (i + 1)) (lo + (i : Int) + 1) _ = _
  rw [show lo + (i : Int) + 1 = lo + ((i + 1 : Nat) : Int) by omega]
theorem loopN_end {S : Type} {f : S → Int → S} {n : Nat} {lo : Int} {s : S} : loopN f (n - n) lo s = s := by rw [Nat.sub_self]; rfl
/-- a turn that may leave: a result, a break, or on -/
inductive Lp (ρ S : Type) where
  | ret (r : ρ)
  | brk (s : S)
  | nxt (s : S)
def loopNR {ρ S : Type} (f : S → Int → Lp ρ S) : Nat → Int → S → ρ ⊕ S
  | 0, _, s => .inr s
  | n + 1, k, s => match f s k with
    | .ret r => .inl r
    | .brk s' => .inr s'
    | .nxt s' => loopNR f n (k + 1) s'
theorem loopNR_nxt {ρ S : Type} {f : S → Int → Lp ρ S} {n i : Nat} {lo : Int} {s s' : S} (h : i < n) (e : f s (lo + (i : Int)) = .nxt s') : loopNR f (n - i) (lo + (i : Int)) s = loopNR f (n - (i + 1)) (lo + ((i + 1 : Nat) : Int)) s' := by
  have e1 : n - i = (n - (i + 1)) + 1 := by omega
  rw [e1]
  show (match f s (lo + (i : Int)) with | .ret r => Sum.inl r | .brk s' => Sum.inr s' | .nxt s' => loopNR f (n - (i + 1)) (lo + (i : Int) + 1) s') = _
  rw [e, show lo + (i : Int) + 1 = lo + ((i + 1 : Nat) : Int) by omega]
theorem loopNR_ret {ρ S : Type} {f : S → Int → Lp ρ S} {n i : Nat} {lo : Int} {s : S} {r : ρ} (h : i < n) (e : f s (lo + (i : Int)) = .ret r) : loopNR f (n - i) (lo + (i : Int)) s = .inl r := by
  have e1 : n - i = (n - (i + 1)) + 1 := by omega
  rw [e1]
  show (match f s (lo + (i : Int)) with | .ret r => Sum.inl r | .brk s' => Sum.inr s' | .nxt s' => loopNR f (n - (i + 1)) (lo + (i : Int) + 1) s') = _
  rw [e]
theorem loopNR_brk {ρ S : Type} {f : S → Int → Lp ρ S} {n i : Nat} {lo : Int} {s s' : S} (h : i < n) (e : f s (lo + (i : Int)) = .brk s') : loopNR f (n - i) (lo + (i : Int)) s = .inr s' := by
  have e1 : n - i = (n - (i + 1)) + 1 := by omega
  rw [e1]
  show (match f s (lo + (i : Int)) with | .ret r => Sum.inl r | .brk s' => Sum.inr s' | .nxt s' => loopNR f (n - (i + 1)) (lo + (i : Int) + 1) s') = _
  rw [e]
theorem loopNR_end {ρ S : Type} {f : S → Int → Lp ρ S} {n : Nat} {lo : Int} {s : S} : loopNR f (n - n) lo s = .inr s := by rw [Nat.sub_self]; rfl
theorem drop_at {α : Type} {xs : List α} {i : Nat} {x : α} (h : xs[i]? = some x) : xs.drop i = x :: xs.drop (i + 1) := by
  obtain ⟨h1, h2⟩ := List.getElem?_eq_some_iff.mp h
  rw [List.drop_eq_getElem_cons h1, h2]
theorem foldl_step {α S : Type} {f : S → α → S} {xs : List α} {i : Nat} {x : α} {s : S} (h : xs[i]? = some x) : (xs.drop i).foldl f s = (xs.drop (i + 1)).foldl f (f s x) := by
  rw [drop_at h]; rfl
theorem foldl_end {α S : Type} {f : S → α → S} {xs : List α} {s : S} : (xs.drop xs.length).foldl f s = s := by rw [List.drop_length]; rfl
def loopL {α ρ S : Type} (f : S → α → Lp ρ S) : List α → S → ρ ⊕ S
  | [], s => .inr s
  | x :: r, s => match f s x with
    | .ret r => .inl r
    | .brk s' => .inr s'
    | .nxt s' => loopL f r s'
theorem loopL_nxt {α ρ S : Type} {f : S → α → Lp ρ S} {xs : List α} {i : Nat} {x : α} {s s' : S} (h : xs[i]? = some x) (e : f s x = .nxt s') : loopL f (xs.drop i) s = loopL f (xs.drop (i + 1)) s' := by
  rw [drop_at h, loopL, e]
theorem loopL_ret {α ρ S : Type} {f : S → α → Lp ρ S} {xs : List α} {i : Nat} {x : α} {s : S} {r : ρ} (h : xs[i]? = some x) (e : f s x = .ret r) : loopL f (xs.drop i) s = .inl r := by
  rw [drop_at h, loopL, e]
theorem loopL_brk {α ρ S : Type} {f : S → α → Lp ρ S} {xs : List α} {i : Nat} {x : α} {s s' : S} (h : xs[i]? = some x) (e : f s x = .brk s') : loopL f (xs.drop i) s = .inr s' := by
  rw [drop_at h, loopL, e]
theorem loopL_end {α ρ S : Type} {f : S → α → Lp ρ S} {xs : List α} {s : S} : loopL f (xs.drop xs.length) s = .inr s := by rw [List.drop_length]; rfl

/-! ### items, lengths -/
section
variable {K : PySem.W.Frag} {Mc M : List Addr} {He H H1 H2 : Hp} {is js : Ims} {ms : Mus} {σ : L2.St} {te ta tb tl : TE}
variable {α β γ : Type} [DecidableEq α] [Dx α] [DecidableEq β] [Dx β] [DecidableEq γ] [Dx γ]
theorem getD_at {xs : List α} {i : Int} {d : α} (h0 : 0 ≤ i) (h : i < (xs.length : Int)) : xs[i.toNat]? = some (xs.getD i.toNat d) := by
  have h1 : i.toNat < xs.length := by omega
  rw [List.getD_eq_getElem?_getD, List.getElem?_eq_getElem h1]
  rfl
theorem hv_at {xs : List α} {i : Int} (d : α) (ha : HS K M ta σ H xs) (hb : Hv K M tb σ H i) (h0 : 0 ≤ i) (h : i < (xs.length : Int)) : Hv K M (tOp (rIxL K) ta tb) σ H (xs.getD i.toNat d) :=
  hv_ixS ha hb h0 (getD_at h0 h)
theorem hv_atV {xs : Tup α} {i : Int} (d : α) (ha : Hv K M ta σ H xs) (hb : Hv K M tb σ H i) (h0 : 0 ≤ i) (h : i < (xs.items.length : Int)) : Hv K M (tOp (rIxT K) ta tb) σ H (xs.items.getD i.toNat d) :=
  hv_ixV ha hb h0 (getD_at h0 h)
/-- len -/
theorem hv_len {xs : List α} (ha : HS K M ta σ H xs) : Hv K M (tCB (fun xs H Q => ∃ x n, xs = [x] ∧ LenV K x H n ∧ Q (.int n) H) (tCons ta tNil)) σ H (xs.length : Int) := fun H1 e m Q q =>
  ha H1 e m _ fun a vs H2 e2 s d => ⟨.ref a, vs.length, rfl, Or.inl ⟨vs, s, rfl⟩, q _ H2 e2 (by rw [d.len]; exact Dt.ofInt _)⟩
theorem hv_lenV {xs : Tup α} (ha : Hv K M ta σ H xs) : Hv K M (tCB (fun xs H Q => ∃ x n, xs = [x] ∧ LenV K x H n ∧ Q (.int n) H) (tCons ta tNil)) σ H (xs.items.length : Int) := fun H1 e m Q q =>
  ha H1 e m _ fun v H2 e2 d => by
    obtain ⟨a, vs, rfl, s, ds⟩ := d.tupv
    exact ⟨.ref a, vs.length, rfl, Or.inr ⟨vs, ex_t msk_le s, rfl⟩, q _ H2 e2 (by rw [ds.len]; exact Dt.ofInt _)⟩
theorem hv_len2 {x : α × β} (ha : Hv K M ta σ H x) : Hv K M (tCB (fun xs H Q => ∃ x n, xs = [x] ∧ LenV K x H n ∧ Q (.int n) H) (tCons ta tNil)) σ H (2 : Int) := fun H1 e m Q q =>
  ha H1 e m _ fun v H2 e2 d => by
    obtain ⟨a, u, w, rfl, s, _⟩ := d.pair
    exact ⟨.ref a, 2, rfl, Or.inr ⟨_, ex_t msk_le s, rfl⟩, q _ H2 e2 (Dt.ofInt _)⟩
theorem hv_len3 {x : T3 α β γ} (ha : Hv K M ta σ H x) : Hv K M (tCB (fun xs H Q => ∃ x n, xs = [x] ∧ LenV K x H n ∧ Q (.int n) H) (tCons ta tNil)) σ H (3 : Int) := fun H1 e m Q q =>
  ha H1 e m _ fun v H2 e2 d => by
    obtain ⟨a, u, w, z, rfl, s, _⟩ := d.t3
    exact ⟨.ref a, 3, rfl, Or.inr ⟨_, ex_t msk_le s, rfl⟩, q _ H2 e2 (Dt.ofInt _)⟩

/-! ### isinstance -/
/-- the built-in type of every value of α -/
class TyNm (α : Type) [DecidableEq α] [Dx α] where
  nm : String
  ty : ∀ {K : PySem.W.Frag} {H : Hp} {v : V} {x : α}, Dt K H v x → TyX K H v (.type nm)
theorem tyx_ex {K : PySem.W.Frag} {H H' : Hp} {v : V} {n : String} (e : Ex H H') (h : TyX K H v (.type n)) : TyX K H' v (.type n) := by
  cases h with
  | base h =>
    cases h with
    | non => exact .base .non
    | bl b => exact .base (.bl b)
    | int b => exact .base (.int b)
    | str b => exact .base (.str b)
    | flt b => exact .base (.flt b)
    | lst h => exact .base (.lst (e _ _ h))
    | frz h => exact .base (.frz (e _ _ h))
    | tup h => exact .base (.tup (e _ _ h))
    | dK h => exact .base (.dK (e _ _ h))
    | dT h => exact .base (.dT (e _ _ h))
  | byt y => exact .byt y
  | set h => exact .set (e _ _ h)
  | kList h c => exact .kList h c
  | kTuple h c => exact .kTuple h c
  | kDict h c => exact .kDict h c
  | fTuple h => exact .fTuple (e _ _ h)
  | fDict h => exact .fDict (e _ _ h)

instance : TyNm Int := ⟨"int", fun d => by cases d.int; exact .base (.int _)⟩
instance : TyNm Bool := ⟨"bool", fun d => by cases d.bool; exact .base (.bl _)⟩
instance : TyNm Str := ⟨"str", fun d => by cases d.str; exact .base (.str _)⟩
theorem tyx_L {K : PySem.W.Frag} {H : Hp} {a : Addr} {vs : List V} (h : SqL K H a vs) : TyX K H (.ref a) (.type "list") := by
  rcases h with (h | ⟨o, h⟩) | ⟨o, its, n, h, c, _⟩
  · exact .base (.lst h)
  · exact .base (.frz h)
  · exact .kList h c
theorem tyx_T {K : PySem.W.Frag} {H : Hp} {a : Addr} {vs : List V} (h : SqT K H a vs) : TyX K H (.ref a) (.type "tuple") := by
  rcases h with (h | ⟨o, h⟩) | ⟨o, its, n, h, c, _⟩
  · exact .base (.tup h)
  · exact .fTuple h
  · exact .kTuple h c
instance : TyNm (List α) := ⟨"list", fun d => by obtain ⟨a, vs, rfl, s, _⟩ := d.list; exact tyx_L s⟩
instance : TyNm (Tup α) := ⟨"tuple", fun d => by obtain ⟨a, vs, rfl, s, _⟩ := d.tupv; exact tyx_T s⟩
instance : TyNm (α × β) := ⟨"tuple", fun d => by obtain ⟨a, u, w, rfl, s, _⟩ := d.pair; exact tyx_T s⟩
instance : TyNm (T3 α β γ) := ⟨"tuple", fun d => by obtain ⟨a, u, w, z, rfl, s, _⟩ := d.t3; exact tyx_T s⟩
theorem hv_isi {x : α} [T : TyNm α] {n : String} {b : Bool} (ha : Hv K M ta σ H x) (h : kitB T.nm n = some b) : Hv K M (tCB (rIsi K) (tCons ta (tCons (tC (.ty n)) tNil))) σ H b := fun H1 e m Q q =>
  ha H1 e m _ fun v H2 e2 d => ⟨v, .ty n, .type T.nm, .type n, b, rfl, .ty n, tyx_ex msk_le (T.ty d), kit_ty h, q _ H2 e2 (Dt.ofBool b)⟩

/-! ### == and < of data -/
theorem dt_holds [Datum α] [DxD α] {X : Cx} {pins : List (Addr × Obj)} {s : Shared} {x : α} {v : V} {u : Value} (I : Inv X pins σ H s) (d : Dt X.K H v x) (r : RelV v u) : PySem.W.Holds s.heap u x := Dp.reads I _ v u (DxD.link d) r
def rEqT (α : Type) [DecidableEq α] [Dx α] (K : PySem.W.Frag) : R2 := fun x y H Q => ∃ a b : α, Dt K H x a ∧ Dt K H y b ∧ Q (.bl (decide (a = b))) H
def rNeT (α : Type) [DecidableEq α] [Dx α] (K : PySem.W.Frag) : R2 := fun x y H Q => ∃ a b : α, Dt K H x a ∧ Dt K H y b ∧ Q (.bl (!decide (a = b))) H
theorem op_eqT [Datum α] [DxD α] {X : Cx} (hu : X.A.units + Datum.depth α < cLine) : OpR X (compareOp .Eq) (rEqT α X.K) := by
  intro pins s σ H x y v u Q I rx ry h
  obtain ⟨a, b, da, db, q⟩ := h
  exact PySem.W.eq_datum (dt_holds I da rx) (dt_holds I db ry) hu ⟨.bl _, H, I, rfl, q⟩
theorem op_neT [Datum α] [DxD α] {X : Cx} (hu : X.A.units + Datum.depth α < cLine) : OpR X (compareOp .NotEq) (rNeT α X.K) := by
  intro pins s σ H x y v u Q I rx ry h
  obtain ⟨a, b, da, db, q⟩ := h
  exact PySem.W.ne_datum (dt_holds I da rx) (dt_holds I db ry) hu ⟨.bl _, H, I, rfl, by rw [show decide (a ≠ b) = !decide (a = b) from decide_not]; exact q⟩
theorem hv_eqT {x y : α} (ha : Hv K [] ta σ H x) (hb : Hv K [] tb σ H y) : Hv K M (tOp (rEqT α K) ta tb) σ H (decide (x = y)) := fun H1 e m Q q =>
  ha H1 e (fun _ z => nomatch z) _ fun v H2 e2 d => hb H2 (e.trans e2) (fun _ z => nomatch z) _ fun u H3 e3 d' => by
    rw [msk_nil] at d d'
    exact ⟨x, y, d.mono e3, d', q _ H3 (e2.trans e3) (Dt.ofBool _)⟩
theorem hv_neT {x y : α} (ha : Hv K [] ta σ H x) (hb : Hv K [] tb σ H y) : Hv K M (tOp (rNeT α K) ta tb) σ H (!decide (x = y)) := fun H1 e m Q q =>
  ha H1 e (fun _ z => nomatch z) _ fun v H2 e2 d => hb H2 (e.trans e2) (fun _ z => nomatch z) _ fun u H3 e3 d' => by
    rw [msk_nil] at d d'
    exact ⟨x, y, d.mono e3, d', q _ H3 (e2.trans e3) (Dt.ofBool _)⟩
end
section
variable {K : PySem.W.Frag} {M : List Addr} {H H1 H2 : Hp} {σ : L2.St} {te ta tb tl : TE}
variable {α : Type} [DecidableEq α] [Dx α] [DatumOrd α]
def rLtT (α : Type) [DecidableEq α] [Dx α] [DatumOrd α] (K : PySem.W.Frag) : R2 := fun x y H Q => ∃ a b : α, Dt K H x a ∧ Dt K H y b ∧ Q (.bl (DatumOrd.lt a b)) H
theorem op_ltT [DxD α] {X : Cx} (hu : X.A.units + Datum.depth α < cLine) : OpR X (compareOp .Lt) (rLtT α X.K) := by
  intro pins s σ H x y v u Q I rx ry h
  obtain ⟨a, b, da, db, q⟩ := h
  exact PySem.W.lt_datum (dt_holds I da rx) (dt_holds I db ry) hu ⟨.bl _, H, I, rfl, q⟩
theorem hv_ltT {x y : α} (ha : Hv K [] ta σ H x) (hb : Hv K [] tb σ H y) : Hv K M (tOp (rLtT α K) ta tb) σ H (DatumOrd.lt x y) := fun H1 e m Q q =>
  ha H1 e (fun _ z => nomatch z) _ fun v H2 e2 d => hb H2 (e.trans e2) (fun _ z => nomatch z) _ fun u H3 e3 d' => by
    rw [msk_nil] at d d'
    exact ⟨x, y, d.mono e3, d', q _ H3 (e2.trans e3) (Dt.ofBool _)⟩
end
theorem hud {A : Around} {k d : Nat} (hr : Room k A) (h : d ≤ 64) : A.units + d < cLine := Nat.lt_of_le_of_lt (Nat.add_le_add_left h _) hr.units
end Ly

namespace Ly
open PySem PySem.Spec PyProof.Rows L2 Evl
open PySem.W (Datum DatumOrd Tup T3 T4)

theorem dpa_inv {K : PySem.W.Frag} {H : Hp} {vs : List V} {d : Xd} {ds : List Xd} (h : XpAll K H vs (d :: ds)) : ∃ v r, vs = v :: r ∧ Xp K H v d ∧ XpAll K H r ds := by
  cases h with
  | cons a b => exact ⟨_, _, rfl, a, b⟩
theorem dpa_inv0 {K : PySem.W.Frag} {H : Hp} {vs : List V} (h : XpAll K H vs []) : vs = [] := by cases h; rfl

section
variable {K : PySem.W.Frag} {Mc : List Addr} {He H H1 H2 : Hp} {is js : Ims} {ms : Mus} {σ : L2.St} {te ta tb tl : TE}
variable {α β : Type} [DecidableEq α] [Dx α] [DecidableEq β] [Dx β]
variable {D : Ends} {tz tu tw : TS} {tt : TT} {g : TG}
/-! ### statements that name what they store -/
theorem z_asgG {i : Nat} {x : α} (s : Sg K Mc He H is ms) (h : Hv K (muA ms ++ Mc) te σ H x) (k : ∀ y, y = x → ∀ v H1, Sg K Mc He H1 ((v, Dx.toX y) :: is) ms → tz D (σ.set i (some v)) H1) : tSeq (tAsg te (gName i)) tz D σ H :=
  z_asg s h (k x rfl)
theorem z_asgIG {i : Nat} {x : Int} (s : Sg K Mc He H is ms) (h : Hv K (muA ms ++ Mc) te σ H x) (k : ∀ y, y = x → ∀ H1, Sg K Mc He H1 is ms → tz D (σ.set i (some (.int y))) H1) : tSeq (tAsg te (gName i)) tz D σ H :=
  z_asgI s h (k x rfl)
theorem z_asgBG {i : Nat} {x : Bool} (s : Sg K Mc He H is ms) (h : Hv K (muA ms ++ Mc) te σ H x) (k : ∀ y, y = x → ∀ H1, Sg K Mc He H1 is ms → tz D (σ.set i (some (.bl y))) H1) : tSeq (tAsg te (gName i)) tz D σ H :=
  z_asgB s h (k x rfl)
theorem z_asgSG {i : Nat} {x : Str} (s : Sg K Mc He H is ms) (h : Hv K (muA ms ++ Mc) te σ H x) (k : ∀ y, y = x → ∀ H1, Sg K Mc He H1 is ms → tz D (σ.set i (some (.str y))) H1) : tSeq (tAsg te (gName i)) tz D σ H :=
  z_asgS s h (k x rfl)
theorem z_augG {i : Nat} {f : Int → Int → Int} {a b : Int} (s : Sg K Mc He H is ms) (hx : σ[i]? = some (some (.int a))) (h : Hv K (muA ms ++ Mc) te σ H b) (k : ∀ y, y = f a b → ∀ H1, Sg K Mc He H1 is ms → tz D (σ.set i (some (.int y))) H1) : tSeq (tAug i te (ipI f)) tz D σ H :=
  ⟨.int a, hx, h H (Ex.refl H) s.mok _ fun v H1 e d => ⟨a, b, rfl, d.int, k _ rfl H1 (s.ex e)⟩⟩
theorem z_nilG {i : Nat} (α : Type) [DecidableEq α] [Dx α] (s : Sg K Mc He H is ms) (k : ∀ y : List α, y = [] → ∀ p H1, Sg K Mc He H1 is ((p, .lst (y.map Dx.toX)) :: ms) → tz D (σ.set i (some (.ref p))) H1) : tSeq (tAsg (tLst tNil) (gName i)) tz D σ H :=
  z_nil s (k [] rfl)
theorem zq_appG {kk : Nat} {l : Addr} {xs : List α} {x : α} (s : Sg K Mc He H is ms) (e : ms[kk]? = some (l, .lst (xs.map Dx.toX))) (hi : Ev ta σ H (.ref l)) (h : Hv K (muA ms ++ Mc) te σ H x) (hz : xs.length < 100000)
    (k : ∀ y, y = xs ++ [x] → ∀ H1, Sg K Mc He H1 is (ms.set kk (l, .lst (y.map Dx.toX))) → tz D σ H1) : tSeq (tDrop (tBM K "list" rAppend ta (tCons te tNil))) tz D σ H := zq_app s e hi h hz (k _ rfl)
theorem zq_ret {x : α} (s : Sg K Mc He H is ms) (h : Hv K (muA ms ++ Mc) te σ H x) (k : ∀ v H1, Ex He H1 → Dt K (msk Mc H1) v x → D.rt v H1) : tSeq (tRet te) tz D σ H := z_ret (D := { D with nx := tz D }) s h k
/-- an if without else -/
theorem z_ifx {b : Bool} (s : Sg K Mc He H is ms) (h : HT (muA ms ++ Mc) tt σ H b) (h1 : b = true → ∀ H1, Sg K Mc He H1 is ms → tu { D with nx := tz D } σ H1) (h2 : b = false → ∀ H1, Sg K Mc He H1 is ms → tz D σ H1) :
    tSeq (tIfS tt tu tNext) tz D σ H := z_if s h h1 h2
/-- an if behind which both ways go on, N what they reach -/
theorem z_ifj {b : Bool} (N : L2.St → Hp → Prop) (s : Sg K Mc He H is ms) (h : HT (muA ms ++ Mc) tt σ H b) (h1 : b = true → ∀ H1, Sg K Mc He H1 is ms → tu { D with nx := N } σ H1) (h2 : b = false → ∀ H1, Sg K Mc He H1 is ms → tw { D with nx := N } σ H1)
    (k : ∀ σ' H', N σ' H' → tz D σ' H') : tCut (tIfS tt tu tw) tz D σ H := ⟨N, z_ifE (D := { D with nx := N }) s h h1 h2, k⟩

/-! ### loops that name their item -/
theorem zq_forR1G {j : Nat} {n : Int} (s : Sg K Mc He H is ms) (h : Hv K (muA ms ++ Mc) te σ H n) (hn : -100000 ≤ n ∧ n ≤ 100000) (Pv : Nat → L2.St → Hp → Prop) (h0 : ∀ H1, Sg K Mc He H1 is ms → Pv 0 σ H1)
    (hs : ∀ (i : Nat) (x : Int) σ' H', x = (0 : Int) + (i : Int) → i < n.toNat → Pv i σ' H' → tu { D with nx := Pv (i + 1), ct := Pv (i + 1), bk := tz D } (σ'.set j (some (.int x))) H') (hd : ∀ σ' H', Pv n.toNat σ' H' → tz D σ' H') : tSeq (tFor (iRng1 (tCons te tNil)) (gName j) tu) tz D σ H :=
  zq_forR s h hn Pv h0 (fun i σ' H' hi p => hs i _ σ' H' (Int.zero_add _).symm (by omega) p) hd
theorem zq_forR2G {j : Nat} {lo n : Int} (s : Sg K Mc He H is ms) (h1 : Hv K (muA ms ++ Mc) ta σ H lo) (h : Hv K (muA ms ++ Mc) te σ H n) (hn : -100000 ≤ lo ∧ lo ≤ 100000 ∧ -100000 ≤ n ∧ n ≤ 100000) (Pv : Nat → L2.St → Hp → Prop) (h0 : ∀ H1, Sg K Mc He H1 is ms → Pv 0 σ H1)
    (hs : ∀ (i : Nat) (x : Int) σ' H', x = lo + (i : Int) → i < (n - lo).toNat → Pv i σ' H' → tu { D with nx := Pv (i + 1), ct := Pv (i + 1), bk := tz D } (σ'.set j (some (.int x))) H') (hd : ∀ σ' H', Pv (n - lo).toNat σ' H' → tz D σ' H') : tSeq (tFor (iRng2 (tCons ta (tCons te tNil))) (gName j) tu) tz D σ H :=
  zq_forR2 s h1 h hn Pv h0 (fun i σ' H' hi p => hs i _ σ' H' rfl (by omega) p) hd
/-- over a list, the target a name; the item put among what is known -/
theorem zq_forG {xs : List α} {j : Nat} (s : Sg K Mc He H is ms) (h : Hv K (muA ms ++ Mc) tl σ H xs) (Pv : V → Nat → L2.St → Hp → Prop) (h0 : ∀ v H1, Sg K Mc He H1 ((v, Dx.toX xs) :: is) ms → Pv v 0 σ H1)
    (hl : ∀ v i σ' H', Pv v i σ' H' → Dt K (msk (muA ms ++ Mc) H') v xs)
    (hs : ∀ v i x w σ' H', xs[i]? = some x → Pv v i σ' H' → Dt K (msk (muA ms ++ Mc) H') w x → tu { D with nx := Pv v (i + 1), ct := Pv v (i + 1), bk := tz D } (σ'.set j (some w)) H')
    (hd : ∀ v σ' H', Pv v xs.length σ' H' → tz D σ' H') : tSeq (tFor (iList K tl) (gName j) tu) tz D σ H := zq_for s h Pv h0 hl hs hd
/-- over a list that may still change (not in the loop) -/
theorem zq_forM {xs : List α} {kk : Nat} {l : Addr} {ii : Nat} (s : Sg K Mc He H is ms) (e : ms[kk]? = some (l, .lst (xs.map Dx.toX))) (hi : σ[ii]? = some (some (.ref l))) (Pv : Nat → L2.St → Hp → Prop) (h0 : ∀ H1, Sg K Mc He H1 is ms → Pv 0 σ H1)
    (hl : ∀ i σ' H', Pv i σ' H' → ∃ vs, H' l = some (.lst vs) ∧ Dts K (msk (muA ms ++ Mc) H') vs xs)
    (hs : ∀ i x w σ' H', xs[i]? = some x → Pv i σ' H' → Dt K (msk (muA ms ++ Mc) H') w x → g w σ' H' fun σ2 H2 => tu { D with nx := Pv (i + 1), ct := Pv (i + 1), bk := tz D } σ2 H2)
    (hd : ∀ σ' H', Pv xs.length σ' H' → tz D σ' H') : tSeq (tFor (iList K (tVar ii)) g tu) tz D σ H := by
  obtain ⟨vs, h1, h2⟩ := s.lst e
  refine ⟨_, hi, l, rfl, ⟨vs, SqL.of h1⟩, for_listD (D := { D with nx := tz D }) (M := muA ms ++ Mc) Pv (h0 H s) (fun i σ' H' _ p => ?_) hs hd⟩
  obtain ⟨vs', h3, h4⟩ := hl i σ' H' p
  exact ⟨vs', SqL.of h3, h4⟩
end
end Ly

namespace Ly
open PySem PySem.Spec PyProof.Rows L2 Evl
open PySem.W (Datum DatumOrd Tup T3 T4)
theorem dts_ints {K : PySem.W.Frag} {H : Hp} : ∀ ns : List Int, Dts K H (ns.map V.int) ns
  | [] => Dts.nil
  | n :: r => Dts.cons (Dt.ofInt n) (dts_ints r)
/-- the law's promise is kept where its mirror is true -/
theorem law_sp {K : PySem.W.Frag} {F : List Int → Bool} {pre : List Int → Prop} {H : Hp} {a : Addr} {ns : List Int} {E : XK} (h : SqL K H a (ns.map V.int)) (p : pre ns) (t : F ns = true) :
    PrD K (fun c : List Int => [Dx.toX c]) pre F [.ref a] H (fun v _ => v = .bl true) E := by
  refine ⟨[], ns, (fun _ z => nomatch z), ?_, p, fun w H' e d => ?_⟩
  · rw [msk_nil]
    exact .cons (Dt.ofList h (dts_ints ns)) .nil
  · rw [d.bool, t]
end Ly

namespace Ly
open PySem PySem.Spec PyProof.Rows L2 Evl
open PySem.W (Datum DatumOrd Tup T3 T4)

section
variable {K : PySem.W.Frag} {Mc M : List Addr} {He H H1 H2 : Hp} {is js : Ims} {ms : Mus} {σ : L2.St} {te ta tb tl : TE} {tt : TT} {g : TG} {tlo thi : TO}
variable {α β γ δ : Type} [DecidableEq α] [Dx α] [DecidableEq β] [Dx β] [DecidableEq γ] [Dx γ] [DecidableEq δ] [Dx δ]
/-! ### parts of lists, copies -/
def HO' (M : List Addr) (to : TO) (σ : L2.St) (H : Hp) (o : Option Int) : Prop := ∀ H1, Ex H H1 → MOk M H1 → ∀ Q : Option Int → Hp → Prop, (∀ H2, Ex H1 H2 → Q o H2) → to σ H1 Q
theorem ho_none : HO' M tNoPart σ H none := fun H1 _ _ _ q => q H1 (Ex.refl H1)
theorem ho_some {i : Int} (h : Hv K M te σ H i) : HO' M (tPart te) σ H (some i) := fun H1 e m _ q => h H1 e m _ fun v H2 e2 d => ⟨i, d.int, q H2 e2⟩
def cutL {α : Type} (xs : List α) (lo hi : Option Int) : List α := (xs.drop (HT.sIx xs.length 0 lo)).take (HT.sIx xs.length xs.length hi - HT.sIx xs.length 0 lo)
theorem dpa_drop {H : Hp} : ∀ {vs : List V} {ds : List Xd} (n : Nat), XpAll K H vs ds → XpAll K H (vs.drop n) (ds.drop n)
  | _, _, 0, h => h
  | _, _, n + 1, .nil => .nil
  | _, _, n + 1, .cons a b => dpa_drop n b
theorem dpa_take {H : Hp} : ∀ {vs : List V} {ds : List Xd} (n : Nat), XpAll K H vs ds → XpAll K H (vs.take n) (ds.take n)
  | _, _, 0, h => by simpa using XpAll.nil
  | _, _, n + 1, .nil => .nil
  | _, _, n + 1, .cons a b => .cons a (dpa_take n b)
theorem Dts.cut {H : Hp} {vs : List V} {xs : List α} {lo hi : Option Int} (h : Dts K H vs xs) : Dts K H (cutV vs lo hi) (cutL xs lo hi) := by
  unfold cutV cutL Dts
  rw [h.len, List.map_take, List.map_drop]
  exact dpa_take _ (dpa_drop _ h)
theorem hv_slice {xs : List α} {lo hi : Option Int} (h : HS K M te σ H xs) (h1 : HO' M tlo σ H lo) (h2 : HO' M thi σ H hi) : Hv K M (tSl (rSlL K) te tlo thi) σ H (cutL xs lo hi) := fun H1 e m Q q =>
  h H1 e m _ fun a vs H2 e2 s d => h1 H2 (e.trans e2) (m.ex e2) _ fun H3 e3 => h2 H3 ((e.trans e2).trans e3) ((m.ex e2).ex e3) _ fun H4 e4 =>
    ⟨a, vs, rfl, ex_l (e3.trans e4) s, fun p hp => by
      have m4 := ((m.ex e2).ex e3).ex e4
      have e5 : Ex H4 (upd H4 p (.lst (cutV vs lo hi))) := Ex.new hp
      exact q _ _ (((e2.trans e3).trans e4).trans e5) (Dt.ofList (SqL.of (msk_at m4 hp)) ((d.mono (msk_ex ((e3.trans e4).trans e5))).cut))⟩
theorem hv_listOf {xs : List α} (h : HS K M te σ H xs) : Hv K M (tCB (fun xs H Q => ∃ p ys, xs = [.ref p] ∧ (SqL K H p ys ∨ SqT K H p ys) ∧ ∀ l, H l = none → Q (.ref l) (upd H l (.lst ys))) (tCons te tNil)) σ H xs := fun H1 e m Q q =>
  h H1 e m _ fun a vs H2 e2 s d => ⟨a, vs, rfl, Or.inl s, fun p hp => by
    have e3 : Ex H2 (upd H2 p (.lst vs)) := Ex.new hp
    exact q _ _ (e2.trans e3) (Dt.ofList (SqL.of (msk_at (m.ex e2) hp)) (d.mono (msk_ex e3)))⟩
theorem hv_listOfV {xs : Tup α} (h : Hv K M te σ H xs) : Hv K M (tCB (fun xs H Q => ∃ p ys, xs = [.ref p] ∧ (SqL K H p ys ∨ SqT K H p ys) ∧ ∀ l, H l = none → Q (.ref l) (upd H l (.lst ys))) (tCons te tNil)) σ H xs.items := fun H1 e m Q q =>
  h H1 e m _ fun v H2 e2 d => by
    obtain ⟨a, vs, rfl, s, ds⟩ := d.tupv
    refine ⟨a, vs, rfl, Or.inr (ex_t msk_le s), fun p hp => ?_⟩
    have e3 : Ex H2 (upd H2 p (.lst vs)) := Ex.new hp
    exact q _ _ (e2.trans e3) (Dt.ofList (SqL.of (msk_at (m.ex e2) hp)) (ds.mono (msk_ex e3)))
theorem hv_tupleOf {xs : List α} (h : HS K M te σ H xs) : Hv K M (tCB (fun xs H Q => ∃ p ys, xs = [.ref p] ∧ ((SqL K H p ys ∧ ∀ l, H l = none → Q (.ref l) (upd H l (.tup ys))) ∨ (SqT K H p ys ∧ Q (.ref p) H))) (tCons te tNil)) σ H (Tup.mk xs) := fun H1 e m Q q =>
  h H1 e m _ fun a vs H2 e2 s d => ⟨a, vs, rfl, Or.inl ⟨s, fun p hp => by
    have e3 : Ex H2 (upd H2 p (.tup vs)) := Ex.new hp
    exact q _ _ (e2.trans e3) (Dt.ofTupv (SqT.of (msk_at (m.ex e2) hp)) (d.mono (msk_ex e3)))⟩⟩
theorem hv_cat {xs ys : List α} (ha : HS K M ta σ H xs) (hb : HS K M tb σ H ys) (hz : xs.length + ys.length ≤ 100000) :
    Hv K M (tOp (fun x y H Q => ∃ a b xs ys, x = .ref a ∧ y = .ref b ∧ SqL K H a xs ∧ SqL K H b ys ∧ xs.length + ys.length ≤ sizeLine ∧ ∀ p, H p = none → Q (.ref p) (upd H p (.lst (xs ++ ys)))) ta tb) σ H (xs ++ ys) := fun H1 e m Q q =>
  ha H1 e m _ fun a vs H2 e2 s d => hb H2 (e.trans e2) (m.ex e2) _ fun b ws H3 e3 s' d' =>
    ⟨a, b, vs, ws, rfl, rfl, ex_l e3 s, s', sz_of (by rw [d.len, d'.len]; exact hz), fun p hp => by
      have m3 := (m.ex e2).ex e3
      have e4 : Ex H3 (upd H3 p (.lst (vs ++ ws))) := Ex.new hp
      exact q _ _ ((e2.trans e3).trans e4) (Dt.ofList (SqL.of (msk_at m3 hp)) ((d.mono (msk_ex (e3.trans e4))).app (d'.mono (msk_ex e4))))⟩
/-! ### truth, None -/
theorem ht_truL {xs : List α} (h : HS K M te σ H xs) : HT M (fun σ H Q => te σ H fun x H' => ∃ k, TruV K x H' k ∧ Q k H') σ H (!xs.isEmpty) := fun H1 e m Q q =>
  h H1 e m _ fun a vs H2 e2 s d => ⟨!vs.isEmpty, Or.inl ⟨vs, s, rfl⟩, by
    have : vs.isEmpty = xs.isEmpty := by
      have := d.len
      cases vs <;> cases xs <;> simp_all
    rw [this]
    exact q H2 e2⟩
theorem dt_none [SomeX α] {v : V} {x : Option α} (d : Dt K H v x) : decide (v = .non) = x.isNone := by
  cases x with
  | none => cases (show Xp K H v .none from d); rfl
  | some a =>
    have n := SomeX.some a
    have d' : Xp K H v (Dx.toX a) := d
    generalize Dx.toX a = z at n d'
    cases d' with
    | non => exact absurd rfl n
    | _ => rfl
theorem hv_isN [SomeX α] {x : Option α} (h : Hv K M ta σ H x) : Hv K M (tOp (fun x y H Q => y = .non ∧ Q (.bl (decide (x = .non))) H) ta (tC .non)) σ H x.isNone := fun H1 e m Q q =>
  h H1 e m _ fun v H2 e2 d => ⟨rfl, q _ H2 e2 (by rw [dt_none d]; exact Dt.ofBool _)⟩
theorem hv_notN [SomeX α] {x : Option α} (h : Hv K M ta σ H x) : Hv K M (tOp (fun x y H Q => y = .non ∧ Q (.bl (!decide (x = .non))) H) ta (tC .non)) σ H (!x.isNone) := fun H1 e m Q q =>
  h H1 e m _ fun v H2 e2 d => ⟨rfl, q _ H2 e2 (by rw [dt_none d]; exact Dt.ofBool _)⟩
theorem hv_un [SomeX α] {x : α} (h : Hv K M te σ H (some x)) : Hv K M te σ H x := fun H1 e m Q q => h H1 e m Q fun v H2 e2 d => q v H2 e2 d

/-! ### comprehensions -/
theorem take_snoc {xs : List α} {i : Nat} {x : α} (h : xs[i]? = some x) : xs.take (i + 1) = xs.take i ++ [x] := by
  rw [List.take_add_one, h]; rfl
theorem lc_listD {a : Addr} {xs : List α} {vs : List Nat} {D : Addr} {Qd : Hp → Prop} {M' : List Addr} (Pv : Nat → Hp → Prop) (h0 : Pv 0 (upd H1 D (.lst []))) (hl : ∀ i H', i ≤ xs.length → Pv i H' → ∃ us, SqL K H' a us ∧ Dts K (msk M' H') us xs)
    (hs : ∀ i x w H', xs[i]? = some x → Pv i H' → Dt K (msk M' H') w x → g w (wipe σ vs) H' fun σ2 H2 => wipe σ2 vs = wipe σ vs ∧ tt σ2 H2 fun b H3 =>
      if b = true then te σ2 H3 fun y H4 => ∃ acc, H4 D = some (.lst acc) ∧ acc.length < sizeLine ∧ Pv (i + 1) (upd H4 D (.lst (acc ++ [y]))) else Pv (i + 1) H3) (hd : ∀ H', Pv xs.length H' → Qd H') :
    ∃ W : Nat → Nat → Hp → Prop, (∃ m, W 0 m (upd H1 D (.lst []))) ∧ ∀ i m H, W i m H →
      ((Itl K a).stop i H ∧ Qd H) ∨ ((Itl K a).go i H ∧ ∃ Nx : Hp → Prop, (∀ H', Nx H' → ∃ m', m' < m ∧ W (i + 1) m' H') ∧ ∀ x H', (Itl K a).yld i H x H' → g x (wipe σ vs) H' fun σ2 H2 => wipe σ2 vs = wipe σ vs ∧ tt σ2 H2 fun b H3 =>
        if b = true then te σ2 H3 fun y H4 => ∃ acc, H4 D = some (.lst acc) ∧ acc.length < sizeLine ∧ Nx (upd H4 D (.lst (acc ++ [y]))) else Nx H3) := by
  refine ⟨fun i m H => m = xs.length - i ∧ i ≤ xs.length ∧ Pv i H, ⟨xs.length, by simp, Nat.zero_le _, h0⟩, ?_⟩
  rintro i m H ⟨rfl, hi, p⟩
  obtain ⟨us, q, ds⟩ := hl i H hi p
  have el := ds.len
  by_cases hlt : i < xs.length
  · refine .inr ⟨⟨us, us[i]'(by omega), q, by simp [show i < us.length by omega]⟩, Pv (i + 1), fun H' p' => ⟨xs.length - (i + 1), by omega, rfl, hlt, p'⟩, fun x H' y => ?_⟩
    obtain ⟨e, y⟩ := y
    subst e
    obtain ⟨w, h1, h2⟩ := ds.at (i := i) (x := xs[i]) (by simp [hlt])
    have e1 : x = w := Option.some.inj ((y us q).symm.trans h1)
    subst e1
    exact hs i _ x _ (by simp [hlt]) p h2
  · have e : i = xs.length := by omega
    subst e
    exact .inl ⟨⟨us, q, by omega⟩, hd H p⟩
/-- a turn's end: the item goes behind the others, or not -/
theorem lc_turn {D : Addr} {ys zs : List β} {b : Bool} {y : β} {σ2 : L2.St} (s : Sg K Mc He H is ((D, .lst (ys.map Dx.toX)) :: ms)) (hz : ys.length < 50000) (N : Hp → Prop)
    (ht : HT (muA ((D, Mv.lst (ys.map Dx.toX)) :: ms) ++ Mc) tt σ2 H b) (he : b = true → Hv K (muA ((D, Mv.lst (ys.map Dx.toX)) :: ms) ++ Mc) te σ2 H y)
    (hzs : zs = if b = true then ys ++ [y] else ys) (hN : ∀ H', (∃ H4, Ex H H4 ∧ (H' = H4 ∨ ∃ o, H' = upd H4 D o)) → Sg K Mc He H' is ((D, .lst (zs.map Dx.toX)) :: ms) → N H') :
    tt σ2 H fun b' H3 => if b' = true then te σ2 H3 fun v H4 => ∃ acc, H4 D = some (.lst acc) ∧ acc.length < sizeLine ∧ N (upd H4 D (.lst (acc ++ [v]))) else N H3 := by
  refine ht H (Ex.refl H) s.mok _ fun H3 e3 => ?_
  cases b with
  | false =>
    show N H3
    rw [if_neg Bool.false_ne_true] at hzs
    subst hzs
    exact hN H3 ⟨H3, e3, .inl rfl⟩ (s.ex e3)
  | true =>
    show te σ2 H3 fun v H4 => ∃ acc, H4 D = some (.lst acc) ∧ acc.length < sizeLine ∧ N (upd H4 D (.lst (acc ++ [v])))
    rw [if_pos rfl] at hzs
    subst hzs
    refine he rfl H3 e3 ((s.ex e3).mok) _ fun v H4 e4 d => ?_
    have s4 := (s.ex e3).ex e4
    obtain ⟨us, h1, h2⟩ := s4.lst (k := 0) rfl
    refine ⟨us, h1, sz_lt (by rw [h2.len]; omega), hN _ ⟨H4, e3.trans e4, .inr ⟨_, rfl⟩⟩ (s4.set (k := 0) (m' := .lst ((ys ++ [y]).map Dx.toX)) rfl ⟨_, rfl, ?_⟩)⟩
    rw [List.map_append]
    exact dpa_app h2 (.cons d .nil)
theorem filter_snoc {f : α → Bool} {ef : α → β} {xs : List α} {i : Nat} {x : α} (h : xs[i]? = some x) : ((xs.take (i + 1)).filter f).map ef = if f x = true then ((xs.take i).filter f).map ef ++ [ef x] else ((xs.take i).filter f).map ef := by
  rw [take_snoc h, List.filter_append, List.map_append]
  by_cases e : f x = true
  · rw [if_pos e]; simp [List.filter_cons, e]
  · rw [if_neg e]; simp [List.filter_cons, e]
theorem hv_lcL {vs : List Nat} (s : Sg K Mc He H is ms) {xs : List α} (f : α → Bool) (ef : α → β) (h : Hv K (muA ms ++ Mc) tl σ H xs) (hz : xs.length ≤ 40000)
    (hb : ∀ D src x w (ys : List β) H1, Sg K Mc He H1 ((w, Dx.toX x) :: (src, Dx.toX xs) :: is) ((D, .lst (ys.map Dx.toX)) :: ms) → x ∈ xs →
      ∀ Q : L2.St → Hp → Prop, (∀ σ2, wipe σ2 vs = wipe σ vs → HT (muA ((D, Mv.lst (ys.map Dx.toX)) :: ms) ++ Mc) tt σ2 H1 (f x) → (f x = true → Hv K (muA ((D, Mv.lst (ys.map Dx.toX)) :: ms) ++ Mc) te σ2 H1 (ef x)) → Q σ2 H1) → g w (wipe σ vs) H1 Q) :
    Hv K (muA ms ++ Mc) (tLc (iList K tl) g tt te vs) σ H ((xs.filter f).map ef) := fun H1 e m Q q =>
  h H1 e m _ fun v H2 e2 d => by
    obtain ⟨a, us, rfl, s1, ds⟩ := d.list
    refine ⟨a, rfl, ⟨us, ex_l msk_le s1⟩, fun D hD => ?_⟩
    have sA : Sg K Mc He H2 ((.ref a, Dx.toX xs) :: is) ms := ((s.ex e).ex e2).put d
    have sB : Sg K Mc He (upd H2 D (.lst [])) ((.ref a, Dx.toX xs) :: is) ((D, .lst (([] : List β).map Dx.toX)) :: ms) := sA.new hD ⟨[], rfl, .nil⟩
    refine lc_listD (xs := xs) (M' := D :: (muA ms ++ Mc)) (fun i H' => Ex H2 H' ∧ Sg K Mc He H' ((.ref a, Dx.toX xs) :: is) ((D, .lst ((((xs.take i).filter f).map ef).map Dx.toX)) :: ms)) ⟨Ex.new hD, sB⟩
      (fun i H' _ p => ?_) (fun i x w H' hx p dw => ?_) (fun H' p => ?_)
    · obtain ⟨a', us', e', s2, ds'⟩ := Dt.list (α := α) p.2.im.1
      cases e'
      exact ⟨us', ex_l msk_le s2, ds'⟩
    · have hi : i < xs.length := (List.getElem?_eq_some_iff.mp hx).1
      refine hb D (.ref a) x w _ H' (p.2.put dw) (List.mem_of_getElem? hx) _ fun σ2 hw ht he => ⟨hw, ?_⟩
      have hlen : (((xs.take i).filter f).map ef).length < 50000 := by
        rw [List.length_map]
        have := List.length_filter_le f (xs.take i)
        rw [List.length_take] at this
        omega
      have key := lc_turn (ms := ms) (zs := ((xs.take (i + 1)).filter f).map ef) p.2 hlen (fun H3 => Ex H2 H3 ∧ Sg K Mc He H3 ((.ref a, Dx.toX xs) :: is) ((D, .lst ((((xs.take (i + 1)).filter f).map ef).map Dx.toX)) :: ms)) ht he (filter_snoc hx) (fun H3 h4 s3 => ⟨by
        obtain ⟨H4, e4, e5⟩ := h4
        rcases e5 with e5 | ⟨o, e5⟩
        · rw [e5]; exact p.1.trans e4
        · rw [e5]; exact Ex.mut (p.1.trans e4) hD, s3⟩)
      exact key
    · have z := p.2
      rw [List.take_length] at z
      exact q _ H' (e2.trans p.1) (z.frz).im.1

/-- without a test -/
theorem hv_lcL0 {vs : List Nat} (s : Sg K Mc He H is ms) {xs : List α} (ef : α → β) (h : Hv K (muA ms ++ Mc) tl σ H xs) (hz : xs.length ≤ 40000)
    (hb : ∀ D src x w (ys : List β) H1, Sg K Mc He H1 ((w, Dx.toX x) :: (src, Dx.toX xs) :: is) ((D, .lst (ys.map Dx.toX)) :: ms) → x ∈ xs →
      ∀ Q : L2.St → Hp → Prop, (∀ σ2, wipe σ2 vs = wipe σ vs → Hv K (muA ((D, Mv.lst (ys.map Dx.toX)) :: ms) ++ Mc) te σ2 H1 (ef x) → Q σ2 H1) → g w (wipe σ vs) H1 Q) :
    Hv K (muA ms ++ Mc) (tLc (iList K tl) g tYes te vs) σ H (xs.map ef) := by
  have key := hv_lcL (g := g) (tt := tYes) (te := te) (vs := vs) s (fun _ => true) ef h hz (fun D src x w ys H1 s1 hx Q k => hb D src x w ys H1 s1 hx Q fun σ2 hw he => k σ2 hw (fun H2 _ _ _ q => q H2 (Ex.refl H2)) fun _ => he)
  exact key.is (by rw [List.filter_eq_self.mpr (fun _ _ => rfl)])
/-- 0, 1, .. below n -/
def irng (lo : Int) (n : Nat) : List Int := (List.range n).map fun (i : Nat) => lo + (i : Int)
theorem irng_get {lo : Int} {n i : Nat} (h : i < n) : (irng lo n)[i]? = some (lo + (i : Int)) := by
  unfold irng
  rw [List.getElem?_map, List.getElem?_range h]
  rfl
theorem irng_len {lo : Int} {n : Nat} : (irng lo n).length = n := by unfold irng; rw [List.length_map, List.length_range]
theorem hv_lcR {vs : List Nat} (s : Sg K Mc He H is ms) {n : Int} (f : Int → Bool) (ef : Int → β) (h : Hv K (muA ms ++ Mc) ta σ H n) (hz : -100000 ≤ n ∧ n ≤ 40000)
    (hb : ∀ D (x : Int) (ys : List β) H1, Sg K Mc He H1 is ((D, .lst (ys.map Dx.toX)) :: ms) → 0 ≤ x ∧ x < n →
      ∀ Q : L2.St → Hp → Prop, (∀ σ2, wipe σ2 vs = wipe σ vs → HT (muA ((D, Mv.lst (ys.map Dx.toX)) :: ms) ++ Mc) tt σ2 H1 (f x) → (f x = true → Hv K (muA ((D, Mv.lst (ys.map Dx.toX)) :: ms) ++ Mc) te σ2 H1 (ef x)) → Q σ2 H1) → g (.int x) (wipe σ vs) H1 Q) :
    Hv K (muA ms ++ Mc) (tLc (iRng1 (tCons ta tNil)) g tt te vs) σ H (((irng 0 n.toNat).filter f).map ef) := fun H1 e m Q q =>
  h H1 e m _ fun v H2 e2 d => by
    refine ⟨n, by rw [d.int], by omega, by omega, fun D hD => ?_⟩
    have sA : Sg K Mc He H2 is ms := (s.ex e).ex e2
    have sB : Sg K Mc He (upd H2 D (.lst [])) is ((D, .lst (([] : List β).map Dx.toX)) :: ms) := sA.new hD ⟨[], rfl, .nil⟩
    refine lc_range (lo := 0) (n := n.toNat) (fun i H' => Ex H2 H' ∧ Sg K Mc He H' is ((D, .lst (((((irng 0 n.toNat).take i).filter f).map ef).map Dx.toX)) :: ms)) ⟨Ex.new hD, sB⟩
      (fun i H' hi p => ?_) (fun H' p => ?_)
    · have hx : (irng 0 n.toNat)[i]? = some ((0 : Int) + (i : Int)) := irng_get hi
      refine hb D ((0 : Int) + (i : Int)) _ H' p.2 ⟨by omega, by omega⟩ _ fun σ2 hw ht he => ⟨hw, ?_⟩
      have hlen : ((((irng 0 n.toNat).take i).filter f).map ef).length < 50000 := by
        rw [List.length_map]
        have := List.length_filter_le f ((irng 0 n.toNat).take i)
        rw [List.length_take, irng_len] at this
        omega
      exact lc_turn (ms := ms) (zs := (((irng 0 n.toNat).take (i + 1)).filter f).map ef) p.2 hlen (fun H3 => Ex H2 H3 ∧ Sg K Mc He H3 is ((D, .lst (((((irng 0 n.toNat).take (i + 1)).filter f).map ef).map Dx.toX)) :: ms)) ht he (filter_snoc hx) (fun H3 h4 s3 => ⟨by
        obtain ⟨H4, e4, e5⟩ := h4
        rcases e5 with e5 | ⟨o, e5⟩
        · rw [e5]; exact p.1.trans e4
        · rw [e5]; exact Ex.mut (p.1.trans e4) hD, s3⟩)
    · have z := p.2
      have et : (irng 0 n.toNat).take n.toNat = irng 0 n.toNat := List.take_of_length_le (by rw [irng_len]; exact Nat.le_refl _)
      rw [et] at z
      exact q _ H' (e2.trans p.1) (z.frz).im.1
theorem hv_lcR0 {vs : List Nat} (s : Sg K Mc He H is ms) {n : Int} (ef : Int → β) (h : Hv K (muA ms ++ Mc) ta σ H n) (hz : -100000 ≤ n ∧ n ≤ 40000)
    (hb : ∀ D (x : Int) (ys : List β) H1, Sg K Mc He H1 is ((D, .lst (ys.map Dx.toX)) :: ms) → 0 ≤ x ∧ x < n →
      ∀ Q : L2.St → Hp → Prop, (∀ σ2, wipe σ2 vs = wipe σ vs → Hv K (muA ((D, Mv.lst (ys.map Dx.toX)) :: ms) ++ Mc) te σ2 H1 (ef x) → Q σ2 H1) → g (.int x) (wipe σ vs) H1 Q) :
    Hv K (muA ms ++ Mc) (tLc (iRng1 (tCons ta tNil)) g tYes te vs) σ H ((irng 0 n.toNat).map ef) := by
  have key := hv_lcR (g := g) (tt := tYes) (te := te) (vs := vs) s (fun _ => true) ef h hz (fun D x ys H1 s1 hx Q k => hb D x ys H1 s1 hx Q fun σ2 hw he => k σ2 hw (fun H2 _ _ _ q => q H2 (Ex.refl H2)) fun _ => he)
  exact key.is (by rw [List.filter_eq_self.mpr (fun _ _ => rfl)])
end
/-! ### the least of a list -/
section
variable {K : PySem.W.Frag} {M : List Addr} {σ : L2.St} {H : Hp} {te : TE}
variable {α : Type} [DecidableEq α] [Dx α] [DatumOrd α]
theorem toD_inj {a b : α} (h : Datum.toD a = Datum.toD b) : a = b := by
  have e := Datum.eqv a b
  rw [h, Datum.eqv b b] at e
  simpa using e.symm
theorem holds_inj {h : Heap} {v : Value} {a b : α} (x : PySem.W.Holds h v a) (y : PySem.W.Holds h v b) : a = b := by
  obtain ⟨as, r⟩ := x
  obtain ⟨bs, r'⟩ := y
  exact toD_inj (PySem.W.alike_unique _ _ _ _ _ (DatumOrd.alike a b) r r')
def minL (l : List α) (d : α) : α := match l with
  | [] => d
  | x :: r => PySem.W.minOf x r
def rMinT (α : Type) [DecidableEq α] [Dx α] [DatumOrd α] (K : PySem.W.Frag) : List V → Hp → VK → Prop := fun vs H Q => ∃ (a : Addr) (us : List V) (x : α) (xs : List α), vs = [V.ref a] ∧ SqL K H a us ∧ Dts K H us (x :: xs) ∧ ∀ (i : Nat) (v : V), us[i]? = some v → (x :: xs)[i]? = some (PySem.W.minOf x xs) → Q v H
theorem dts_holdAll [DxD α] {X : Cx} {pins : List (Addr × Obj)} {s : Shared} (I : L2.Inv X pins σ H s) {us : List V} {its : List Value} {xs : List α} (d : Dts X.K H us xs) (r : Vals us its) : PySem.W.HoldAll s.heap its xs := Dp.readsAll I _ us its (link_all d) r
theorem call_minT [DxD α] {X : Cx} (hc : X.calm = true) (hu : X.A.units + 1 + Datum.depth α < cLine) : CallR X (.builtin "min") (rMinT α X.K) := by
  intro pins s σ H vs us Q I r h
  obtain ⟨a, ws, x, xs, rfl, hS, hD, q⟩ := h
  obtain ⟨u, rfl, rx⟩ := vals1 r
  cases rx
  obtain ⟨its, rv, pl, hz⟩ := I.list hS
  refine PySem.W.min_list_datum (I.ok.hd hc) pl.isList (dts_holdAll I hD rv) hu fun i v h' tk hi hold kk => ?_
  have hi' : its[i]? = some v := by simpa using hi
  have hlen := rv.length
  have hil : i < ws.length := by
    have := (List.getElem?_eq_some_iff.mp hi').1
    omega
  obtain ⟨u', e1, e2⟩ := rv.get (i := i) (x := ws[i]) (by simp [hil])
  rw [hi'] at e1
  cases e1
  have hx2 : ∃ z, (x :: xs)[i]? = some z := ⟨(x :: xs)[i]'(by rw [← hD.len]; exact hil), by simp [hD.len ▸ hil]⟩
  obtain ⟨z, hz2⟩ := hx2
  obtain ⟨w, w1, w2⟩ := hD.at hz2
  have ew : w = ws[i] := by
    rw [List.getElem?_eq_getElem hil] at w1
    exact (Option.some.inj w1).symm
  subst ew
  have I' : L2.Inv X pins σ H { s with heap := h', toks := tk } := I.kept kk
  have ez : z = PySem.W.minOf x xs := holds_inj (dt_holds I' w2 e2) hold
  exact ⟨_, H, I', e2, q i _ (by simp [hil]) (by rw [← ez]; exact hz2)⟩
theorem hv_min {xs : List α} (d : α) (h : HS K M te σ H xs) (hne : xs ≠ []) : Hv K M (tCB (rMinT α K) (tCons te tNil)) σ H (minL xs d) := fun H1 e m Q q =>
  h H1 e m _ fun a vs H2 e2 s ds => by
    cases xs with
    | nil => exact absurd rfl hne
    | cons x r =>
      refine ⟨a, vs, x, r, rfl, s, ds.mono msk_le, fun i v hv hx => ?_⟩
      obtain ⟨w, w1, w2⟩ := ds.at hx
      rw [hv] at w1
      cases w1
      exact q v H2 e2 w2
end
theorem hud1 {A : Around} {k d : Nat} (hr : Room k A) (h : 1 + d ≤ 64) : A.units + 1 + d < cLine := by
  have := hud hr h
  omega
/-! ### what a loop keeps -/
theorem loopN_keep {S : Type} {f : S → Int → S} (P : S → Nat → Prop) (h : ∀ s k j, P s j → P (f s k) (j + 1)) : ∀ (n : Nat) (k : Int) (s : S) (j : Nat), P s j → P (loopN f n k s) (j + n)
  | 0, _, _, _, p => p
  | n + 1, k, s, j, p => by
    have := loopN_keep P h n (k + 1) (f s k) (j + 1) (h s k j p)
    show P (loopN f n (k + 1) (f s k)) (j + (n + 1))
    rw [show j + (n + 1) = j + 1 + n by omega]
    exact this
theorem sIx_nn {n d : Nat} {i : Int} (h : 0 ≤ i) : HT.sIx n d (some i) = min i.toNat n := by
  have e : i = ((i.toNat : Nat) : Int) := (Int.toNat_of_nonneg h).symm
  rw [e]
  exact HT.sIx_nat n d i.toNat
theorem cutL_from {α : Type} {xs : List α} {i : Int} (h : 0 ≤ i) : cutL xs (some i) none = xs.drop i.toNat := by
  unfold cutL
  rw [sIx_nn h, HT.sIx_none]
  by_cases e : i.toNat ≤ xs.length
  · rw [Nat.min_eq_left e]
    exact List.take_of_length_le (by rw [List.length_drop]; exact Nat.le_refl _)
  · rw [Nat.min_eq_right (by omega), List.drop_eq_nil_of_le (Nat.le_refl _), List.drop_eq_nil_of_le (by omega)]
    exact List.take_nil
theorem cutL_to {α : Type} {xs : List α} {i : Int} (h : 0 ≤ i) : cutL xs none (some i) = xs.take i.toNat := by
  unfold cutL
  rw [sIx_nn h, HT.sIx_none, List.drop_zero, Nat.sub_zero, List.take_eq_take_iff]
  omega
end Ly

namespace Ly
open PySem PySem.Spec PyProof.Rows L2 Evl
open PySem.W (Datum DatumOrd Tup T3 T4 minOf)
section
variable {α : Type} [DecidableEq α] [DatumOrd α]
theorem lt_irrefl (a : α) : DatumOrd.lt a a = false := by
  rw [← DatumOrd.lt_eq]; exact PySem.W.dataLt_self _
theorem lt_trans {a b c : α} (h : DatumOrd.lt a b = true) (h' : DatumOrd.lt b c = true) : DatumOrd.lt a c = true := by
  rw [← DatumOrd.lt_eq] at h h' ⊢
  exact lex_trans _ _ _ h h'
theorem lt_total {a b : α} (h : DatumOrd.lt a b = false) (h' : DatumOrd.lt b a = false) : Datum.toD a = Datum.toD b ∨ PySem.W.keyToks (Datum.toD a) = PySem.W.keyToks (Datum.toD b) := by
  rw [← DatumOrd.lt_eq] at h h'
  exact .inr (lex_total _ _ h h')
theorem lt_neg {a b c : α} (h : DatumOrd.lt a c = true) : DatumOrd.lt a b = true ∨ DatumOrd.lt b c = true := by
  rw [← DatumOrd.lt_eq] at h
  rw [← DatumOrd.lt_eq, ← DatumOrd.lt_eq]
  exact lex_negTrans _ _ _ h
theorem minOf_spec : ∀ (xs : List α) (x : α), minOf x xs ∈ x :: xs ∧ ∀ y ∈ x :: xs, DatumOrd.lt y (minOf x xs) = false
  | [], x => ⟨List.mem_cons_self, fun y hy => by
    have e : y = x := by simpa using hy
    rw [e]; exact lt_irrefl x⟩
  | z :: r, x => by
    have e : minOf x (z :: r) = minOf (if DatumOrd.lt z x = true then z else x) r := rfl
    rw [e]
    by_cases h : DatumOrd.lt z x = true
    · rw [if_pos h]
      obtain ⟨h1, h2⟩ := minOf_spec r z
      refine ⟨?_, fun y hy => ?_⟩
      · rcases List.mem_cons.mp h1 with q | q
        · rw [q]; simp
        · simp [q]
      · rcases List.mem_cons.mp hy with q | q
        · subst q
          cases hq : DatumOrd.lt y (minOf z r) with
          | false => rfl
          | true => exact absurd (lt_trans h hq) (by rw [h2 z List.mem_cons_self]; decide)
        · exact h2 y q
    · rw [if_neg h]
      obtain ⟨h1, h2⟩ := minOf_spec r x
      refine ⟨?_, fun y hy => ?_⟩
      · rcases List.mem_cons.mp h1 with q | q
        · rw [q]; simp
        · simp [q]
      · rcases List.mem_cons.mp hy with q | q
        · subst q; exact h2 y List.mem_cons_self
        · rcases List.mem_cons.mp q with q | q
          · subst q
            cases hq : DatumOrd.lt y (minOf x r) with
            | false => rfl
            | true =>
              rcases lt_neg (b := x) hq with q2 | q2
              · exact absurd q2 h
              · exact absurd q2 (by rw [h2 x List.mem_cons_self]; decide)
          · exact h2 y (List.mem_cons_of_mem _ q)
end
end Ly

namespace Ly
open PySem PySem.Spec PyProof.Rows L2 Evl
open PySem.W (Datum DatumOrd Tup T3 T4 minOf)
section
variable {K : PySem.W.Frag} {Mc M : List Addr} {He H H1 H2 : Hp} {is js : Ims} {ms : Mus} {σ : L2.St} {te ta tb tl : TE} {tt : TT} {g : TG} {tlo thi : TO}
variable {D : Ends} {tz tu tw : TS}
/-! ### texts -/
theorem hv_addS {a b : Str} (ha : Hv K M ta σ H a) (hb : Hv K M tb σ H b) (hz : a.length + b.length ≤ 100000) :
    Hv K M (tOp (fun x y H Q => ∃ i j, x = .str i ∧ y = .str j ∧ i.length + j.length ≤ sizeLine ∧ Q (.str (i ++ j)) H) ta tb) σ H (a ++ b) := fun H1 e m Q q =>
  ha H1 e m _ fun v H2 e2 d => hb H2 (e.trans e2) (m.ex e2) _ fun u H3 e3 d' => ⟨a, b, d.str, d'.str, sz_of hz, q _ H3 (e2.trans e3) (Dt.ofStr _)⟩
theorem hv_lower {a : Str} (ha : Hv K M ta σ H a) (hz : a.length ≤ 100000) : Hv K M (tM0 (fun x xs H Q => ∃ a, x = .str a ∧ xs = [] ∧ a.length ≤ 5592405 ∧ Q (.str (Txt.lower a)) H) ta) σ H (Txt.lower a) := fun H1 e m Q q =>
  ha H1 e m _ fun v H2 e2 d => ⟨⟨a, d.str⟩, a, d.str, rfl, by omega, q _ H2 e2 (Dt.ofStr _)⟩
theorem hv_lenS {a : Str} (ha : Hv K M ta σ H a) (hz : a.length ≤ 100000) : Hv K M (tCB (fun xs H Q => ∃ x n, xs = [x] ∧ LenV K x H n ∧ Q (.int n) H) (tCons ta tNil)) σ H (a.length : Int) := fun H1 e m Q q =>
  ha H1 e m _ fun v H2 e2 d => ⟨v, a.length, rfl, by rw [d.str]; exact ⟨sz_of hz, rfl⟩, q _ H2 e2 (Dt.ofInt _)⟩
/-- the sign at a place -/
def strAt (s : Str) (i : Nat) : Str := ⟨#[s.cps.toList.getD i 0]⟩
theorem hv_ixStr {a : Str} {i : Int} (ha : Hv K M ta σ H a) (hb : Hv K M tb σ H i) (hz : a.length ≤ 100000) (h0 : 0 ≤ i) (h1 : i < (a.length : Int)) : Hv K M (tOp rIxS ta tb) σ H (strAt a i.toNat) := fun H1 e m Q q =>
  ha H1 e m _ fun v H2 e2 d => hb H2 (e.trans e2) (m.ex e2) _ fun u H3 e3 d' => by
    have hl : i.toNat < a.cps.toList.length := by
      have : a.length = a.cps.toList.length := by simp [Str.length]
      omega
    refine ⟨a, i, a.cps.toList.getD i.toNat 0, d.str, d'.int, sz_of hz, ?_, q _ H3 (e2.trans e3) (Dt.ofStr _)⟩
    rw [show i = ((i.toNat : Nat) : Int) from (Int.toNat_of_nonneg h0).symm]
    refine atI_nat ?_
    rw [List.getD_eq_getElem?_getD, Int.toNat_natCast, List.getElem?_eq_getElem hl]
    rfl
theorem hv_sliceS {a : Str} {lo hi : Option Int} (h : Hv K M te σ H a) (h1 : HO' M tlo σ H lo) (h2 : HO' M thi σ H hi) (hz : a.length ≤ 100000) : Hv K M (tSl rSlS te tlo thi) σ H (cutS a lo hi) := fun H1 e m Q q =>
  h H1 e m _ fun v H2 e2 d => h1 H2 (e.trans e2) (m.ex e2) _ fun H3 e3 => h2 H3 ((e.trans e2).trans e3) ((m.ex e2).ex e3) _ fun H4 e4 =>
    ⟨a, d.str, sz_of hz, q _ H4 ((e2.trans e3).trans e4) (Dt.ofStr _)⟩
def inStr (i j : Str) : Bool := !(Builtin.Str.occurrences j i 0 j.length 1).isEmpty
theorem hv_inStr {a b : Str} (ha : Hv K M ta σ H a) (hb : Hv K M tb σ H b) : Hv K M (tOp (fun x y H Q => ∃ i j, x = .str i ∧ y = .str j ∧ Q (.bl (!(Builtin.Str.occurrences j i 0 j.length 1).isEmpty)) H) ta tb) σ H (inStr a b) := fun H1 e m Q q =>
  ha H1 e m _ fun v H2 e2 d => hb H2 (e.trans e2) (m.ex e2) _ fun u H3 e3 d' => ⟨a, b, d.str, d'.str, q _ H3 (e2.trans e3) (Dt.ofBool _)⟩
theorem hv_niStr {a b : Str} (ha : Hv K M ta σ H a) (hb : Hv K M tb σ H b) : Hv K M (tOp (fun x y H Q => ∃ i j, x = .str i ∧ y = .str j ∧ Q (.bl (!(!(Builtin.Str.occurrences j i 0 j.length 1).isEmpty))) H) ta tb) σ H (!inStr a b) := fun H1 e m Q q =>
  ha H1 e m _ fun v H2 e2 d => hb H2 (e.trans e2) (m.ex e2) _ fun u H3 e3 d' => ⟨a, b, d.str, d'.str, q _ H3 (e2.trans e3) (Dt.ofBool _)⟩
theorem hv_find {a b : Str} (ha : Hv K M ta σ H a) (hb : Hv K M tb σ H b) : Hv K M (tM1 (fun x xs H Q => ∃ a b, x = .str a ∧ xs = [.str b] ∧ Q (.int (Txt.find a b)) H) ta tb) σ H (Txt.find a b) := fun H1 e m Q q =>
  ha H1 e m _ fun v H2 e2 d => ⟨⟨a, d.str⟩, hb H2 (e.trans e2) (m.ex e2) _ fun u H3 e3 d' => ⟨a, b, d.str, by rw [d'.str], q _ H3 (e2.trans e3) (Dt.ofInt _)⟩⟩
theorem hv_find3 {a b : Str} {i : Int} (ha : Hv K M ta σ H a) (hb : Hv K M tb σ H b) (hc : Hv K M te σ H i) :
    Hv K M (tBM K "str" (fun x xs H Q => ∃ (a b : Str) (i : Int), x = .str a ∧ xs = [.str b, .int i] ∧ Q (.int (Txt.find3 a b i)) H) ta (tCons tb (tCons te tNil))) σ H (Txt.find3 a b i) := fun H1 e m Q q =>
  ha H1 e m _ fun v H2 e2 d => ⟨by rw [d.str]; exact (rfl : ("str" : String) = "str"), hb H2 (e.trans e2) (m.ex e2) _ fun u H3 e3 d' => hc H3 ((e.trans e2).trans e3) ((m.ex e2).ex e3) _ fun z H4 e4 d'' =>
    ⟨a, b, i, d.str, by rw [d'.str, d''.int], q _ H4 ((e2.trans e3).trans e4) (Dt.ofInt _)⟩⟩
theorem dts_strs {H : Hp} : ∀ {vs : List V} {xs : List Str}, Dts K H vs xs → vs = xs.map V.str
  | [], [], _ => rfl
  | [], _ :: _, h => by cases h
  | _ :: _, [], h => by cases h
  | v :: vs, x :: xs, h => by
    cases h with
    | cons a b =>
      rw [List.map_cons, Dt.str (H := H) (K := K) (v := v) (i := x) a, dts_strs (vs := vs) (xs := xs) b]
theorem hv_join {a : Str} {xs : List Str} (ha : Hv K M ta σ H a) (hb : HS K M tb σ H xs) (hz : (xs.map (·.length)).sum + xs.length * a.length ≤ 100000) :
    Hv K M (tM1 (fun x xs H Q => ∃ a p, ∃ ys : List Str, x = .str a ∧ xs = [.ref p] ∧ (SqL K H p (ys.map V.str) ∨ SqT K H p (ys.map V.str)) ∧ (ys.map (·.length)).sum + ys.length * a.length ≤ 16777216 ∧ Q (.str (Txt.join a ys)) H) ta tb) σ H (Txt.join a xs) := fun H1 e m Q q =>
  ha H1 e m _ fun v H2 e2 d => ⟨⟨a, d.str⟩, hb H2 (e.trans e2) (m.ex e2) _ fun p vs H3 e3 s ds => ⟨a, p, xs, d.str, rfl, Or.inl (by rw [← dts_strs ds]; exact s), by omega, q _ H3 (e2.trans e3) (Dt.ofStr _)⟩⟩
theorem hv_intI {i : Int} (ha : Hv K M ta σ H i) : Hv K M (tCB (fun xs H Q => (∃ i, xs = [.int i] ∧ Q (.int i) H) ∨ ∃ k, xs = [.bl k] ∧ Q (.int (if k then 1 else 0)) H) (tCons ta tNil)) σ H i := fun H1 e m Q q =>
  ha H1 e m _ fun v H2 e2 d => Or.inl ⟨i, by rw [d.int], q _ H2 e2 (Dt.ofInt _)⟩
theorem hv_intS {a : Str} {n : Int} (ha : Hv K M ta σ H a) (hn : PySem.intText? a = some n) (hz : a.length ≤ 640) : Hv K M (tCB (fun xs H Q => ∃ a n, xs = [.str a] ∧ PySem.intText? a = some n ∧ a.length ≤ 640 ∧ Q (.int n) H) (tCons ta tNil)) σ H n := fun H1 e m Q q =>
  ha H1 e m _ fun v H2 e2 d => ⟨a, n, by rw [d.str], hn, hz, q _ H2 e2 (Dt.ofInt _)⟩
/-- a text, so often -/
def mulS (a : Str) (n : Int) : Str := ⟨(List.replicate n.toNat a.cps.toList).flatten.toArray⟩
theorem mulS_len (a : Str) (n : Int) : (mulS a n).length = a.length * n.toNat := by
  have h1 : (mulS a n).length = (List.replicate n.toNat a.cps.toList).flatten.length := by simp [mulS, Str.length]
  have h2 : a.length = a.cps.toList.length := by simp [Str.length]
  rw [h1, h2, List.length_flatten, List.map_replicate, List.sum_replicate_nat, Nat.mul_comm]
theorem foldl_app : ∀ (k : Nat) (x : Array Nat) (acc : Array Nat), ((List.replicate k x).foldl (· ++ ·) acc).toList = acc.toList ++ (List.replicate k x.toList).flatten
  | 0, x, acc => by simp
  | k + 1, x, acc => by
    rw [List.replicate_succ, List.foldl_cons, foldl_app k x (acc ++ x), List.replicate_succ, List.flatten_cons, Array.toList_append, List.append_assoc]
theorem op_mulS {X : Cx} : OpR X (binaryOp .Mult) (fun x y H Q => ∃ i n, x = .str i ∧ y = .int n ∧ 1 ≤ n ∧ i.length * n.toNat ≤ 100000 ∧ n ≤ 100000 ∧ Q (.str (mulS i n)) H) := by
  intro pins s σ H x y v u Q I rx ry h
  obtain ⟨i, n, rfl, rfl, h1, h2, h3, q⟩ := h
  obtain ⟨t, rfl⟩ := rx
  obtain ⟨t', rfl⟩ := ry
  have hc : ¬ n < 1 := by omega
  refine PySem.P.mul_str ?_ (fun _ hb => ?_) (fun _ _ => ?_) ?_
  · rw [decide_eq_false (by omega), decide_eq_false (by omega)]; rfl
  · have h4 : (i.length : Int) ≤ 100000 := by
      have : i.length * 1 ≤ i.length * n.toNat := Nat.mul_le_mul_left _ (by omega)
      omega
    have h5 : (100000 : Int) ≤ (2 ^ 63 - 1) / n := by
      refine Int.le_ediv_of_mul_le (by omega) ?_
      omega
    omega
  · have hs : sizeLine = 16777216 := sizeLine_eq
    show decide (i.length * n.toNat > sizeLine) = false
    exact decide_eq_false (by omega)
  · rw [if_neg hc]
    by_cases e : (n == 1 || i.length == 0) = true
    · rw [if_pos e]
      have em : mulS i n = i := by
        refine TL.ext_tl ?_
        show (List.replicate n.toNat i.cps.toList).flatten = i.cps.toList
        rcases Bool.or_eq_true _ _ |>.mp e with e1 | e1
        · have : n = 1 := by simpa using e1
          subst this
          simp
        · have : i.cps.toList = [] := by
            have : i.length = 0 := by simpa using e1
            have h9 : i.cps.toList.length = 0 := by simpa [Str.length] using this
            exact List.length_eq_zero_iff.mp h9
          rw [this]
          simp
      rw [em] at q
      exact ⟨.str i, H, I, ⟨t, rfl⟩, q⟩
    · rw [if_neg e]
      have em : (⟨(List.replicate n.toNat i.cps).foldl (· ++ ·) #[]⟩ : Str) = mulS i n := by
        refine TL.ext_tl ?_
        show ((List.replicate n.toNat i.cps).foldl (· ++ ·) #[]).toList = (List.replicate n.toNat i.cps.toList).flatten
        rw [foldl_app]
        rfl
      rw [em]
      exact ⟨by rw [mulS_len]; exact sz_of h2, .str _, H, I.tok _, ⟨_, rfl⟩, q⟩
theorem hv_mulS {a : Str} {n : Int} (ha : Hv K M ta σ H a) (hb : Hv K M tb σ H n) (h1 : 1 ≤ n) (h2 : a.length * n.toNat ≤ 100000) (h3 : n ≤ 100000) :
    Hv K M (tOp (fun x y H Q => ∃ i n, x = .str i ∧ y = .int n ∧ 1 ≤ n ∧ i.length * n.toNat ≤ 100000 ∧ n ≤ 100000 ∧ Q (.str (mulS i n)) H) ta tb) σ H (mulS a n) := fun H1 e m Q q =>
  ha H1 e m _ fun v H2 e2 d => hb H2 (e.trans e2) (m.ex e2) _ fun u H3 e3 d' => ⟨a, n, d.str, d'.int, h1, h2, h3, q _ H3 (e2.trans e3) (Dt.ofStr _)⟩
theorem hv_max2 {i j : Int} (ha : Hv K M ta σ H i) (hb : Hv K M tb σ H j) : Hv K M (tCB (fun xs H Q => ∃ i j, xs = [.int i, .int j] ∧ Q (.int (if j > i then j else i)) H) (tCons ta (tCons tb tNil))) σ H (max i j) := fun H1 e m Q q =>
  ha H1 e m _ fun v H2 e2 d => hb H2 (e.trans e2) (m.ex e2) _ fun u H3 e3 d' => ⟨i, j, by rw [d.int, d'.int], q _ H3 (e2.trans e3) (by
    rw [show (if j > i then j else i) = max i j by split <;> omega]; exact Dt.ofInt _)⟩
theorem hv_min2 {i j : Int} (ha : Hv K M ta σ H i) (hb : Hv K M tb σ H j) : Hv K M (tCB (fun xs H Q => ∃ i j, xs = [.int i, .int j] ∧ Q (.int (if j < i then j else i)) H) (tCons ta (tCons tb tNil))) σ H (min i j) := fun H1 e m Q q =>
  ha H1 e m _ fun v H2 e2 d => hb H2 (e.trans e2) (m.ex e2) _ fun u H3 e3 d' => ⟨i, j, by rw [d.int, d'.int], q _ H3 (e2.trans e3) (by
    rw [show (if j < i then j else i) = min i j by split <;> omega]; exact Dt.ofInt _)⟩
end
section
variable {K : PySem.W.Frag} {Mc M : List Addr} {He H H1 H2 : Hp} {is js : Ims} {ms : Mus} {σ : L2.St} {te ta tb tl : TE} {tt : TT} {g : TG} {tlo thi : TO}
variable {α β γ : Type} [DecidableEq α] [Dx α] [DecidableEq β] [Dx β] [DecidableEq γ] [Dx γ]
variable {D : Ends} {tz tu tw : TS}
theorem hv_chain {r r' : R2} {a b : Bool} {x : α} (h1 : ∀ H1, Ex H H1 → MOk M H1 → ∀ Q : V → V → Hp → Prop, (∀ y k H2, Ex H1 H2 → k = .bl a → Q y k H2) → ta σ H1 fun x H2 => tb σ H2 fun y H3 => r x y H3 fun z H4 => Q y z H4) : True := True.intro
/-- i < j < k and the like -/
theorem hv_chainI {g1 g2 : Int → Int → Bool} {i j k : Int} (ha : Hv K M ta σ H i) (hb : Hv K M tb σ H j) (hc : Hv K M te σ H k) :
    Hv K M (tChain (rI0 fun i j => .bl (g1 i j)) (rI0 fun i j => .bl (g2 i j)) ta tb te) σ H (g1 i j && g2 j k) := fun H1 e m Q q =>
  ha H1 e m _ fun v H2 e2 d => hb H2 (e.trans e2) (m.ex e2) _ fun u H3 e3 d' => ⟨i, j, d.int, d'.int, g1 i j, rfl, by
    cases hg : g1 i j with
    | false =>
      rw [if_neg Bool.false_ne_true]
      exact q _ H3 (e2.trans e3) (by rw [hg]; exact Dt.ofBool _)
    | true =>
      rw [if_pos rfl]
      refine hc H3 ((e.trans e2).trans e3) ((m.ex e2).ex e3) _ fun z H4 e4 d'' => ⟨j, k, d'.int, d''.int, q _ H4 ((e2.trans e3).trans e4) ?_⟩
      show Dt K _ (V.bl (g2 j k)) _
      rw [hg]
      exact Dt.ofBool _⟩
/-! ### new lists -/
/-- a new list, told apart from all else -/
def HF (K : PySem.W.Frag) (M : List Addr) (te : TE) (σ : L2.St) (H : Hp) (xs : List α) : Prop :=
  ∀ H1, Ex H H1 → MOk M H1 → ∀ Q : VK, (∀ p vs H3, H1 p = none → Ex H1 H3 → H3 p = some (.lst vs) → Dts K (msk (p :: M) H3) vs xs → Q (.ref p) H3) → te σ H1 Q
theorem hv_hf {xs : List α} (h : HF K M te σ H xs) : Hv K M te σ H xs := fun H1 e m Q q =>
  h H1 e m Q fun p vs H3 n e3 h3 d => q _ H3 e3 (Dt.ofList (SqL.of (by rw [msk_out (m.nin n)]; exact h3)) (d.mono (msk_sub fun a ha => List.mem_cons_of_mem _ ha)))
theorem Sg.newF (s : Sg K Mc He H is ms) {p : Addr} {vs : List V} {xs : List α} (n : H p = none) (e : Ex H H1) (h : H1 p = some (.lst vs)) (d : Dts K (msk (p :: (muA ms ++ Mc)) H1) vs xs) : Sg K Mc He H1 is ((p, .lst (xs.map Dx.toX)) :: ms) := by
  have np : p ∉ muA ms := fun z => s.mok p (List.mem_append_left _ z) n
  have sub : Ex (msk (muA ms ++ Mc) H) (msk (p :: (muA ms ++ Mc)) H1) := fun a o q => by
    by_cases z : a ∈ muA ms ++ Mc
    · rw [msk_in z] at q; cases q
    · rw [msk_out z] at q
      have na : a ≠ p := ne_of_none q n
      rw [msk_out (by simp only [List.mem_cons, not_or]; exact ⟨na, z⟩)]
      exact e a o q
  refine ⟨fun a o q => ?_, s.okc, List.nodup_cons.mpr ⟨np, s.nd⟩, s.im.mono sub, ⟨⟨.lst vs, h, vs, rfl, d⟩, ?_⟩⟩
  · have q' := s.ext a o q
    by_cases z : a ∈ muA ms
    · rw [msk_in z] at q'; cases q'
    · rw [msk_out z] at q'
      have na : a ≠ p := ne_of_none q' n
      show msk (p :: muA ms) H1 a = some o
      rw [msk_out (by simp only [List.mem_cons, not_or]; exact ⟨na, z⟩)]
      exact e a o q'
  · exact s.mu.mono sub e
theorem hf_lst {tr : TA} {xs : List α} (h : HAs K M tr σ H xs) (hl : xs.length ≤ 100000) : HF K M (tLst tr) σ H xs := fun H1 e m Q q =>
  h H1 e m _ fun vs H2 e2 d => ⟨sz_of (by rw [d.len]; exact hl), fun p hp => by
    have e3 : Ex H2 (upd H2 p (.lst vs)) := Ex.new hp
    exact q p vs _ (fresh_back e2 hp) (e2.trans e3) upd_same (d.mono (msk_new hp))⟩
theorem hf_rep {tr : TA} {xs : List α} {n : Int} (h : HAs K M tr σ H xs) (hb : Hv K M tb σ H n) (hl : xs.length ≤ 1000) (h0 : 0 ≤ n) (hn : xs.length * n.toNat ≤ 100000) (hn2 : n ≤ 100000) : HF K M (tOp rRep (tLst tr) tb) σ H (List.replicate n.toNat xs).flatten := fun H1 e m Q q =>
  h H1 e m _ fun vs H2 e2 d => ⟨sz_of (by rw [d.len]; omega), fun p hp => by
    have e3 : Ex H2 (upd H2 p (.lst vs)) := Ex.new hp
    refine hb _ ((e.trans e2).trans e3) ((m.ex e2).ex e3) _ fun u H4 e4 d' => ⟨p, n, vs, rfl, d'.int, e4 p _ upd_same, by omega, by omega, sz_of (by rw [d.len]; exact hn), fun l hl2 => ?_⟩
    have e5 : Ex H4 (upd H4 l (.lst (List.replicate n.toNat vs).flatten)) := Ex.new hl2
    refine q l _ _ (fresh_back ((e2.trans e3).trans e4) hl2) (((e2.trans e3).trans e4).trans e5) upd_same ?_
    have d2 : Dts K (msk M H2) vs xs := d
    have d3 : Dts K (msk (l :: M) (upd H4 l (.lst (List.replicate n.toNat vs).flatten))) vs xs := (d2.mono (msk_ex (e3.trans e4))).mono (msk_new hl2)
    have rep : ∀ k : Nat, Dts K (msk (l :: M) (upd H4 l (.lst (List.replicate n.toNat vs).flatten))) (List.replicate k vs).flatten (List.replicate k xs).flatten := fun k => by
      induction k with
      | zero => exact Dts.nil
      | succ k ih =>
        rw [List.replicate_succ, List.replicate_succ, List.flatten_cons, List.flatten_cons]
        exact d3.app ih
    exact rep _⟩
theorem hf_listOf {xs : List α} (h : HS K M te σ H xs) : HF K M (tCB (fun xs H Q => ∃ p ys, xs = [.ref p] ∧ (SqL K H p ys ∨ SqT K H p ys) ∧ ∀ l, H l = none → Q (.ref l) (upd H l (.lst ys))) (tCons te tNil)) σ H xs := fun H1 e m Q q =>
  h H1 e m _ fun a vs H2 e2 s d => ⟨a, vs, rfl, Or.inl s, fun p hp => by
    have e3 : Ex H2 (upd H2 p (.lst vs)) := Ex.new hp
    exact q p vs _ (fresh_back e2 hp) (e2.trans e3) upd_same (d.mono (msk_new hp))⟩
/-- x = a new list that is to be changed -/
theorem z_freshG {i : Nat} {x : List α} (s : Sg K Mc He H is ms) (h : HF K (muA ms ++ Mc) te σ H x) (k : ∀ y, y = x → ∀ p H1, Sg K Mc He H1 is ((p, .lst (y.map Dx.toX)) :: ms) → tz D (σ.set i (some (.ref p))) H1) : tSeq (tAsg te (gName i)) tz D σ H :=
  h H (Ex.refl H) s.mok _ fun p vs H3 n e3 h3 d => k x rfl p H3 (s.newF n e3 h3 d)
theorem dpa_set {H : Hp} : ∀ {vs : List V} {ds : List Xd} {j : Nat} {v : V} {d : Xd}, XpAll K H vs ds → Xp K H v d → XpAll K H (vs.set j v) (ds.set j d)
  | _, _, j, _, _, .nil, _ => .nil
  | _, _, 0, _, _, .cons a b, h => .cons h b
  | _, _, j + 1, _, _, .cons a b, h => .cons a (dpa_set b h)
/-- xs[i] = e -/
theorem z_setG {kk : Nat} {l : Addr} {xs : List α} {x : α} {i : Int} (s : Sg K Mc He H is ms) (e : ms[kk]? = some (l, .lst (xs.map Dx.toX))) (h : Hv K (muA ms ++ Mc) te σ H x) (ho : Ev ta σ H (.ref l)) (hi : Hv K (muA ms ++ Mc) tb σ H i) (h0 : 0 ≤ i) (h1 : i < (xs.length : Int))
    (k : ∀ y, y = xs.set i.toNat x → ∀ H1, Sg K Mc He H1 is (ms.set kk (l, .lst (y.map Dx.toX))) → tz D σ H1) : tSeq (tAsg te (gSub ta tb rSetL)) tz D σ H :=
  h H (Ex.refl H) s.mok _ fun v H2 e2 d => ho H2 e2 _ fun H3 e3 => hi H3 (e2.trans e3) (s.mok.ex (e2.trans e3)) _ fun u H4 e4 d' => by
    have s4 := ((s.ex e2).ex e3).ex e4
    obtain ⟨vs, h3, h4⟩ := s4.lst e
    have hn : i.toNat < vs.length := by rw [h4.len]; omega
    refine ⟨l, vs, i, i.toNat, rfl, d'.int, h3, ?_, k _ rfl _ (s4.set e ⟨_, rfl, ?_⟩)⟩
    · have := ixN_nat hn
      rwa [Int.toNat_of_nonneg h0] at this
    · rw [List.map_set]
      exact dpa_set h4 (dp_mono (msk_ex (e3.trans e4)) d)
/-- xs[-1] = e -/
theorem z_setLastG {kk : Nat} {l : Addr} {xs : List α} {x : α} (s : Sg K Mc He H is ms) (e : ms[kk]? = some (l, .lst (xs.map Dx.toX))) (h : Hv K (muA ms ++ Mc) te σ H x) (ho : Ev ta σ H (.ref l)) (h1 : 0 < xs.length)
    (k : ∀ y, y = xs.set (xs.length - 1) x → ∀ H1, Sg K Mc He H1 is (ms.set kk (l, .lst (y.map Dx.toX))) → tz D σ H1) : tSeq (tAsg te (gSub ta (tUn (rU fun i => .int (-i)) (tC (.int 1))) rSetL)) tz D σ H :=
  h H (Ex.refl H) s.mok _ fun v H2 e2 d => ho H2 e2 _ fun H3 e3 => ⟨1, rfl, by
    have s4 := (s.ex e2).ex e3
    obtain ⟨vs, h3, h4⟩ := s4.lst e
    have hn : vs.length = xs.length := h4.len
    refine ⟨l, vs, -1, xs.length - 1, rfl, rfl, h3, ?_, k _ rfl _ (s4.set e ⟨_, rfl, ?_⟩)⟩
    · unfold ixN
      rw [if_neg (by decide), if_pos (by omega)]
      show some _ = some _
      congr 1
      omega
    · rw [List.map_set]
      exact dpa_set h4 (dp_mono (msk_ex e3) d)⟩
/-- xs.extend(a new list) -/
theorem zq_extG {kk : Nat} {l : Addr} {xs ys : List α} (s : Sg K Mc He H is ms) (e : ms[kk]? = some (l, .lst (xs.map Dx.toX))) (hi : Ev ta σ H (.ref l)) (h : HF K (muA ms ++ Mc) te σ H ys) (hz : xs.length + ys.length ≤ 100000)
    (k : ∀ y, y = xs ++ ys → ∀ H1, Sg K Mc He H1 is (ms.set kk (l, .lst (y.map Dx.toX))) → tz D σ H1) : tSeq (tDrop (tBM K "list" rExtend ta (tCons te tNil))) tz D σ H := hi H (Ex.refl H) _ fun H1 e1 => by
  obtain ⟨vs, h1, h2⟩ := (s.ex e1).lst e
  refine ⟨Or.inl ⟨rfl, vs, sq_of h1⟩, h H1 e1 (s.mok.ex e1) _ fun p ws H3 n e3 h3 d => ?_⟩
  obtain ⟨vs', h4, h5⟩ := ((s.ex e1).ex e3).lst e
  refine ⟨l, p, vs', ws, rfl, rfl, h4, h3, sz_of (by rw [h5.len, d.len]; exact hz), k _ rfl _ (((s.ex e1).ex e3).set e ⟨_, rfl, ?_⟩)⟩
  rw [List.map_append]
  exact dpa_app h5 (dpa_mono (msk_sub fun a ha => List.mem_cons_of_mem _ ha) d)
/-! ### a, b = e -/
theorem z_unp2 {i j : Nat} {p : α × β} (s : Sg K Mc He H is ms) (h : Hv K (muA ms ++ Mc) te σ H p) (k : ∀ x y, (x, y) = p → ∀ v u H1, Sg K Mc He H1 ((v, Dx.toX x) :: (u, Dx.toX y) :: is) ms → tz D ((σ.set i (some v)).set j (some u)) H1) :
    tSeq (tAsg te (gTup K 2 (gCons (gName i) (gCons (gName j) gNil)))) tz D σ H :=
  h H (Ex.refl H) s.mok _ fun v H1 e d => by
    obtain ⟨l, a, b, rfl, st, d1, d2⟩ := d.pair
    exact ⟨l, [a, b], rfl, ex_t msk_le st, rfl, a, [b], rfl, b, [], rfl, rfl, k p.1 p.2 rfl a b H1 (((s.ex e).put d2).put d1)⟩
/-! ### for over a text -/
def chars (s : Str) : List Str := s.cps.toList.map fun c => ⟨#[c]⟩
theorem chars_len (s : Str) : (chars s).length = s.length := by simp [chars, Str.length]
theorem zq_forS {a : Str} {j : Nat} (s : Sg K Mc He H is ms) (h : Hv K (muA ms ++ Mc) te σ H a) (Pv : Nat → L2.St → Hp → Prop) (h0 : ∀ H1, Sg K Mc He H1 is ms → Pv 0 σ H1)
    (hs : ∀ i x σ' H', (chars a)[i]? = some x → Pv i σ' H' → tu { D with nx := Pv (i + 1), ct := Pv (i + 1), bk := tz D } (σ'.set j (some (.str x))) H')
    (hd : ∀ σ' H', Pv (chars a).length σ' H' → tz D σ' H') : tSeq (tFor (iStr te) (gName j) tu) tz D σ H :=
  h H (Ex.refl H) s.mok _ fun v H1 e d => ⟨a, d.str, by
    have hsz : a.cps.size = (chars a).length := by rw [chars_len]; rfl
    refine for_it (D := { D with nx := tz D }) (walk_str (z := a)) Pv (h0 H1 (s.ex e)) (fun _ _ _ _ _ => True.intro) (fun i x σ' H' H'' hi p y => ?_) (fun σ' H' p => hd σ' H' (by rw [← hsz]; exact p))
    obtain ⟨rfl, c, hc, rfl⟩ := y
    refine hs i _ σ' _ ?_ p
    unfold chars
    rw [List.getElem?_map]
    have : a.cps.toList[i]? = some c := by rw [Array.getElem?_toList]; exact hc
    rw [this]
    rfl⟩
/-! ### while -/
def loopW {S : Type} (c : S → Bool) (f : S → S) : Nat → S → S
  | 0, s => s
  | n + 1, s => if c s = true then loopW c f n (f s) else s
/-- R tells what a state is, μ falls -/
theorem zq_while {S : Type} (c : S → Bool) (f : S → S) (μ : S → Nat) (N : Nat) (s0 : S) (R : S → L2.St → Hp → Prop) (hN : μ s0 < N) (h0 : R s0 σ H)
    (hs : ∀ x σ' H', R x σ' H' → ∃ M', MOk M' H' ∧ HT M' tt σ' H' (c x) ∧
      (c x = true → ∀ H2, Ex H' H2 → tu { D with nx := fun σ2 H3 => ∃ y, y = f x ∧ μ y < μ x ∧ R y σ2 H3, ct := fun σ2 H3 => ∃ y, y = f x ∧ μ y < μ x ∧ R y σ2 H3, bk := tz D } σ' H2))
    (hd : ∀ x σ' H' H2, R x σ' H' → c x = false → Ex H' H2 → loopW c f N s0 = x → tz D σ' H2) : tSeq (tWhile tt tu) tz D σ H := by
  refine ⟨fun m σ' H' => ∃ x, μ x < m ∧ loopW c f N s0 = loopW c f m x ∧ R x σ' H', ⟨N, s0, hN, rfl, h0⟩, ?_⟩
  rintro m σ' H' ⟨x, hm, he, hR⟩
  obtain ⟨M', mo, ht, ht1⟩ := hs x σ' H' hR
  refine ht H' (Ex.refl H') mo _ fun H2 e2 => ?_
  obtain ⟨n, rfl⟩ : ∃ n, m = n + 1 := ⟨m - 1, by omega⟩
  cases hc : c x with
  | true =>
    refine ⟨fun σ2 H3 => ∃ y, y = f x ∧ μ y < μ x ∧ R y σ2 H3, fun σ2 H3 ⟨y, hy, hl, hR2⟩ => ⟨n, Nat.lt_succ_self _, y, by omega, ?_, hR2⟩, ht1 hc H2 e2⟩
    rw [he, hy]
    show (if c x = true then loopW c f n (f x) else x) = _
    rw [if_pos hc]
  | false =>
    refine hd x σ' H' H2 hR hc e2 ?_
    rw [he]
    show (if c x = true then loopW c f n (f x) else x) = x
    rw [if_neg (by rw [hc]; exact Bool.false_ne_true)]
/-! ### new lists by comprehensions -/
theorem hf_lcL0 {vs : List Nat} (s : Sg K Mc He H is ms) {xs : List α} (ef : α → β) (h : Hv K (muA ms ++ Mc) tl σ H xs) (hz : xs.length ≤ 40000)
    (hb : ∀ D src x w (ys : List β) H1, Sg K Mc He H1 ((w, Dx.toX x) :: (src, Dx.toX xs) :: is) ((D, .lst (ys.map Dx.toX)) :: ms) → x ∈ xs →
      ∀ Q : L2.St → Hp → Prop, (∀ σ2, wipe σ2 vs = wipe σ vs → Hv K (muA ((D, Mv.lst (ys.map Dx.toX)) :: ms) ++ Mc) te σ2 H1 (ef x) → Q σ2 H1) → g w (wipe σ vs) H1 Q) :
    HF K (muA ms ++ Mc) (tLc (iList K tl) g tYes te vs) σ H (xs.map ef) := fun H1 e m Q q =>
  h H1 e m _ fun v H2 e2 d => by
    obtain ⟨a, us, rfl, s1, ds⟩ := d.list
    refine ⟨a, rfl, ⟨us, ex_l msk_le s1⟩, fun D hD => ?_⟩
    have sA : Sg K Mc He H2 ((.ref a, Dx.toX xs) :: is) ms := ((s.ex e).ex e2).put d
    have sB : Sg K Mc He (upd H2 D (.lst [])) ((.ref a, Dx.toX xs) :: is) ((D, .lst (([] : List β).map Dx.toX)) :: ms) := sA.new hD ⟨[], rfl, .nil⟩
    refine lc_listD (xs := xs) (M' := D :: (muA ms ++ Mc)) (fun i H' => Ex H2 H' ∧ Sg K Mc He H' ((.ref a, Dx.toX xs) :: is) ((D, .lst (((xs.take i).map ef).map Dx.toX)) :: ms)) ⟨Ex.new hD, sB⟩
      (fun i H' _ p => ?_) (fun i x w H' hx p dw => ?_) (fun H' p => ?_)
    · obtain ⟨a', us', e', s2, ds'⟩ := Dt.list (α := α) p.2.im.1
      cases e'
      exact ⟨us', ex_l msk_le s2, ds'⟩
    · have hi : i < xs.length := (List.getElem?_eq_some_iff.mp hx).1
      refine hb D (.ref a) x w _ H' (p.2.put dw) (List.mem_of_getElem? hx) _ fun σ2 hw he => ⟨hw, ?_⟩
      have hlen : ((xs.take i).map ef).length < 50000 := by
        rw [List.length_map, List.length_take]
        omega
      exact lc_turn (ms := ms) (tt := tYes) (b := true) (zs := (xs.take (i + 1)).map ef) p.2 hlen (fun H3 => Ex H2 H3 ∧ Sg K Mc He H3 ((.ref a, Dx.toX xs) :: is) ((D, .lst (((xs.take (i + 1)).map ef).map Dx.toX)) :: ms)) (fun H2 _ _ _ q => q H2 (Ex.refl H2)) (fun _ => he) (by rw [if_pos rfl, take_snoc hx, List.map_append]; rfl) (fun H3 h4 s3 => ⟨by
        obtain ⟨H4, e4, e5⟩ := h4
        rcases e5 with e5 | ⟨o, e5⟩
        · rw [e5]; exact p.1.trans e4
        · rw [e5]; exact Ex.mut (p.1.trans e4) hD, s3⟩)
    · have z := p.2
      rw [List.take_length] at z
      obtain ⟨us2, h3, h4⟩ := z.lst (k := 0) rfl
      exact q D us2 H' (fresh_back e2 hD) (e2.trans p.1) h3 h4
theorem hf_lcR0 {vs : List Nat} (s : Sg K Mc He H is ms) {n : Int} (ef : Int → β) (h : Hv K (muA ms ++ Mc) ta σ H n) (hz : -100000 ≤ n ∧ n ≤ 40000)
    (hb : ∀ D (x : Int) (ys : List β) H1, Sg K Mc He H1 is ((D, .lst (ys.map Dx.toX)) :: ms) → 0 ≤ x ∧ x < n →
      ∀ Q : L2.St → Hp → Prop, (∀ σ2, wipe σ2 vs = wipe σ vs → Hv K (muA ((D, Mv.lst (ys.map Dx.toX)) :: ms) ++ Mc) te σ2 H1 (ef x) → Q σ2 H1) → g (.int x) (wipe σ vs) H1 Q) :
    HF K (muA ms ++ Mc) (tLc (iRng1 (tCons ta tNil)) g tYes te vs) σ H ((irng 0 n.toNat).map ef) := fun H1 e m Q q =>
  h H1 e m _ fun v H2 e2 d => by
    refine ⟨n, by rw [d.int], by omega, by omega, fun D hD => ?_⟩
    have sA : Sg K Mc He H2 is ms := (s.ex e).ex e2
    have sB : Sg K Mc He (upd H2 D (.lst [])) is ((D, .lst (([] : List β).map Dx.toX)) :: ms) := sA.new hD ⟨[], rfl, .nil⟩
    refine lc_range (lo := 0) (n := n.toNat) (fun i H' => Ex H2 H' ∧ Sg K Mc He H' is ((D, .lst ((((irng 0 n.toNat).take i).map ef).map Dx.toX)) :: ms)) ⟨Ex.new hD, sB⟩
      (fun i H' hi p => ?_) (fun H' p => ?_)
    · have hx : (irng 0 n.toNat)[i]? = some ((0 : Int) + (i : Int)) := irng_get hi
      refine hb D ((0 : Int) + (i : Int)) _ H' p.2 ⟨by omega, by omega⟩ _ fun σ2 hw he => ⟨hw, ?_⟩
      have hlen : (((irng 0 n.toNat).take i).map ef).length < 50000 := by
        rw [List.length_map, List.length_take, irng_len]
        omega
      exact lc_turn (ms := ms) (tt := tYes) (b := true) (zs := ((irng 0 n.toNat).take (i + 1)).map ef) p.2 hlen (fun H3 => Ex H2 H3 ∧ Sg K Mc He H3 is ((D, .lst ((((irng 0 n.toNat).take (i + 1)).map ef).map Dx.toX)) :: ms)) (fun H2 _ _ _ q => q H2 (Ex.refl H2)) (fun _ => he) (by rw [if_pos rfl, take_snoc hx, List.map_append]; rfl) (fun H3 h4 s3 => ⟨by
        obtain ⟨H4, e4, e5⟩ := h4
        rcases e5 with e5 | ⟨o, e5⟩
        · rw [e5]; exact p.1.trans e4
        · rw [e5]; exact Ex.mut (p.1.trans e4) hD, s3⟩)
    · have z := p.2
      have et : (irng 0 n.toNat).take n.toNat = irng 0 n.toNat := List.take_of_length_le (by rw [irng_len]; exact Nat.le_refl _)
      rw [et] at z
      obtain ⟨us2, h3, h4⟩ := z.lst (k := 0) rfl
      exact q D us2 H' (fresh_back e2 hD) (e2.trans p.1) h3 h4
/-- the items with their places -/
def enumL (xs : List α) : List (Int × α) := List.zipWith (fun (i : Nat) (x : α) => ((i : Int), x)) (List.range xs.length) xs
theorem enumL_len (xs : List α) : (enumL xs).length = xs.length := by unfold enumL; rw [List.length_zipWith, List.length_range, Nat.min_self]
theorem enumL_get {xs : List α} {i : Nat} {x : α} (h : xs[i]? = some x) : (enumL xs)[i]? = some ((i : Int), x) := by
  have hi : i < xs.length := (List.getElem?_eq_some_iff.mp h).1
  unfold enumL
  rw [List.getElem?_zipWith, List.getElem?_range hi, h]
/-- [.. for i, x in enumerate(xs)] -/
theorem hf_lcE0 {vs : List Nat} (s : Sg K Mc He H is ms) {xs : List α} (ef : Int × α → β) (h : Hv K (muA ms ++ Mc) tl σ H xs) (hz : xs.length ≤ 40000)
    (hb : ∀ D src (x : Int × α) w (ys : List β) H1, Sg K Mc He H1 ((w, Dx.toX x) :: (src, Dx.toX xs) :: is) ((D, .lst (ys.map Dx.toX)) :: ms) → x ∈ enumL xs →
      ∀ Q : L2.St → Hp → Prop, (∀ σ2, wipe σ2 vs = wipe σ vs → Hv K (muA ((D, Mv.lst (ys.map Dx.toX)) :: ms) ++ Mc) te σ2 H1 (ef x) → Q σ2 H1) → g w (wipe σ vs) H1 Q) :
    HF K (muA ms ++ Mc) (tLc (iEnum K (tCons tl tNil)) g tYes te vs) σ H ((enumL xs).map ef) := fun H1 e m Q q =>
  h H1 e m _ fun v H2 e2 d => by
    obtain ⟨a, us, rfl, s1, ds⟩ := d.list
    have s1' : SqL K H2 a us := ex_l msk_le s1
    refine ⟨a, us, rfl, s1', fun D hD => ?_⟩
    have sA : Sg K Mc He H2 ((.ref a, Dx.toX xs) :: is) ms := ((s.ex e).ex e2).put d
    have sB : Sg K Mc He (upd H2 D (.lst [])) ((.ref a, Dx.toX xs) :: is) ((D, .lst (([] : List β).map Dx.toX)) :: ms) := sA.new hD ⟨[], rfl, .nil⟩
    have hlu : us.length = xs.length := ds.len
    refine lc_it (walk_enum (K := K) (a := a) (xs := us)) (fun i H' => Ex H2 H' ∧ Sg K Mc He H' ((.ref a, Dx.toX xs) :: is) ((D, .lst ((((enumL xs).take i).map ef).map Dx.toX)) :: ms)) ⟨Ex.new hD, sB⟩
      (fun i H' _ p => ex_l p.1 s1') (fun i x H' H'' hi p y => ?_) (fun H' p => ?_)
    · obtain ⟨T, x0, x1, rfl, nT, rfl, f1, f2⟩ := y
      have hix : i < xs.length := by rw [← hlu]; exact hi
      have gx : xs[i]? = some xs[i] := by simp [hix]
      have gE := enumL_get gx
      have e0 : x0 = .int (i : Int) := (Option.some.inj f1).symm
      subst e0
      have eT : Ex H' (upd H' T (.tup [.int (i : Int), x1])) := Ex.new nT
      have sT := p.2.ex eT
      have dm : Dt K (msk (D :: (muA ms ++ Mc)) (upd H' T (.tup [.int (i : Int), x1]))) x1 xs[i] := by
        have d2 : Dts K (msk (D :: (muA ms ++ Mc)) (upd H' T (.tup [.int (i : Int), x1]))) us xs := by
          have q1 : Dts K (msk (muA ms ++ Mc) H2) us xs := ds
          have q2 : Ex (msk (muA ms ++ Mc) H2) (msk (D :: (muA ms ++ Mc)) (upd H' T (.tup [.int (i : Int), x1]))) := fun b o hb' => by
            by_cases z : b ∈ muA ms ++ Mc
            · rw [msk_in z] at hb'; cases hb'
            · rw [msk_out z] at hb'
              have nb : b ≠ D := ne_of_none hb' hD
              rw [msk_out (by simp only [List.mem_cons, not_or]; exact ⟨nb, z⟩)]
              exact eT b o (p.1 b o hb')
          exact q1.mono q2
        obtain ⟨w, w1, w2⟩ := d2.at gx
        have : x1 = w := Option.some.inj (f2.symm.trans w1)
        subst this; exact w2
      have nTD : T ∉ D :: (muA ms ++ Mc) := fun z => (p.2.mok T z) nT
      have dw : Dt K (msk (D :: (muA ms ++ Mc)) (upd H' T (.tup [.int (i : Int), x1]))) (.ref T) ((i : Int), xs[i]) := Dt.ofPair (SqT.of (by rw [msk_out nTD]; exact upd_same)) (Dt.ofInt _) dm
      refine hb D (.ref a) ((i : Int), xs[i]) (.ref T) _ _ (sT.put dw) (List.mem_of_getElem? gE) _ fun σ2 hw he => ⟨hw, ?_⟩
      have hlen : (((enumL xs).take i).map ef).length < 50000 := by
        rw [List.length_map, List.length_take, enumL_len]
        omega
      exact lc_turn (ms := ms) (tt := tYes) (b := true) (zs := ((enumL xs).take (i + 1)).map ef) sT hlen (fun H3 => Ex H2 H3 ∧ Sg K Mc He H3 ((.ref a, Dx.toX xs) :: is) ((D, .lst ((((enumL xs).take (i + 1)).map ef).map Dx.toX)) :: ms)) (fun H2 _ _ _ q => q H2 (Ex.refl H2)) (fun _ => he) (by rw [if_pos rfl, take_snoc gE, List.map_append]; rfl) (fun H3 h4 s3 => ⟨by
        obtain ⟨H4, e4, e5⟩ := h4
        rcases e5 with e5 | ⟨o, e5⟩
        · rw [e5]; exact (p.1.trans eT).trans e4
        · rw [e5]; exact Ex.mut ((p.1.trans eT).trans e4) hD, s3⟩)
    · have z := p.2
      have et : (enumL xs).take us.length = enumL xs := List.take_of_length_le (by rw [enumL_len, hlu]; exact Nat.le_refl _)
      rw [et] at z
      obtain ⟨us2, h3, h4⟩ := z.lst (k := 0) rfl
      exact q D us2 H' (fresh_back e2 hD) (e2.trans p.1) h3 h4
theorem z_augSG {i : Nat} {a b : Str} (s : Sg K Mc He H is ms) (hx : σ[i]? = some (some (.str a))) (h : Hv K (muA ms ++ Mc) te σ H b) (hz : a.length + b.length ≤ 100000) (k : ∀ y, y = a ++ b → ∀ H1, Sg K Mc He H1 is ms → tz D (σ.set i (some (.str y))) H1) :
    tSeq (tAug i te (fun x y H Q => ∃ i j, x = .str i ∧ y = .str j ∧ i.length + j.length ≤ sizeLine ∧ Q (.str (i ++ j)) H)) tz D σ H :=
  ⟨.str a, hx, h H (Ex.refl H) s.mok _ fun v H1 e d => ⟨a, b, rfl, d.str, sz_of hz, k _ rfl H1 (s.ex e)⟩⟩
end
theorem str_len_app (a b : Str) : (a ++ b).length = a.length + b.length := by
  rw [TL.len_tl, TL.len_tl, TL.len_tl, TL.tl_append, List.length_append]
theorem chars_one {s x : Str} {i : Nat} (h : (chars s)[i]? = some x) : x.length = 1 := by
  unfold chars at h
  rw [List.getElem?_map] at h
  cases hc : s.cps.toList[i]? with
  | none => rw [hc] at h; cases h
  | some c =>
    rw [hc] at h
    cases h
    rfl
theorem strAt_len (s : Str) (i : Nat) : (strAt s i).length = 1 := rfl
end Ly

namespace Ly
open PySem PySem.Spec PyProof.Rows L2 Evl
open PySem.W (Datum DatumOrd Tup T3 T4 minOf)
section
variable {K : PySem.W.Frag} {Mc M : List Addr} {He H H1 H2 : Hp} {is js : Ims} {ms : Mus} {σ : L2.St} {te ta tb tl : TE} {tt : TT} {g : TG} {tlo thi : TO}
theorem inV_strs (a : Str) : ∀ xs : List Str, inV (.str a) (xs.map V.str) = decide (a ∈ xs)
  | [] => by simp [inV]
  | x :: xs => by
    have ih := inV_strs a xs
    unfold inV at ih ⊢
    rw [List.map_cons, List.any_cons, ih]
    show (x == a || _) = _
    by_cases h : x = a
    · subst h; simp
    · have h2 : ¬ a = x := fun z => h z.symm
      simp [h, h2]
theorem flat_strs : ∀ xs : List Str, (xs.map V.str).all flatV = true
  | [] => rfl
  | x :: xs => by rw [List.map_cons, List.all_cons, flat_strs xs]; rfl
theorem hv_memS {neg : Bool} {tr : TA} {a : Str} {xs : List Str} (ha : Hv K M ta σ H a) (hr : HAs K M tr σ H xs) (hl : xs.length ≤ 100000) : Hv K M (tOp (rIn K neg) ta (tTup tr)) σ H (if neg then !decide (a ∈ xs) else decide (a ∈ xs)) := fun H1 e m Q q =>
  ha H1 e m _ fun v H2 e2 d => hr H2 (e.trans e2) (m.ex e2) _ fun vs H3 e3 d' => ⟨sz_of (by rw [d'.len]; exact hl), fun p hp => by
    have e4 : Ex H3 (upd H3 p (.tup vs)) := Ex.new hp
    have hv := dts_strs d'
    refine ⟨p, vs, rfl, Or.inr (SqT.of upd_same), by rw [d.str]; rfl, by rw [hv]; exact flat_strs xs, ?_⟩
    have hb : inV v vs = decide (a ∈ xs) := by rw [d.str, hv]; exact inV_strs a xs
    rw [hb]
    exact q _ _ ((e2.trans e3).trans e4) (Dt.ofBool _)⟩
theorem hv_inTS {tr : TA} {a : Str} {xs : List Str} (ha : Hv K M ta σ H a) (hr : HAs K M tr σ H xs) (hl : xs.length ≤ 100000) : Hv K M (tOp (rIn K false) ta (tTup tr)) σ H (decide (a ∈ xs)) := hv_memS (neg := false) ha hr hl
theorem hv_niTS {tr : TA} {a : Str} {xs : List Str} (ha : Hv K M ta σ H a) (hr : HAs K M tr σ H xs) (hl : xs.length ≤ 100000) : Hv K M (tOp (rIn K true) ta (tTup tr)) σ H (!decide (a ∈ xs)) := hv_memS (neg := true) ha hr hl
end
/-! ### facts of texts -/
abbrev cps (s : Str) : List Nat := s.cps.toList
theorem len_cps (s : Str) : s.length = (cps s).length := by simp [Str.length, cps]
theorem cps_app (a b : Str) : cps (a ++ b) = cps a ++ cps b := by
  show (a ++ b).cps.toList = _
  rw [PySem.Str.cps_append, Array.toList_append]
theorem str_ext {a b : Str} (h : cps a = cps b) : a = b := by
  cases a; cases b
  congr 1
  exact Array.toList_inj.mp h
theorem cps_lower {s : Str} (h : ∀ c ∈ cps s, c < 128) : cps (Txt.lower s) = (cps s).map PyProof.Rows.lo1 := by
  rw [PyProof.Rows.lower_ascii h]
  show (Array.map _ _).toList = _
  rw [Array.toList_map]
theorem find3_cases (x y : Str) (i : Int) :
    (Txt.find3 x y i = -1 ∧ ∀ k, PySem.fromIndex x.length i ≤ k → ¬ StrLaws.At x y x.length k) ∨
    ∃ k : Nat, Txt.find3 x y i = (k : Int) ∧ PySem.fromIndex x.length i ≤ k ∧ StrLaws.At x y x.length k ∧ ∀ v, PySem.fromIndex x.length i ≤ v → v < k → ¬ StrLaws.At x y x.length v := by
  unfold Txt.find3
  rcases StrLaws.occ_head_from x y (PySem.fromIndex x.length i) 1 (Nat.le_refl 1) with ⟨h0, hn⟩ | ⟨k, r, h0, h1, h2, h3⟩
  · rw [h0]; exact .inl ⟨rfl, hn⟩
  · rw [h0]; exact .inr ⟨k, rfl, h1, h2, h3⟩
theorem from_nat (n : Nat) {i : Int} (h : 0 ≤ i) : PySem.fromIndex n i = i.toNat := by
  unfold PySem.fromIndex
  rw [if_neg (by omega)]
  omega
theorem inStr_one (c : Nat) (s : Str) : inStr ⟨#[c]⟩ s = decide (c ∈ cps s) := StrLaws.found_one s c
theorem chars_cps (s : Str) : chars s = (cps s).map fun c => ⟨#[c]⟩ := rfl
theorem mem_chars {s x : Str} {i : Nat} (h : (chars s)[i]? = some x) : ∃ c ∈ cps s, x = ⟨#[c]⟩ := by
  rw [chars_cps, List.getElem?_map] at h
  cases hc : (cps s)[i]? with
  | none => rw [hc] at h; cases h
  | some c =>
    rw [hc] at h
    exact ⟨c, List.mem_of_getElem? hc, (Option.some.inj h).symm⟩
abbrev DIG : Str := PySem.Str.ofString "0123456789"
theorem cps_dig : cps DIG = [48, 49, 50, 51, 52, 53, 54, 55, 56, 57] := by decide +kernel
theorem dig_iff (c : Nat) : inStr ⟨#[c]⟩ DIG = true ↔ 48 ≤ c ∧ c ≤ 57 := by
  rw [inStr_one, cps_dig, decide_eq_true_eq]
  simp only [List.mem_cons, List.not_mem_nil, or_false]
  omega
theorem int_dig {c : Nat} (h : 48 ≤ c ∧ c ≤ 57) : PySem.intText? ⟨#[c]⟩ = some ((c - 48 : Nat) : Int) := by
  obtain ⟨h1, h2⟩ := h
  have : c = 48 ∨ c = 49 ∨ c = 50 ∨ c = 51 ∨ c = 52 ∨ c = 53 ∨ c = 54 ∨ c = 55 ∨ c = 56 ∨ c = 57 := by omega
  rcases this with h | h | h | h | h | h | h | h | h | h <;> (subst h; decide +kernel)
theorem int_sign {s x : Str} {i : Nat} (h : (chars s)[i]? = some x) (hd : inStr x DIG = true) : PySem.intText? x = some ((PySem.intText? x).getD 0) := by
  obtain ⟨c, _, rfl⟩ := mem_chars h
  rw [int_dig ((dig_iff c).mp hd)]
  rfl
theorem sum_le {α : Type} (f : α → Str) (n : Nat) (h : ∀ x, (f x).length ≤ n) : ∀ xs : List α, ((xs.map f).map (·.length)).sum ≤ n * xs.length
  | [] => by simp
  | x :: xs => by
    have := sum_le f n h xs
    have := h x
    rw [List.map_cons, List.map_cons, List.sum_cons, List.length_cons, Nat.mul_add]
    omega
theorem getD_P {α : Type} {P : α → Prop} {xs : List α} {d : α} (h : ∀ x ∈ xs, P x) (hd : P d) (i : Nat) : P (xs.getD i d) := by
  rw [List.getD_eq_getElem?_getD]
  cases hx : xs[i]? with
  | none => exact hd
  | some x => exact h x (List.mem_of_getElem? hx)
theorem next_find (d c : Str) {s : Int} (h0 : 0 ≤ s) : Txt.find3 d c (s + 1) < 0 ∨ (s < Txt.find3 d c (s + 1) ∧ Txt.find3 d c (s + 1) ≤ (d.length : Int)) := by
  rcases find3_cases d c (s + 1) with ⟨h, _⟩ | ⟨k, h, h1, h2, _⟩
  · left; omega
  · right
    rw [from_nat _ (by omega)] at h1
    have := h2.1
    omega
theorem loopW_inv {S : Type} {c : S → Bool} {f : S → S} (I : S → Prop) (hs : ∀ s, I s → c s = true → I (f s)) : ∀ (n : Nat) (s : S), I s → I (loopW c f n s)
  | 0, s, h => h
  | n + 1, s, h => by
    rw [loopW]
    split
    · rename_i hc
      exact loopW_inv I hs n _ (hs s h hc)
    · exact h
theorem foldl_inv {S α : Type} {f : S → α → S} (I : S → Prop) : ∀ (l : List α) (s : S), (∀ s x, x ∈ l → I s → I (f s x)) → I s → I (l.foldl f s)
  | [], s, _, h => h
  | x :: l, s, hs, h => by
    rw [List.foldl_cons]
    exact foldl_inv I l _ (fun s y hy => hs s y (List.mem_cons_of_mem _ hy)) (hs s x List.mem_cons_self h)
end Ly

namespace Ly
open PySem PySem.Spec PyProof.Rows L2 Evl
/-! ### facts of loops and of places in texts -/
/-- what lies from lo on, n places long -/
def gl {β : Type} (occ : Nat → Bool) (blk : Nat → List β) : Nat → Nat → List β
  | _, 0 => []
  | lo, n + 1 => (if occ lo = true then blk lo else []) ++ gl occ blk (lo + 1) n
theorem gl_skip {β : Type} {occ : Nat → Bool} {blk : Nat → List β} : ∀ (j lo r : Nat), (∀ v, lo ≤ v → v < lo + j → occ v = false) → gl occ blk lo (j + r) = gl occ blk (lo + j) r
  | 0, lo, r, _ => by rw [Nat.zero_add, Nat.add_zero]
  | j + 1, lo, r, h => by
    rw [show j + 1 + r = (j + r) + 1 by omega, gl, h lo (by omega) (by omega), if_neg Bool.false_ne_true, List.nil_append, gl_skip j (lo + 1) r fun v h1 h2 => h v (by omega) (by omega)]
    rw [show lo + 1 + j = lo + (j + 1) by omega]
theorem gl_none {β : Type} {occ : Nat → Bool} {blk : Nat → List β} : ∀ (j lo : Nat), (∀ v, lo ≤ v → v < lo + j → occ v = false) → gl occ blk lo j = []
  | 0, lo, _ => rfl
  | j + 1, lo, h => by
    rw [gl, h lo (by omega) (by omega), if_neg Bool.false_ne_true, List.nil_append]
    exact gl_none j (lo + 1) fun v h1 h2 => h v (by omega) (by omega)
theorem gl_mem {β : Type} {occ : Nat → Bool} {blk : Nat → List β} {x : β} : ∀ (n lo : Nat), x ∈ gl occ blk lo n → ∃ k, lo ≤ k ∧ k < lo + n ∧ occ k = true ∧ x ∈ blk k
  | 0, lo, h => by cases h
  | n + 1, lo, h => by
    rw [gl, List.mem_append] at h
    rcases h with h | h
    · cases ho : occ lo with
      | true => rw [ho, if_pos rfl] at h; exact ⟨lo, by omega, by omega, ho, h⟩
      | false => rw [ho, if_neg Bool.false_ne_true] at h; cases h
    · obtain ⟨k, h1, h2, h3⟩ := gl_mem n (lo + 1) h
      exact ⟨k, by omega, by omega, h3⟩
theorem gl_split {β : Type} {occ : Nat → Bool} {blk : Nat → List β} : ∀ (a b lo : Nat), gl occ blk lo (a + b) = gl occ blk lo a ++ gl occ blk (lo + a) b
  | 0, b, lo => by rw [Nat.zero_add]; rfl
  | a + 1, b, lo => by
    rw [show a + 1 + b = (a + b) + 1 by omega, gl, gl, gl_split a b (lo + 1), List.append_assoc, show lo + 1 + a = lo + (a + 1) by omega]
/-- turns over the places, and turns over what lies there -/
theorem foldl_gl {S β : Type} {occ : Nat → Bool} {blk : Nat → List β} {f : S → β → S} {g : S → Int → S} : ∀ (n lo : Nat) (s : S), (∀ v s, lo ≤ v → v < lo + n → g s (v : Int) = if occ v = true then (blk v).foldl f s else s) → (gl occ blk lo n).foldl f s = loopN g n (lo : Int) s
  | 0, lo, s, _ => rfl
  | n + 1, lo, s, h => by
    rw [gl, List.foldl_append, loopN, h lo s (by omega) (by omega)]
    have ih := fun s' => foldl_gl (occ := occ) (blk := blk) (f := f) (g := g) n (lo + 1) s' fun v s h1 h2 => h v s (by omega) (by omega)
    have e : ((lo : Int) + 1) = ((lo + 1 : Nat) : Int) := by omega
    rw [e]
    cases ho : occ lo with
    | true => rw [if_pos rfl, if_pos rfl]; exact ih _
    | false => rw [if_neg Bool.false_ne_true, if_neg Bool.false_ne_true]; exact ih _
/-- turns over places with the item there, and turns over the list told with its places -/
theorem loopN_enum {S α : Type} [DecidableEq α] [Dx α] {g : S → Int → α → S} {d : α} {xs : List α} : ∀ (k i : Nat) (s : S), i + k = xs.length → loopN (fun s x => g s x (xs.getD (Int.toNat x) d)) k (i : Int) s = ((enumL xs).drop i).foldl (fun s p => g s p.1 p.2) s
  | 0, i, s, h => by
    rw [List.drop_eq_nil_of_le (by rw [enumL_len]; omega)]
    rfl
  | k + 1, i, s, h => by
    have hi : i < xs.length := by omega
    have gx : xs[i]? = some xs[i] := by simp [hi]
    have gE := enumL_get gx
    obtain ⟨hi2, ge⟩ := List.getElem?_eq_some_iff.mp gE
    rw [List.drop_eq_getElem_cons hi2, ge, List.foldl_cons, loopN]
    have e : ((i : Int) + 1) = ((i + 1 : Nat) : Int) := by omega
    rw [e, loopN_enum k (i + 1) _ (by omega)]
    have e2 : xs.getD (Int.toNat (i : Int)) d = xs[i] := by
      rw [Int.toNat_natCast, List.getD_eq_getElem?_getD, gx]
      rfl
    rw [e2]
theorem enumL_mem {α : Type} [DecidableEq α] [Dx α] {xs : List α} {p : Int × α} (h : p ∈ enumL xs) : 0 ≤ p.1 ∧ p.1 < (xs.length : Int) ∧ p.2 ∈ xs := by
  obtain ⟨i, hi, rfl⟩ := List.getElem_of_mem h
  have hx : i < xs.length := by rw [enumL_len] at hi; exact hi
  have gx : xs[i]? = some xs[i] := by simp [hx]
  have gE := enumL_get gx
  obtain ⟨_, ge⟩ := List.getElem?_eq_some_iff.mp gE
  rw [ge]
  exact ⟨by show (0 : Int) ≤ (i : Int); omega, by show (i : Int) < _; omega, List.getElem_mem hx⟩
/-- c lies in d at k -/
def occ (d c : Str) (k : Nat) : Bool := decide (k + c.length ≤ d.length) && Builtin.Str.subAt d c k
theorem occ_iff (d c : Str) (k : Nat) : occ d c k = true ↔ StrLaws.At d c d.length k := by
  unfold occ StrLaws.At
  rw [Bool.and_eq_true, decide_eq_true_eq]
theorem occ_no {d c : Str} {k : Nat} (h : ¬ StrLaws.At d c d.length k) : occ d c k = false := by
  cases e : occ d c k with
  | false => rfl
  | true => exact absurd ((occ_iff d c k).mp e) h
theorem find_zero (d c : Str) : Txt.find d c = Txt.find3 d c ((0 : Nat) : Int) := by
  unfold Txt.find Txt.find3
  rw [from_nat _ (by omega)]
  rfl
/-- the places, found one after another -/
theorem loopW_occ {β : Type} {d c : Str} {blk : Nat → List β} {f : List β × Int → List β × Int} (hf : ∀ l (k : Nat), f (l, (k : Int)) = (l ++ blk k, Txt.find3 d c ((k : Int) + 1))) :
    ∀ (fuel lo : Nat) (l : List β), lo ≤ d.length + 1 → d.length + 1 - lo < fuel →
      (loopW (fun (s_ : List β × Int) => decide ((0 : Int) ≤ s_.2)) f fuel (l, Txt.find3 d c (lo : Int))).1 = l ++ gl (occ d c) blk lo (d.length + 1 - lo)
  | 0, lo, l, _, h => by omega
  | fuel + 1, lo, l, h1, h2 => by
    rw [loopW]
    rcases find3_cases d c (lo : Int) with ⟨h, hn⟩ | ⟨k, h, hk, hat, hn⟩
    · rw [from_nat _ (by omega), Int.toNat_natCast] at hn
      rw [h, if_neg (show ¬ decide ((0 : Int) ≤ -1) = true by decide)]
      rw [gl_none _ _ fun v h1 h2 => occ_no (hn v h1), List.append_nil]
    · rw [from_nat _ (by omega), Int.toNat_natCast] at hk hn
      have hle := hat.1
      rw [h, if_pos (by show decide ((0 : Int) ≤ (k : Int)) = true; rw [decide_eq_true_eq]; omega), hf, show ((k : Int) + 1) = ((k + 1 : Nat) : Int) by omega, loopW_occ hf fuel (k + 1) _ (by omega) (by omega), List.append_assoc]
      congr 1
      rw [show d.length + 1 - lo = (k - lo) + (d.length + 1 - k) by omega, gl_skip (k - lo) lo _ fun v h1 h2 => occ_no (hn v h1 (by omega))]
      rw [show lo + (k - lo) = k by omega, show d.length + 1 - k = (d.length + 1 - (k + 1)) + 1 by omega, gl, if_pos ((occ_iff d c k).mpr hat)]
theorem cut_occ {d c : Str} {k : Nat} (h : k + c.length ≤ d.length) : decide (cutS d (some (k : Int)) (some ((k : Int) + ((c.length : Nat) : Int))) = c) = occ d c k := by
  have e1 : HT.sIx d.length 0 (some (k : Int)) = k := by rw [HT.sIx_nat]; omega
  have e2 : HT.sIx d.length d.length (some ((k : Int) + ((c.length : Nat) : Int))) = k + c.length := by
    rw [show ((k : Int) + ((c.length : Nat) : Int)) = ((k + c.length : Nat) : Int) by omega, HT.sIx_nat]; omega
  unfold occ
  rw [decide_eq_true h, Bool.true_and, StrLaws.subAt_eq]
  unfold cutS
  rw [e1, e2, show k + c.length - k = c.length by omega]
  by_cases q : (d.cps.toList.drop k).take c.length = c.cps.toList
  · rw [q, beq_self_eq_true, decide_eq_true_eq]
  · have q2 : ((d.cps.toList.drop k).take c.length == c.cps.toList) = false := beq_eq_false_iff_ne.mpr q
    rw [q2, decide_eq_false]
    intro z
    apply q
    have := congrArg (fun (s : Str) => s.cps.toList) z
    simpa using this
theorem loopNR_all {ρ S : Type} {f : S → Int → Lp ρ S} (h : ∀ s k, f s k = .nxt s) : ∀ (n : Nat) (k : Int) (s : S), loopNR f n k s = .inr s
  | 0, _, _ => rfl
  | n + 1, k, s => by rw [loopNR, h]; exact loopNR_all h n (k + 1) s
theorem set_same {xs : List Int} {i : Nat} {v : Int} (h : xs.getD i 0 = v) : xs.set i v = xs := by
  rw [List.getD_eq_getElem?_getD] at h
  cases hx : xs[i]? with
  | none => exact List.set_eq_of_length_le (List.getElem?_eq_none_iff.mp hx)
  | some x =>
    rw [hx] at h
    obtain ⟨hi, hg⟩ := List.getElem?_eq_some_iff.mp hx
    subst h
    rw [← hg]
    exact List.set_getElem_self hi
theorem getD_nonneg {xs : List Int} (h : ∀ x ∈ xs, (0 : Int) ≤ x) (i : Nat) : 0 ≤ xs.getD i 0 := getD_P (P := fun x => (0 : Int) ≤ x) h (Int.le_refl 0) i
theorem cutL_in {α : Type} {xs : List α} {a b : Nat} : cutL xs (some (a : Int)) (some (b : Int)) = (xs.drop (min a xs.length)).take (min b xs.length - min a xs.length) := by
  unfold cutL
  rw [HT.sIx_nat, HT.sIx_nat]
theorem zeros_eq (n : Nat) : (List.replicate n [(0 : Int)]).flatten = (irng 0 n).map (fun _ => (0 : Int)) := by
  have h1 : ∀ k : Nat, (List.replicate k [(0 : Int)]).flatten = List.replicate k 0 := fun k => by
    induction k with
    | zero => rfl
    | succ k ih => rw [List.replicate_succ, List.flatten_cons, ih]; rfl
  rw [h1]
  symm
  rw [List.eq_replicate_iff]
  exact ⟨by rw [List.length_map, irng_len], fun b hb => by obtain ⟨_, _, rfl⟩ := List.mem_map.mp hb; rfl⟩
end Ly

namespace Ly
open PySem PySem.Spec PyProof.Rows L2 Evl CwR
open PySem.W (Datum DatumOrd Tup T3 T4 minOf)
/-! ### where a token is out: tests, a turn's body, the loop -/
def PTT (X : Cx) (c : Expr) (t : TT) : Prop :=
  ∀ (pins : List (Addr × Obj)) (s : Shared) (σ : L2.St) (H : Hp) (Q : Bool → Hp → Prop), 1 ≤ s.toks → Inv X pins σ H s → t σ H Q → wpAny (model X.prog X.w) X.A (isTrue c X.env (eval c X.env)) (TP X pins σ Q) X.xe s
def PWT (X : Cx) (c : Expr) (t : TT) : Prop :=
  ∀ (wh : Sem Value) (pins : List (Addr × Obj)) (s : Shared) (σ : L2.St) (H : Hp) (Q : Bool → Hp → Prop), 1 ≤ s.toks → Inv X pins σ H s → t σ H Q → wpAny (model X.prog X.w) X.A (isTrue c X.env wh) (TP X pins σ Q) X.xe s
section
variable {X : Cx} {a b c o : Expr} {rest : List Expr} {pos apos : Pos} {ta tb to : TE} {tA tB : TT}
theorem PTT.of (h : PT X c tA) : PTT X c tA := fun pins s σ H Q _ I q => h.run pins s σ H Q I q
theorem PWT.ptt (h : PWT X c tA) : PTT X c tA := fun pins s σ H Q h0 I q => h _ pins s σ H Q h0 I q
theorem ptt_cmp {op : CmpOp} {r : R2} (ho : OpR X (compareOp op) r) (ha : PET X a ta) (hb : PE X b tb) (hm : behindInMarks op b = false) : PTT X (.Compare a [op] [b] pos) (tTest (tOp r ta tb)) := fun pins s σ H Q h0 I h =>
  wpAny_isTrue_Compare1 (thn (ha pins s σ H _ h0 I h) fun v s1 ⟨x, H1, I1, r1, q1⟩ => thn (hb.run pins s1 σ H1 _ I1 q1) fun u s2 ⟨y, H2, I2, r2, q2⟩ =>
    thn (ho pins s2 σ H2 x y v u _ I2 r1 r2 q2) fun d s3 ⟨z, H3, I3, r3, k, e, q3⟩ => by
      subst e
      cases r3
      exact wpAny_truthy_bool ⟨H3, I3, q3⟩) hm
theorem pwt_and1 (ha : PTT X a tA) : PWT X (.BoolOp .And [a] pos) tA := fun wh pins s σ H Q h0 I h =>
  isTrue_and (thn (ha pins s σ H Q h0 I h) fun d s1 e => by
    cases d with
    | true => exact isTrue_and_nil e
    | false => exact e)
theorem pwt_and (ha : PTT X a tA) (hb : PWT X (.BoolOp .And (b :: rest) pos) tB) : PWT X (.BoolOp .And (a :: b :: rest) pos) (tAnd tA tB) := fun wh pins s σ H Q h0 I h =>
  isTrue_and (wpAny_mono (PySem.wpAny_toks (ha pins s σ H _ h0 I h)) (fun d s1 q => by
    obtain ⟨hk, H1, I1, q1⟩ := q
    cases d with
    | true => exact hb wh pins s1 σ H1 Q (Nat.le_trans h0 hk) I1 q1
    | false => exact ⟨H1, I1, q1⟩) fun _ _ z => z.2)
theorem pet_m0 {id : String} {name : Str} {r : V → List V → Hp → VK → Prop} (slot : Slot "str" name id) (ty : typeOf (.builtin id) = pure (.type "method_descriptor")) (rule : MtR X id r) (ho : PET X o to)
    (hbase : attributeBase o name X.env (eval o X.env) = eval o X.env := by rfl) (hline : (apos.endLine == pos.line) = true := by rfl) : PET X (.Call (.Attribute o name apos) [] [] pos) (tM0 r to) := fun pins s σ H Q h0 I h =>
  PySem.Call_method0 hbase hline (thn (ho pins s σ H _ h0 I h) fun v s1 ⟨x, H1, I1, r1, q⟩ => by
    obtain ⟨⟨z, rfl⟩, q1⟩ := q
    obtain ⟨t, rfl⟩ := _root_.id r1
    exact ⟨"str", _, PySem.F.plainAttrs_str, slot, ty, typeIs_str _ _ _, (fun _ e => nomatch e), Calls.callWith_builtin rfl (PySem.evalArgs_none (rule pins s1 σ H1 _ [] _ [] Q I1 r1 .nil q1))⟩)
theorem pet_lower (ho : PET X o to) (hbase : attributeBase o "lower" X.env (eval o X.env) = eval o X.env := by rfl) (hline : (apos.endLine == pos.line) = true := by rfl) :
    PET X (.Call (.Attribute o "lower" apos) [] [] pos) (tM0 (fun x xs H Q => ∃ a, x = .str a ∧ xs = [] ∧ a.length ≤ 5592405 ∧ Q (.str (Txt.lower a)) H) to) :=
  pet_m0 PySem.F.slot_str_lower PySem.F.type_str_lower mt_lower ho hbase hline
theorem pst_ifT {x y : List Stmt} {tc : TT} {t u : TS} (hc : PTT X c tc) (hx : PSsT X x t) (hy : PSsT X y u) : PST X (.If c x y pos) (tIfS tc t u) := fun pins s σ H D h0 I h =>
  wpAny_If (wpAny_mono (PySem.wpAny_toks (hc pins s σ H _ h0 I h)) (fun d s1 q => by
    obtain ⟨hk, H1, I1, q1⟩ := q
    cases d with
    | true => exact hx pins s1 σ H1 D (Nat.le_trans h0 hk) I1 q1
    | false => exact hy pins s1 σ H1 D (Nat.le_trans h0 hk) I1 q1) fun _ _ z => z.2)
/-- for: a token that is out stays out through the turns -/
theorem pst_forT {tg iter : Expr} {body : List Stmt} {wi : TI} {g : TG} {tb : TS} (hp : PassesOwn (model X.prog X.w) X.A X.env X.xe) (hc : X.calm = true) (hi : PI X tg iter wi) (hg : PG X tg g) (hb : PSsT X body tb)
    (hs : ∀ x, foldedSetIterable iter X.env x = pure x := by intro _; rfl) : PST X (.For tg iter body [] pos) (tFor wi g tb) := by
  intro pins s σ H D h0 I h
  have grow : ∀ {α : Type} {t : Sem α} {Q : α → Shared → Prop} {E : Value → Shared → Prop} {z : Shared}, 1 ≤ z.toks → wpAny (model X.prog X.w) X.A t Q E z → wpAny (model X.prog X.w) X.A t (fun r z' => 1 ≤ z'.toks ∧ Q r z') E z := fun hz w =>
    wpAny_mono (PySem.wpAny_toks_of hz w) (fun _ _ q => q) fun _ _ q => q.2
  refine wpAny_For (wpAny_mono (grow h0 (hi.run pins s σ H _ I h)) (fun v s1 h1 => wpAny_mono (grow h1.1 h1.2) (fun itv s2 h2 => ?_) fun _ _ q => q) fun _ _ q => q) hs
  obtain ⟨k2, it, fp, tn, J, H2, e, I2, T, st2, f2, W, ⟨m0, w0⟩, turn⟩ := h2
  subst e
  have own : ∀ {H' : Hp}, (∀ b ∈ fp, H' b = none) → ∀ b ∈ fp, FpOk X pins H' b := fun hn b hb => ⟨hn b hb, (f2 b hb).2⟩
  refine codeAny_forLoop_any (fun n s' => 1 ≤ s'.toks ∧ ∃ i σ' H', Inv X pins σ' H' s' ∧ tn i s'.heap ∧ (∀ b ∈ fp, H' b = none) ∧ W i n σ' H') ?_ m0 ⟨k2, 0, σ, H2, I2, st2, fun b hb => (f2 b hb).1, w0⟩
  rintro n s3 ⟨k3, i, σ3, H3, I3, st3, fr3, w3⟩
  rcases turn i n σ3 H3 w3 with ⟨stop, qn⟩ | ⟨go, N, hN, step⟩
  · refine wpAny_passesOwn hp (thn (T.done X rfl rfl rfl hc i pins s3 σ3 H3 X.xe I3 (own fr3) st3 stop) fun r s4 ⟨hr, I4⟩ => ?_)
    subst hr
    exact wpAny_execs_nil ⟨σ3, H3, I4, qn⟩
  · refine wpAny_passesOwn hp (thn (grow k3 (T.item X rfl rfl rfl hc i pins s3 σ3 H3 X.xe I3 (own fr3) st3 go)) fun r s4 ⟨k4, u, hr, h4⟩ => ?_)
    subst hr
    refine wpAny_passesOwn hp (thn (grow k4 h4) fun _ s5 ⟨k5, x, H5, I5, r5, y5, st5, fr5⟩ => ?_)
    have I5' := I5.pinned (own fr5) (T.obj _ _ st5)
    refine wpAny_passesOwn hp (thn (grow k5 (hg.run _ s5 σ3 H5 x u _ I5' r5 (step x H5 y5))) fun _ s6 ⟨k6, σ6, H6, I6, q6⟩ => ?_)
    refine wpAny_passesOwn hp (thn (grow k6 (hb _ s6 σ6 H6 _ k6 I6 q6)) fun f s7 ⟨k7, q7⟩ => ?_)
    have next : ∀ {σ7 : L2.St} {H7 : Hp}, Inv X (pins ++ pinsAt fp s5.heap) σ7 H7 s7 → N σ7 H7 → ∃ m, m < n ∧ 1 ≤ s7.toks ∧ ∃ i σ' H', Inv X pins σ' H' s7 ∧ tn i s7.heap ∧ (∀ b ∈ fp, H' b = none) ∧ W i m σ' H' := fun {σ7 H7} I7 n7 => by
      obtain ⟨m', hm, w7⟩ := hN σ7 H7 n7
      have at7 := fun b (hb : b ∈ fp) o e => I7.pin (b, o) (List.mem_append_right _ (List.mem_append_right _ (mem_pinsAt hb e)))
      refine ⟨m', hm, k7, i + 1, σ7, H7, I7.unpinned, T.keep _ _ _ st5 fun b hb o e => (at7 b hb o e).1, fun b hb => ?_, w7⟩
      obtain ⟨o, e, d⟩ := T.obj _ _ st5 b hb
      exact (at7 b hb o e).2.1
    cases f with
    | next => obtain ⟨σ7, H7, I7, n7⟩ := q7; exact next I7 n7
    | cont => obtain ⟨σ7, H7, I7, n7⟩ := q7; exact next I7 n7
    | brk => obtain ⟨σ7, H7, I7, q7⟩ := q7; exact ⟨σ7, H7, I7.unpinned, q7⟩
    | ret v => obtain ⟨x7, σ7, H7, I7, r7, q7⟩ := q7; exact ⟨x7, σ7, H7, I7.unpinned, r7, q7⟩
/-- x = text.lower(): behind it a token is out -/
theorem pss_lowT {i : Nat} {x : Str} {rs : List Stmt} {u : TS} {pos' p : Pos} (hN : X.N.Nodup) (hi : X.N[i]? = some x) (hx : Loc X.env.scope x) (ho : PE X o to) (h2 : PSsT X rs u)
    (hbase : attributeBase o "lower" X.env (eval o X.env) = eval o X.env := by rfl) (hline : (apos.endLine == p.line) = true := by rfl)
    (hs : swapsWith (.Call (.Attribute o "lower" apos) [] [] p) (some (.Name x pos')) pos.line X.env = pure false := by rfl) (hf : X.fn x = true ∨ X.env.scope.names.lookup x = some .local := by first | exact .inl rfl | exact .inr rfl | assumption) :
    PSs X (.Assign [.Name x pos'] (.Call (.Attribute o "lower" apos) [] [] p) pos :: rs) (tSeq (tAsg (tM0 (fun x xs H Q => ∃ a, x = .str a ∧ xs = [] ∧ a.length ≤ 5592405 ∧ Q (.str (Txt.lower a)) H) to) (gName i)) u) := by
  refine ⟨fun pins s σ H D I h => ?_⟩
  refine wpAny_execs_cons (wpAny_Assign_Name ?_ hs)
  refine PySem.Call_method0 hbase hline (thn (ho.run pins s σ H _ I h) fun v s1 ⟨y, H1, I1, r1, q⟩ => ?_)
  obtain ⟨⟨z, rfl⟩, z2, e, _, hz, q2⟩ := q
  cases e
  obtain ⟨t, rfl⟩ := _root_.id r1
  refine ⟨"str", _, PySem.F.plainAttrs_str, PySem.F.slot_str_lower, PySem.F.type_str_lower, typeIs_str _ _ _, (fun _ e => nomatch e), Calls.callWith_builtin rfl (PySem.evalArgs_none (PySem.SC.lower (PyProof.Rows.short24 (by have := PyProof.Rows.len_lower z; omega)) ?_))⟩
  refine wpAny_mono (PySem.wpAny_toks (store_ok (v := V.str (Txt.lower z)) (u := Value.str (Txt.lower z) s1.toks) (Q := fun _ s2 => Inv X pins (σ.set i (some (V.str (Txt.lower z)))) H1 s2) (I1.tok (s1.toks + 1)) hN hi hx ⟨s1.toks, rfl⟩ (fun _ I2 => I2) hf)) (fun _ s2 q => ?_) fun _ _ z => z.2
  have hk : s1.toks + 1 ≤ s2.toks := q.1
  exact h2 pins s2 _ H1 D (by omega) q.2 q2
end
theorem noxT {X : Cx} {st : List Stmt} {t : TS} (h : PSsT X.nox st t) : PSsT X st t := fun pins s σ H D h0 I hw =>
  wpAny_mono (h pins s σ H D h0 (I.wish _) hw) (fun _ _ q => q.unwish) fun _ _ z => False.elim z
/-- a def whose parameters give out a token -/
theorem okT {P : Program} {w : World} {K : PySem.W.Frag} {mg : Str → Option Value} {base : Heap} {x qual : Str} {st : Stmt} {f : Addr} {fd : FuncData} {N ps : List Str} {k : Nat} {sp : Sp} (F : Fun K x qual st f fd) (S : FnScope N ps (defScope st))
    (hnc : ∀ y ∈ (defScope st).names, y.2 ≠ .cell) (hps : 1 ≤ ps.length) (len : ∀ vs H Q E, sp vs H Q E → vs.length = ps.length)
    (hbody : ∀ (cdv : Value) (A : Around) (outer : List Env) (s : Shared) (H : Hp) (vs : List V) (Q : VK) (E : XK), Room k (A.deeper (envOfC qual (defScope st) s.heap.objs.size f cdv)) → sp vs H Q E →
      ∃ t, PSsT (cxOf CX0 P w K mg base N qual (defScope st) f cdv A outer s H E).nox (defBody st) t ∧ t { nx := fun _ H' => Q .non H', rt := Q } (start N vs) H) : FnOk P w K mg base CX0 (k + 1) f fd ps sp := by
  obtain ⟨oc, od, kV, doc, pm, an, cdv, ct, osl, rfl, lk, hcd⟩ := F.ex
  refine fn_ofT lk hcd S hnc hps len fun A outer s H vs Q E hr hsp => ?_
  obtain ⟨t, h, q⟩ := hbody cdv A outer s H vs Q E hr hsp
  exact ⟨t, noxT h, q⟩
section
variable {K : PySem.W.Frag} {Mc M : List Addr} {He H H1 H2 : Hp} {is js : Ims} {ms : Mus} {σ : L2.St} {te ta tb tl : TE} {tt : TT} {g : TG} {tlo thi : TO}
variable {α β : Type} [DecidableEq α] [Dx α] [DecidableEq β] [Dx β]
theorem hv_replC {a y z : Str} (ha : Hv K M ta σ H a) (hz : a.length + (a.length + 1) * z.length ≤ 100000) : Hv K M (tReplC ta y z) σ H (Txt.replace a y z) := fun H1 e m Q q =>
  ha H1 e m _ fun v H2 e2 d => ⟨a, d.str, by omega, q _ H2 e2 (Dt.ofStr _)⟩
/-- an integer in a list of integers -/
theorem inV_ints (a : Int) : ∀ xs : List Int, inV (.int a) (xs.map V.int) = decide (a ∈ xs)
  | [] => by simp [inV]
  | x :: xs => by
    have ih := inV_ints a xs
    unfold inV at ih ⊢
    rw [List.map_cons, List.any_cons, ih]
    show (x == a || _) = _
    by_cases h : x = a
    · subst h; simp
    · have h2 : ¬ a = x := fun z => h z.symm
      simp [h, h2]
theorem flat_ints : ∀ xs : List Int, (xs.map V.int).all flatV = true
  | [] => rfl
  | x :: xs => by rw [List.map_cons, List.all_cons, flat_ints xs]; rfl
theorem ints_of {H : Hp} : ∀ {vs : List V} {xs : List Int}, Dts K H vs xs → vs = xs.map V.int
  | [], [], _ => rfl
  | [], _ :: _, h => by cases h
  | _ :: _, [], h => by cases h
  | v :: vs, x :: xs, h => by
    cases h with
    | cons a b =>
      rw [List.map_cons, Dt.int (H := H) (K := K) (v := v) (i := x) a, ints_of (vs := vs) (xs := xs) b]
theorem hv_inLI {a : Int} {xs : List Int} (ha : Hv K M ta σ H a) (hb : HS K M tb σ H xs) : Hv K M (tOp (rIn K false) ta tb) σ H (decide (a ∈ xs)) := fun H1 e m Q q =>
  ha H1 e m _ fun v H2 e2 d => hb H2 (e.trans e2) (m.ex e2) _ fun p vs H3 e3 s ds => by
    have hv := ints_of ds
    refine ⟨p, vs, rfl, Or.inl s, by rw [d.int]; rfl, by rw [hv]; exact flat_ints xs, ?_⟩
    have hb : inV v vs = decide (a ∈ xs) := by rw [d.int, hv]; exact inV_ints a xs
    rw [hb]
    exact q _ _ (e2.trans e3) (Dt.ofBool _)
/-- [.. for i in range(a, b) if ..] -/
theorem hv_lcR2 {vs : List Nat} (s : Sg K Mc He H is ms) {a n : Int} (f : Int → Bool) (ef : Int → β) (h0 : Hv K (muA ms ++ Mc) ta σ H a) (h : Hv K (muA ms ++ Mc) tb σ H n) (hz : -100000 ≤ a ∧ a ≤ 100000 ∧ -100000 ≤ n ∧ n ≤ 40000 ∧ n - a ≤ 40000)
    (hb : ∀ D (x : Int) (ys : List β) H1, Sg K Mc He H1 is ((D, .lst (ys.map Dx.toX)) :: ms) → a ≤ x ∧ x < n →
      ∀ Q : L2.St → Hp → Prop, (∀ σ2, wipe σ2 vs = wipe σ vs → HT (muA ((D, Mv.lst (ys.map Dx.toX)) :: ms) ++ Mc) tt σ2 H1 (f x) → (f x = true → Hv K (muA ((D, Mv.lst (ys.map Dx.toX)) :: ms) ++ Mc) te σ2 H1 (ef x)) → Q σ2 H1) → g (.int x) (wipe σ vs) H1 Q) :
    Hv K (muA ms ++ Mc) (tLc (iRng2 (tCons ta (tCons tb tNil))) g tt te vs) σ H (((irng a (n - a).toNat).filter f).map ef) := fun H1 e m Q q =>
  h0 H1 e m _ fun v0 H0 e0 d0 => h H0 (e.trans e0) (m.ex e0) _ fun v H2 e2 d => by
    refine ⟨a, n, by rw [d0.int, d.int], by omega, fun D hD => ?_⟩
    have sA : Sg K Mc He H2 is ms := ((s.ex e).ex e0).ex e2
    have sB : Sg K Mc He (upd H2 D (.lst [])) is ((D, .lst (([] : List β).map Dx.toX)) :: ms) := sA.new hD ⟨[], rfl, .nil⟩
    refine lc_range (lo := a) (n := (n - a).toNat) (fun i H' => Ex H2 H' ∧ Sg K Mc He H' is ((D, .lst (((((irng a (n - a).toNat).take i).filter f).map ef).map Dx.toX)) :: ms)) ⟨Ex.new hD, sB⟩
      (fun i H' hi p => ?_) (fun H' p => ?_)
    · have hx : (irng a (n - a).toNat)[i]? = some (a + (i : Int)) := irng_get hi
      refine hb D (a + (i : Int)) _ H' p.2 ⟨by omega, by omega⟩ _ fun σ2 hw ht he => ⟨hw, ?_⟩
      have hlen : ((((irng a (n - a).toNat).take i).filter f).map ef).length < 50000 := by
        rw [List.length_map]
        have := List.length_filter_le f ((irng a (n - a).toNat).take i)
        rw [List.length_take, irng_len] at this
        omega
      exact lc_turn (ms := ms) (zs := (((irng a (n - a).toNat).take (i + 1)).filter f).map ef) p.2 hlen (fun H3 => Ex H2 H3 ∧ Sg K Mc He H3 is ((D, .lst (((((irng a (n - a).toNat).take (i + 1)).filter f).map ef).map Dx.toX)) :: ms)) ht he (filter_snoc hx) (fun H3 h4 s3 => ⟨by
        obtain ⟨H4, e4, e5⟩ := h4
        rcases e5 with e5 | ⟨o, e5⟩
        · rw [e5]; exact p.1.trans e4
        · rw [e5]; exact Ex.mut (p.1.trans e4) hD, s3⟩)
    · have z := p.2
      have et : (irng a (n - a).toNat).take (n - a).toNat = irng a (n - a).toNat := List.take_of_length_le (by rw [irng_len]; exact Nat.le_refl _)
      rw [et] at z
      exact q _ H' ((e0.trans e2).trans p.1) (z.frz).im.1
theorem hv_lcR20 {vs : List Nat} (s : Sg K Mc He H is ms) {a n : Int} (ef : Int → β) (h0 : Hv K (muA ms ++ Mc) ta σ H a) (h : Hv K (muA ms ++ Mc) tb σ H n) (hz : -100000 ≤ a ∧ a ≤ 100000 ∧ -100000 ≤ n ∧ n ≤ 40000 ∧ n - a ≤ 40000)
    (hb : ∀ D (x : Int) (ys : List β) H1, Sg K Mc He H1 is ((D, .lst (ys.map Dx.toX)) :: ms) → a ≤ x ∧ x < n →
      ∀ Q : L2.St → Hp → Prop, (∀ σ2, wipe σ2 vs = wipe σ vs → Hv K (muA ((D, Mv.lst (ys.map Dx.toX)) :: ms) ++ Mc) te σ2 H1 (ef x) → Q σ2 H1) → g (.int x) (wipe σ vs) H1 Q) :
    Hv K (muA ms ++ Mc) (tLc (iRng2 (tCons ta (tCons tb tNil))) g tYes te vs) σ H ((irng a (n - a).toNat).map ef) := by
  have key := hv_lcR2 (g := g) (tt := tYes) (te := te) (vs := vs) s (fun _ => true) ef h0 h hz (fun D x ys H1 s1 hx Q k => hb D x ys H1 s1 hx Q fun σ2 hw he => k σ2 hw (fun H2 _ _ _ q => q H2 (Ex.refl H2)) fun _ => he)
  exact key.is (by rw [List.filter_eq_self.mpr (fun _ _ => rfl)])
/-- [.. for i, x in enumerate(xs) if ..] -/
theorem hv_lcE {vs : List Nat} (s : Sg K Mc He H is ms) {xs : List α} (f : Int × α → Bool) (ef : Int × α → β) (h : Hv K (muA ms ++ Mc) tl σ H xs) (hz : xs.length ≤ 40000)
    (hb : ∀ D src (x : Int × α) w (ys : List β) H1, Sg K Mc He H1 ((w, Dx.toX x) :: (src, Dx.toX xs) :: is) ((D, .lst (ys.map Dx.toX)) :: ms) → x ∈ enumL xs →
      ∀ Q : L2.St → Hp → Prop, (∀ σ2, wipe σ2 vs = wipe σ vs → HT (muA ((D, Mv.lst (ys.map Dx.toX)) :: ms) ++ Mc) tt σ2 H1 (f x) → (f x = true → Hv K (muA ((D, Mv.lst (ys.map Dx.toX)) :: ms) ++ Mc) te σ2 H1 (ef x)) → Q σ2 H1) → g w (wipe σ vs) H1 Q) :
    Hv K (muA ms ++ Mc) (tLc (iEnum K (tCons tl tNil)) g tt te vs) σ H (((enumL xs).filter f).map ef) := fun H1 e m Q q =>
  h H1 e m _ fun v H2 e2 d => by
    obtain ⟨a, us, rfl, s1, ds⟩ := d.list
    have s1' : SqL K H2 a us := ex_l msk_le s1
    refine ⟨a, us, rfl, s1', fun D hD => ?_⟩
    have sA : Sg K Mc He H2 ((.ref a, Dx.toX xs) :: is) ms := ((s.ex e).ex e2).put d
    have sB : Sg K Mc He (upd H2 D (.lst [])) ((.ref a, Dx.toX xs) :: is) ((D, .lst (([] : List β).map Dx.toX)) :: ms) := sA.new hD ⟨[], rfl, .nil⟩
    have hlu : us.length = xs.length := ds.len
    refine lc_it (walk_enum (K := K) (a := a) (xs := us)) (fun i H' => Ex H2 H' ∧ Sg K Mc He H' ((.ref a, Dx.toX xs) :: is) ((D, .lst (((((enumL xs).take i).filter f).map ef).map Dx.toX)) :: ms)) ⟨Ex.new hD, sB⟩
      (fun i H' _ p => ex_l p.1 s1') (fun i x H' H'' hi p y => ?_) (fun H' p => ?_)
    · obtain ⟨T, x0, x1, rfl, nT, rfl, f1, f2⟩ := y
      have hix : i < xs.length := by rw [← hlu]; exact hi
      have gx : xs[i]? = some xs[i] := by simp [hix]
      have gE := enumL_get gx
      have e0 : x0 = .int (i : Int) := (Option.some.inj f1).symm
      subst e0
      have eT : Ex H' (upd H' T (.tup [.int (i : Int), x1])) := Ex.new nT
      have sT := p.2.ex eT
      have dm : Dt K (msk (D :: (muA ms ++ Mc)) (upd H' T (.tup [.int (i : Int), x1]))) x1 xs[i] := by
        have d2 : Dts K (msk (D :: (muA ms ++ Mc)) (upd H' T (.tup [.int (i : Int), x1]))) us xs := by
          have q1 : Dts K (msk (muA ms ++ Mc) H2) us xs := ds
          have q2 : Ex (msk (muA ms ++ Mc) H2) (msk (D :: (muA ms ++ Mc)) (upd H' T (.tup [.int (i : Int), x1]))) := fun b o hb' => by
            by_cases z : b ∈ muA ms ++ Mc
            · rw [msk_in z] at hb'; cases hb'
            · rw [msk_out z] at hb'
              have nb : b ≠ D := ne_of_none hb' hD
              rw [msk_out (by simp only [List.mem_cons, not_or]; exact ⟨nb, z⟩)]
              exact eT b o (p.1 b o hb')
          exact q1.mono q2
        obtain ⟨w, w1, w2⟩ := d2.at gx
        have : x1 = w := Option.some.inj (f2.symm.trans w1)
        subst this; exact w2
      have nTD : T ∉ D :: (muA ms ++ Mc) := fun z => (p.2.mok T z) nT
      have dw : Dt K (msk (D :: (muA ms ++ Mc)) (upd H' T (.tup [.int (i : Int), x1]))) (.ref T) ((i : Int), xs[i]) := Dt.ofPair (SqT.of (by rw [msk_out nTD]; exact upd_same)) (Dt.ofInt _) dm
      refine hb D (.ref a) ((i : Int), xs[i]) (.ref T) _ _ (sT.put dw) (List.mem_of_getElem? gE) _ fun σ2 hw ht he => ⟨hw, ?_⟩
      have hlen : ((((enumL xs).take i).filter f).map ef).length < 50000 := by
        rw [List.length_map]
        have := List.length_filter_le f ((enumL xs).take i)
        rw [List.length_take, enumL_len] at this
        omega
      exact lc_turn (ms := ms) (zs := (((enumL xs).take (i + 1)).filter f).map ef) sT hlen (fun H3 => Ex H2 H3 ∧ Sg K Mc He H3 ((.ref a, Dx.toX xs) :: is) ((D, .lst (((((enumL xs).take (i + 1)).filter f).map ef).map Dx.toX)) :: ms)) ht he (filter_snoc gE) (fun H3 h4 s3 => ⟨by
        obtain ⟨H4, e4, e5⟩ := h4
        rcases e5 with e5 | ⟨o, e5⟩
        · rw [e5]; exact (p.1.trans eT).trans e4
        · rw [e5]; exact Ex.mut ((p.1.trans eT).trans e4) hD, s3⟩)
    · have z := p.2
      have et : (enumL xs).take us.length = enumL xs := List.take_of_length_le (by rw [enumL_len, hlu]; exact Nat.le_refl _)
      rw [et] at z
      exact q _ H' (e2.trans p.1) (z.frz).im.1
end
end Ly

namespace Ly
open PySem PySem.Spec PyProof.Rows L2 Evl
theorem gl_mem' {β : Type} {occ : Nat → Bool} {blk : Nat → List β} {x : β} : ∀ (n lo k : Nat), lo ≤ k → k < lo + n → occ k = true → x ∈ blk k → x ∈ gl occ blk lo n
  | 0, lo, k, h1, h2, _, _ => by omega
  | n + 1, lo, k, h1, h2, ho, hx => by
    rw [gl, List.mem_append]
    by_cases e : lo = k
    · left; rw [e, ho, if_pos rfl]; exact hx
    · right; exact gl_mem' n (lo + 1) k (by omega) (by omega) ho hx
/-- two lists that grow, with the same items, are one -/
theorem sorted_ext : ∀ {l1 l2 : List Int}, l1.Pairwise (· < ·) → l2.Pairwise (· < ·) → (∀ x, x ∈ l1 ↔ x ∈ l2) → l1 = l2
  | [], [], _, _, _ => rfl
  | [], b :: r, _, _, h => by have := (h b).mpr List.mem_cons_self; cases this
  | a :: l, [], _, _, h => by have := (h a).mp List.mem_cons_self; cases this
  | a :: l, b :: r, h1, h2, h => by
    have p1 := List.pairwise_cons.mp h1
    have p2 := List.pairwise_cons.mp h2
    have e : a = b := by
      have ha := (h a).mp List.mem_cons_self
      have hb := (h b).mpr List.mem_cons_self
      rcases List.mem_cons.mp ha with ha | ha
      · exact ha
      · rcases List.mem_cons.mp hb with hb | hb
        · exact hb.symm
        · have := p1.1 b hb
          have := p2.1 a ha
          omega
    subst e
    congr 1
    refine sorted_ext p1.2 p2.2 fun x => ⟨fun hx => ?_, fun hx => ?_⟩
    · rcases List.mem_cons.mp ((h x).mp (List.mem_cons_of_mem _ hx)) with q | q
      · have := p1.1 x hx; omega
      · exact q
    · rcases List.mem_cons.mp ((h x).mpr (List.mem_cons_of_mem _ hx)) with q | q
      · have := p2.1 x hx; omega
      · exact q
theorem irng_sorted (lo : Int) (n : Nat) : (irng lo n).Pairwise (· < ·) := by
  unfold irng
  rw [List.pairwise_map]
  exact List.pairwise_lt_range.imp fun h => by omega
theorem irng_mem {lo x : Int} {n : Nat} : x ∈ irng lo n ↔ lo ≤ x ∧ x < lo + n := by
  unfold irng
  rw [List.mem_map]
  constructor
  · rintro ⟨i, hi, rfl⟩
    have := List.mem_range.mp hi
    omega
  · intro h
    exact ⟨(x - lo).toNat, List.mem_range.mpr (by omega), by omega⟩
/-- the greatest -/
theorem max_spec : ∀ (l : List Int) (b : Int), (l.foldl max b = b ∨ l.foldl max b ∈ l) ∧ b ≤ l.foldl max b ∧ ∀ x ∈ l, x ≤ l.foldl max b
  | [], b => ⟨Or.inl rfl, Int.le_refl b, fun x hx => by cases hx⟩
  | a :: l, b => by
    obtain ⟨h1, h2, h3⟩ := max_spec l (max b a)
    rw [List.foldl_cons]
    refine ⟨?_, by omega, fun x hx => ?_⟩
    · rcases h1 with h1 | h1
      · rw [h1]
        by_cases q : a ≤ b
        · left; omega
        · right; rw [show max b a = a by omega]; exact List.mem_cons_self
      · exact Or.inr (List.mem_cons_of_mem _ h1)
    · rcases List.mem_cons.mp hx with q | q
      · omega
      · exact h3 x q
theorem max_ext {l1 l2 : List Int} (b : Int) (h : ∀ x, x ∈ l1 ↔ x ∈ l2) : l1.foldl max b = l2.foldl max b := by
  obtain ⟨h1, h2, h3⟩ := max_spec l1 b
  obtain ⟨k1, k2, k3⟩ := max_spec l2 b
  have a1 : l1.foldl max b ≤ l2.foldl max b := by
    rcases h1 with q | q
    · rw [q]; exact k2
    · exact k3 _ ((h _).mp q)
  have a2 : l2.foldl max b ≤ l1.foldl max b := by
    rcases k1 with q | q
    · rw [q]; exact h2
    · exact h3 _ ((h _).mpr q)
  omega
theorem max_fold {α : Type} (P : α → Bool) (v : α → Int) : ∀ (l : List α) (b : Int), l.foldl (fun b x => if P x = true then max b (v x) else b) b = ((l.filter P).map v).foldl max b
  | [], b => rfl
  | a :: l, b => by
    rw [List.foldl_cons, max_fold P v l]
    by_cases q : P a = true
    · rw [if_pos q, List.filter_cons_of_pos q, List.map_cons, List.foldl_cons]
    · rw [if_neg q, List.filter_cons_of_neg q]
theorem chars_app (a b : Str) : chars (a ++ b) = chars a ++ chars b := by
  rw [chars_cps, chars_cps, chars_cps, cps_app, List.map_append]
theorem enumL_iff {xs : List Int} {p : Int × Int} : p ∈ enumL xs ↔ 0 ≤ p.1 ∧ p.1 < (xs.length : Int) ∧ p.2 = xs.getD p.1.toNat 0 := by
  constructor
  · intro h
    obtain ⟨i, hi, rfl⟩ := List.getElem_of_mem h
    have hx : i < xs.length := by rw [enumL_len] at hi; exact hi
    have gx : xs[i]? = some xs[i] := by simp [hx]
    obtain ⟨_, ge⟩ := List.getElem?_eq_some_iff.mp (enumL_get gx)
    rw [ge]
    refine ⟨by show (0 : Int) ≤ (i : Int); omega, by show (i : Int) < _; omega, ?_⟩
    show xs[i] = xs.getD (Int.toNat (i : Int)) 0
    rw [Int.toNat_natCast, List.getD_eq_getElem?_getD, gx]
    rfl
  · rintro ⟨h1, h2, h3⟩
    obtain ⟨a, b⟩ := p
    dsimp only at h1 h2 h3
    have hx : a.toNat < xs.length := by omega
    have gx : xs[a.toNat]? = some xs[a.toNat] := by simp [hx]
    have k := List.mem_of_getElem? (enumL_get gx)
    rw [List.getD_eq_getElem?_getD, gx] at h3
    have e : (((a.toNat : Nat) : Int), xs[a.toNat]) = (a, b) := Prod.ext (by show ((a.toNat : Nat) : Int) = a; omega) (by show xs[a.toNat] = b; rw [h3]; rfl)
    rw [← e]
    exact k
theorem enumL_sorted (xs : List Int) : (enumL xs).Pairwise fun a b => a.1 < b.1 := by
  rw [List.pairwise_iff_getElem]
  intro i j hi hj hij
  rw [enumL_len] at hi hj
  have gi : xs[i]? = some xs[i] := by simp [hi]
  have gj : xs[j]? = some xs[j] := by simp [hj]
  obtain ⟨_, e1⟩ := List.getElem?_eq_some_iff.mp (enumL_get gi)
  obtain ⟨_, e2⟩ := List.getElem?_eq_some_iff.mp (enumL_get gj)
  rw [e1, e2]
  show (i : Int) < (j : Int)
  omega
theorem lo1_eq (c : Nat) : PyProof.Rows.lo1 c = if 65 ≤ c ∧ c ≤ 90 then c + 32 else c := by
  unfold PyProof.Rows.lo1
  first | rfl | (split <;> split <;> simp_all <;> omega) | (simp; done)
theorem loopL_ret_P {ρ S α : Type} {f : S → α → Lp ρ S} {P : ρ → Prop} : ∀ (l : List α) (s : S), (∀ s x r, x ∈ l → f s x = .ret r → P r) → ∀ r, loopL f l s = .inl r → P r
  | [], s, _, r, h => by cases h
  | x :: l, s, hp, r, h => by
    rw [loopL] at h
    cases hx : f s x with
    | ret r' => rw [hx] at h; cases h; exact hp s x r List.mem_cons_self hx
    | brk s' => rw [hx] at h; cases h
    | nxt s' => rw [hx] at h; exact loopL_ret_P l s' (fun s y r hy => hp s y r (List.mem_cons_of_mem _ hy)) r h
end Ly

namespace Ly
open PySem PySem.Spec PyProof.Rows L2 Evl
open PySem.W (Datum DatumOrd Tup T3 T4 minOf)
/-! ### dicts with plain keys -/
/-- the pairs in the order in which the keys came -/
structure Dc (κ β : Type) where
  kvs : List (κ × β)
instance {κ β : Type} [DecidableEq κ] [DecidableEq β] : DecidableEq (Dc κ β) := fun a b =>
  if h : a.kvs = b.kvs then isTrue (by cases a; cases b; cases h; rfl) else isFalse fun z => h (by rw [z])
class Ky (κ : Type) [DecidableEq κ] [Dx κ] where
  toK : κ → Key
  inj : ∀ {a b : κ}, toK a = toK b → a = b
  link : ∀ {K : PySem.W.Frag} {H : Hp} {v : V} {k : κ}, Dt K H v k → v = kV (toK k)
instance : Ky Int := ⟨.inl, fun e => by cases e; rfl, fun d => d.int⟩
instance : Ky Str := ⟨.inr, fun e => by cases e; rfl, fun d => d.str⟩
section
variable {κ β : Type} [DecidableEq κ] [Dx κ] [Ky κ] [DecidableEq β] [Dx β]
def Dc.get (d : Dc κ β) (k : κ) : Option β := (d.kvs.find? fun p => decide (p.1 = k)).map (·.2)
def Dc.put (d : Dc κ β) (k : κ) (x : β) : Dc κ β :=
  ⟨if (d.kvs.any fun p => decide (p.1 = k)) = true then d.kvs.map (fun p => if p.1 = k then (p.1, x) else p) else d.kvs ++ [(k, x)]⟩
def Dc.has (d : Dc κ β) (k : κ) : Bool := d.kvs.any fun p => decide (p.1 = k)
instance : Dx (Dc κ β) := ⟨fun d => .dict (d.kvs.map fun p => Ky.toK p.1) (d.kvs.map fun p => Dx.toX p.2)⟩
/-- what an own dict holds, as the state tells it -/
def Dc.m (d : Dc κ β) : Mv := .dic (d.kvs.map fun p => (Ky.toK p.1, Dx.toX p.2))
/-- pairs that hold pairs -/
inductive Kd (K : PySem.W.Frag) (H : Hp) : List (Key × V) → List (κ × β) → Prop
  | nil : Kd K H [] []
  | cons {k : κ} {v : V} {x : β} {kvs : List (Key × V)} {r : List (κ × β)} : Dt K H v x → Kd K H kvs r → Kd K H ((Ky.toK k, v) :: kvs) ((k, x) :: r)
variable {K : PySem.W.Frag} {H H' : Hp}
theorem kd_of : ∀ {kvs : List (Key × V)} {r : List (κ × β)}, kvs.map (·.1) = r.map (fun p => Ky.toK p.1) → XpAll K H (kvs.map (·.2)) (r.map fun p => Dx.toX p.2) → Kd K H kvs r
  | [], [], _, _ => .nil
  | [], _ :: _, h, _ => by cases h
  | _ :: _, [], h, _ => by cases h
  | (k, v) :: kvs, (j, x) :: r, h, a => by
    have h' := List.cons.inj h
    cases a with
    | cons a1 a2 =>
      have e : k = Ky.toK j := h'.1
      subst e
      exact .cons a1 (kd_of h'.2 a2)
theorem Kd.keys {kvs : List (Key × V)} {r : List (κ × β)} (h : Kd K H kvs r) : kvs.map (·.1) = r.map (fun p => Ky.toK p.1) := by
  induction h with
  | nil => rfl
  | cons a b ih => rw [List.map_cons, List.map_cons, ih]
theorem Kd.vals {kvs : List (Key × V)} {r : List (κ × β)} (h : Kd K H kvs r) : XpAll K H (kvs.map (·.2)) (r.map fun p => Dx.toX p.2) := by
  induction h with
  | nil => exact .nil
  | cons a b ih => exact .cons a ih
theorem Kd.mono {kvs : List (Key × V)} {r : List (κ × β)} (e : Ex H H') (h : Kd K H kvs r) : Kd K H' kvs r := by
  induction h with
  | nil => exact .nil
  | cons a b ih => exact .cons (a.mono e) ih
theorem Kd.any {kvs : List (Key × V)} {r : List (κ × β)} (h : Kd K H kvs r) (k : κ) : (kvs.any fun p => decide (p.1 = Ky.toK k)) = r.any fun p => decide (p.1 = k) := by
  induction h with
  | nil => rfl
  | @cons j v x kvs r a b ih =>
    rw [List.any_cons, List.any_cons, ih]
    congr 1
    by_cases q : j = k
    · subst q; simp
    · rw [decide_eq_false q, decide_eq_false fun z => q (Ky.inj z)]
theorem Kd.get {kvs : List (Key × V)} {r : List (κ × β)} (h : Kd K H kvs r) (k : κ) : (∃ v x, valV kvs (Ky.toK k) = some v ∧ Dc.get ⟨r⟩ k = some x ∧ Dt K H v x) ∨ (valV kvs (Ky.toK k) = none ∧ Dc.get (⟨r⟩ : Dc κ β) k = none) := by
  induction h with
  | nil => exact Or.inr ⟨rfl, rfl⟩
  | @cons j v x kvs r a b ih =>
    by_cases q : j = k
    · subst q
      exact Or.inl ⟨v, x, valV_pos rfl, by simp [Dc.get], a⟩
    · rw [valV_neg (fun z => q (Ky.inj z))]
      have e : Dc.get (⟨(j, x) :: r⟩ : Dc κ β) k = Dc.get ⟨r⟩ k := by simp [Dc.get, q]
      rw [e]
      exact ih
theorem Kd.app {kvs : List (Key × V)} {r : List (κ × β)} {v : V} {x : β} {k : κ} (h : Kd K H kvs r) (d : Dt K H v x) : Kd K H (kvs ++ [(Ky.toK k, v)]) (r ++ [(k, x)]) := by
  induction h with
  | nil => exact .cons d .nil
  | cons a b ih => exact .cons a ih
theorem Kd.rep {kvs : List (Key × V)} {r : List (κ × β)} {v : V} {x : β} {k : κ} (h : Kd K H kvs r) (d : Dt K H v x) : Kd K H (kvs.map fun p => if p.1 = Ky.toK k then (p.1, v) else p) (r.map fun p => if p.1 = k then (p.1, x) else p) := by
  induction h with
  | nil => exact .nil
  | @cons j w y kvs r a b ih =>
    rw [List.map_cons, List.map_cons]
    by_cases q : j = k
    · subst q
      rw [if_pos rfl, if_pos rfl]
      exact .cons d ih
    · rw [if_neg (fun z => q (Ky.inj z)), if_neg q]
      exact .cons a ih
theorem Kd.put {kvs : List (Key × V)} {d : Dc κ β} {v : V} {x : β} {k : κ} (h : Kd K H kvs d.kvs) (dv : Dt K H v x) : Kd K H (putK kvs (Ky.toK k) v) (d.put k x).kvs := by
  unfold putK Dc.put
  rw [h.any k]
  by_cases q : (d.kvs.any fun p => decide (p.1 = k)) = true
  · rw [if_pos q]; dsimp only; rw [if_pos q]; exact h.rep dv
  · rw [if_neg q]; dsimp only; rw [if_neg q]; exact h.app dv
theorem Kd.len {kvs : List (Key × V)} {r : List (κ × β)} (h : Kd K H kvs r) : kvs.length = r.length := by
  have := congrArg List.length h.keys
  simpa using this
end
section
variable {κ β : Type} [DecidableEq κ] [Dx κ] [Ky κ] [DecidableEq β] [Dx β]
variable {K : PySem.W.Frag} {Mc M : List Addr} {He H H1 H2 : Hp} {is js : Ims} {ms : Mus} {σ : L2.St} {te ta tb td tk tz : TE} {D : Ends} {tq : TS}
/-- what the state tells of an own dict -/
theorem Sg.dic (s : Sg K Mc He H is ms) {j : Nat} {l : Addr} {d : Dc κ β} (e : ms[j]? = some (l, d.m)) : ∃ kvs, H l = some (.dK kvs) ∧ Kd K (msk (muA ms ++ Mc) H) kvs d.kvs := by
  obtain ⟨o, h1, h2⟩ := s.mu.get e
  obtain ⟨kvs, rfl, h3, h4⟩ := h2
  refine ⟨kvs, h1, kd_of ?_ ?_⟩
  · rw [h3, List.map_map]; rfl
  · rw [List.map_map] at h4; exact h4
theorem dic_ok {kvs : List (Key × V)} {d : Dc κ β} (h : Kd K H kvs d.kvs) : MvOk K H (.dK kvs) d.m := by
  refine ⟨kvs, rfl, ?_, ?_⟩
  · rw [h.keys, List.map_map]; rfl
  · rw [List.map_map]; exact h.vals
/-- x = {} -/
theorem z_dnil (κ β : Type) [DecidableEq κ] [Dx κ] [Ky κ] [DecidableEq β] [Dx β] {i : Nat} (s : Sg K Mc He H is ms) (k : ∀ y, y = (⟨[]⟩ : Dc κ β) → ∀ p H1, Sg K Mc He H1 is ((p, y.m) :: ms) → tq D (σ.set i (some (.ref p))) H1) :
    tSeq (tAsg tDNewK (gName i)) tq D σ H := fun p hp => k ⟨[]⟩ rfl p _ (s.new hp (dic_ok .nil))
/-- key in an own dict, key not in it -/
theorem hv_dinM {j : Nat} {l : Addr} {d : Dc κ β} {x : κ} (s : Sg K Mc He H is ms) (e : ms[j]? = some (l, d.m)) (hk : Hv K (muA ms ++ Mc) ta σ H x) (ho : Ev td σ H (.ref l)) : Hv K (muA ms ++ Mc) (tDIn ta td) σ H (d.has x) := fun H1 e1 m Q q =>
  hk H1 e1 m _ fun v H2 e2 dv => ho H2 (e1.trans e2) _ fun H3 e3 => by
    obtain ⟨kvs, h1, h2⟩ := (s.ex ((e1.trans e2).trans e3)).dic e
    refine ⟨l, valV kvs (Ky.toK x), rfl, by rw [Ky.link dv]; exact DGet.k h1, ?_⟩
    have hb : (valV kvs (Ky.toK x)).isSome = d.has x := by rw [← valV_any, h2.any]; rfl
    rw [hb]
    exact q _ H3 (e2.trans e3) (Dt.ofBool _)
theorem hv_dninM {j : Nat} {l : Addr} {d : Dc κ β} {x : κ} (s : Sg K Mc He H is ms) (e : ms[j]? = some (l, d.m)) (hk : Hv K (muA ms ++ Mc) ta σ H x) (ho : Ev td σ H (.ref l)) : Hv K (muA ms ++ Mc) (tDNotIn ta td) σ H (!d.has x) := fun H1 e1 m Q q =>
  hk H1 e1 m _ fun v H2 e2 dv => ho H2 (e1.trans e2) _ fun H3 e3 => by
    obtain ⟨kvs, h1, h2⟩ := (s.ex ((e1.trans e2).trans e3)).dic e
    refine ⟨l, valV kvs (Ky.toK x), rfl, by rw [Ky.link dv]; exact DGet.k h1, ?_⟩
    have hb : (valV kvs (Ky.toK x)).isSome = d.has x := by rw [← valV_any, h2.any]; rfl
    rw [hb]
    exact q _ H3 (e2.trans e3) (Dt.ofBool _)
/-- an own dict's value at a key -/
theorem hv_dgetM {j : Nat} {l : Addr} {d : Dc κ β} {x : κ} {y : β} (s : Sg K Mc He H is ms) (e : ms[j]? = some (l, d.m)) (ho : Ev td σ H (.ref l)) (hk : Hv K (muA ms ++ Mc) ta σ H x) (hg : d.get x = some y) : Hv K (muA ms ++ Mc) (tDGet td ta) σ H y := fun H1 e1 m Q q =>
  ho H1 e1 _ fun H2 e2 => hk H2 (e1.trans e2) (m.ex e2) _ fun v H3 e3 dv => by
    obtain ⟨kvs, h1, h2⟩ := (s.ex ((e1.trans e2).trans e3)).dic e
    rcases h2.get x with ⟨w, z, g1, g2, g3⟩ | ⟨_, g2⟩
    · rw [hg] at g2
      cases g2
      exact ⟨l, w, rfl, by rw [Ky.link dv, ← g1]; exact DGet.k h1, q w H3 (e2.trans e3) g3⟩
    · rw [hg] at g2; cases g2
/-- a dict that is known -/
theorem Dt.dic {v : V} {d : Dc κ β} (h : Dt K H v d) : ∃ a kvs, v = .ref a ∧ Rd H a (.dK kvs) ∧ Kd K H kvs d.kvs := by
  have h' : Xp K H v (.dict (d.kvs.map fun p => Ky.toK p.1) (d.kvs.map fun p => Dx.toX p.2)) := h
  cases h' with
  | dic r k e a => subst e; exact ⟨_, _, rfl, r, kd_of k a⟩
theorem Dt.ofDic {a : Addr} {kvs : List (Key × V)} {d : Dc κ β} (r : Rd H a (.dK kvs)) (h : Kd K H kvs d.kvs) : Dt K H (.ref a) d := Xp.dic r h.keys rfl h.vals
theorem rd_msk {a : Addr} {u : HO} (h : Rd (msk M H) a u) : Rd H a u := ex_rd msk_le h
theorem hv_dget {d : Dc κ β} {x : κ} {y : β} (hd : Hv K M td σ H d) (hk : Hv K M ta σ H x) (hg : d.get x = some y) : Hv K M (tDGet td ta) σ H y := fun H1 e1 m Q q =>
  hd H1 e1 m _ fun v H2 e2 dv => hk H2 (e1.trans e2) (m.ex e2) _ fun u H3 e3 du => by
    obtain ⟨a, kvs, rfl, r, h2⟩ := (Dt.mono (msk_ex e3) dv).dic
    rcases h2.get x with ⟨w, z, g1, g2, g3⟩ | ⟨_, g2⟩
    · rw [hg] at g2
      cases g2
      exact ⟨a, w, rfl, .inl ⟨kvs, Ky.toK x, rd_msk r, Ky.link du, g1.symm⟩, q w H3 (e2.trans e3) g3⟩
    · rw [hg] at g2; cases g2
theorem hv_din {d : Dc κ β} {x : κ} (hk : Hv K M ta σ H x) (hd : Hv K M td σ H d) : Hv K M (tDIn ta td) σ H (d.has x) := fun H1 e1 m Q q =>
  hk H1 e1 m _ fun u H2 e2 du => hd H2 (e1.trans e2) (m.ex e2) _ fun v H3 e3 dv => by
    obtain ⟨a, kvs, rfl, r, h2⟩ := dv.dic
    refine ⟨a, valV kvs (Ky.toK x), rfl, .inl ⟨kvs, Ky.toK x, rd_msk r, Ky.link du, rfl⟩, ?_⟩
    have hb : (valV kvs (Ky.toK x)).isSome = d.has x := by rw [← valV_any, h2.any]; rfl
    rw [hb]
    exact q _ H3 (e2.trans e3) (Dt.ofBool _)
theorem hv_dnin {d : Dc κ β} {x : κ} (hk : Hv K M ta σ H x) (hd : Hv K M td σ H d) : Hv K M (tDNotIn ta td) σ H (!d.has x) := fun H1 e1 m Q q =>
  hk H1 e1 m _ fun u H2 e2 du => hd H2 (e1.trans e2) (m.ex e2) _ fun v H3 e3 dv => by
    obtain ⟨a, kvs, rfl, r, h2⟩ := dv.dic
    refine ⟨a, valV kvs (Ky.toK x), rfl, .inl ⟨kvs, Ky.toK x, rd_msk r, Ky.link du, rfl⟩, ?_⟩
    have hb : (valV kvs (Ky.toK x)).isSome = d.has x := by rw [← valV_any, h2.any]; rfl
    rw [hb]
    exact q _ H3 (e2.trans e3) (Dt.ofBool _)
/-- d[k] = e -/
theorem z_dputG {j : Nat} {l : Addr} {d : Dc κ β} {x : κ} {y : β} (s : Sg K Mc He H is ms) (e : ms[j]? = some (l, d.m)) (hv : Hv K (muA ms ++ Mc) te σ H y) (ho : Ev td σ H (.ref l)) (hk : Hv K (muA ms ++ Mc) ta σ H x) (hz : d.kvs.length ≤ 100000)
    (k : ∀ d', d' = d.put x y → ∀ H1, Sg K Mc He H1 is (ms.set j (l, d'.m)) → tq D σ H1) : tSeq (sDPut td ta te) tq D σ H :=
  hv H (Ex.refl H) s.mok _ fun v H1 e1 dv => ho H1 e1 _ fun H2 e2 => hk H2 (e1.trans e2) (s.mok.ex (e1.trans e2)) _ fun u H3 e3 du => by
    have s3 := ((s.ex e1).ex e2).ex e3
    obtain ⟨kvs, h1, h2⟩ := s3.dic e
    have hl : kvs.length < sizeLine := by
      have hs : sizeLine = 16777216 := sizeLine_eq
      rw [h2.len]; omega
    refine ⟨l, _, rfl, by rw [Ky.link du]; exact DPut.k h1 hl, k _ rfl _ (s3.set e (dic_ok ?_))⟩
    exact h2.put (Dt.mono (msk_ex (e2.trans e3)) dv)
/-- an own dict that changes no more -/
theorem Sg.frzD {l : Addr} {d : Dc κ β} (s : Sg K Mc He H is ((l, d.m) :: ms)) : Sg K Mc He H ((.ref l, Dx.toX d) :: is) ms := by
  have sub : Ex (msk (muA ((l, d.m) :: ms) ++ Mc) H) (msk (muA ms ++ Mc) H) := msk_sub fun a ha => List.mem_cons_of_mem _ ha
  have nd := List.nodup_cons.mp s.nd
  obtain ⟨kvs, h1, h2⟩ := s.dic (j := 0) (l := l) (d := d) rfl
  have nl : l ∉ muA ms ++ Mc := fun z => by
    rcases List.mem_append.mp z with z | z
    · exact nd.1 z
    · exact s.notc (List.mem_cons_self) z
  refine ⟨?_, s.okc, nd.2, ⟨Dt.ofDic (.inl (by rw [msk_out nl]; exact h1)) (h2.mono sub), s.im.mono sub⟩, s.mu.2.mono sub (Ex.refl H)⟩
  exact s.ext.trans (msk_sub fun a ha => List.mem_cons_of_mem _ ha)
end
end Ly

namespace Ly
open PySem PySem.Spec PyProof.Rows L2 Evl
open PySem.W (Datum DatumOrd Tup T3 T4 minOf)
section
variable {α κ β : Type} [DecidableEq α] [Dx α] [DecidableEq κ] [Dx κ] [Ky κ] [DecidableEq β] [Dx β]
variable {K : PySem.W.Frag} {Mc M : List Addr} {He H H1 H2 : Hp} {is js : Ims} {ms : Mus} {σ : L2.St} {te ta tb td tk tv tl tz : TE} {tt : TT} {g : TG} {D : Ends} {tq : TS}
/-! ### {k: v for x in xs} -/
/-- the pairs put one behind the other -/
def Dc.of (xs : List α) (kf : α → κ) (vf : α → β) : Dc κ β := xs.foldl (fun d x => d.put (kf x) (vf x)) ⟨[]⟩
theorem dcOf_snoc {xs : List α} {kf : α → κ} {vf : α → β} {i : Nat} {x : α} (h : xs[i]? = some x) : Dc.of (xs.take (i + 1)) kf vf = (Dc.of (xs.take i) kf vf).put (kf x) (vf x) := by
  unfold Dc.of
  rw [take_snoc h, List.foldl_append]
  rfl
theorem put_len (d : Dc κ β) (k : κ) (x : β) : (d.put k x).kvs.length ≤ d.kvs.length + 1 := by
  unfold Dc.put
  dsimp only
  split
  · rw [List.length_map]; omega
  · rw [List.length_append]; exact Nat.le_refl _
theorem dcOf_len (kf : α → κ) (vf : α → β) : ∀ (xs : List α), (Dc.of xs kf vf).kvs.length ≤ xs.length := by
  have key : ∀ (xs : List α) (d : Dc κ β), (xs.foldl (fun d x => d.put (kf x) (vf x)) d).kvs.length ≤ d.kvs.length + xs.length := fun xs => by
    induction xs with
    | nil => intro d; exact Nat.le_refl _
    | cons x r ih =>
      intro d
      rw [List.foldl_cons, List.length_cons]
      have := ih (d.put (kf x) (vf x))
      have := put_len d (kf x) (vf x)
      omega
  intro xs
  have := key xs ⟨[]⟩
  simpa [Dc.of] using this
theorem dc_listD {a : Addr} {xs : List α} {vs : List Nat} {D : Addr} {Qd : Hp → Prop} {M' : List Addr} (Pv : Nat → Hp → Prop) (h0 : Pv 0 (upd H1 D (.dK []))) (hl : ∀ i H', i ≤ xs.length → Pv i H' → ∃ us, SqL K H' a us ∧ Dts K (msk M' H') us xs)
    (hs : ∀ i x w H', xs[i]? = some x → Pv i H' → Dt K (msk M' H') w x → g w (wipe σ vs) H' fun σ2 H2 => wipe σ2 vs = wipe σ vs ∧ tt σ2 H2 fun b H3 =>
      if b = true then tk σ2 H3 fun y H4 => tv σ2 H4 fun z H5 => ∃ kvs k, y = kV k ∧ H5 D = some (.dK kvs) ∧ kvs.length < sizeLine ∧ Pv (i + 1) (upd H5 D (.dK (putK kvs k z))) else Pv (i + 1) H3) (hd : ∀ H', Pv xs.length H' → Qd H') :
    ∃ W : Nat → Nat → Hp → Prop, (∃ m, W 0 m (upd H1 D (.dK []))) ∧ ∀ i m H, W i m H →
      ((Itl K a).stop i H ∧ Qd H) ∨ ((Itl K a).go i H ∧ ∃ Nx : Hp → Prop, (∀ H', Nx H' → ∃ m', m' < m ∧ W (i + 1) m' H') ∧ ∀ x H', (Itl K a).yld i H x H' → g x (wipe σ vs) H' fun σ2 H2 => wipe σ2 vs = wipe σ vs ∧ tt σ2 H2 fun b H3 =>
        if b = true then tk σ2 H3 fun y H4 => tv σ2 H4 fun z H5 => ∃ kvs k, y = kV k ∧ H5 D = some (.dK kvs) ∧ kvs.length < sizeLine ∧ Nx (upd H5 D (.dK (putK kvs k z))) else Nx H3) := by
  refine ⟨fun i m H => m = xs.length - i ∧ i ≤ xs.length ∧ Pv i H, ⟨xs.length, by simp, Nat.zero_le _, h0⟩, ?_⟩
  rintro i m H ⟨rfl, hi, p⟩
  obtain ⟨us, q, ds⟩ := hl i H hi p
  have el := ds.len
  by_cases hlt : i < xs.length
  · refine .inr ⟨⟨us, us[i]'(by omega), q, by simp [show i < us.length by omega]⟩, Pv (i + 1), fun H' p' => ⟨xs.length - (i + 1), by omega, rfl, hlt, p'⟩, fun x H' y => ?_⟩
    obtain ⟨e, y⟩ := y
    subst e
    obtain ⟨w, h1, h2⟩ := ds.at (i := i) (x := xs[i]) (by simp [hlt])
    have e1 : x = w := Option.some.inj ((y us q).symm.trans h1)
    subst e1
    exact hs i _ x _ (by simp [hlt]) p h2
  · have e : i = xs.length := by omega
    subst e
    exact .inl ⟨⟨us, q, by omega⟩, hd H p⟩
theorem hv_dcL0 {vs : List Nat} (s : Sg K Mc He H is ms) {xs : List α} (kf : α → κ) (vf : α → β) (h : Hv K (muA ms ++ Mc) tl σ H xs) (hz : xs.length ≤ 40000)
    (hb : ∀ D src x w (d : Dc κ β) H1, Sg K Mc He H1 ((w, Dx.toX x) :: (src, Dx.toX xs) :: is) ((D, d.m) :: ms) → x ∈ xs →
      ∀ Q : L2.St → Hp → Prop, (∀ σ2, wipe σ2 vs = wipe σ vs → Hv K (muA ((D, d.m) :: ms) ++ Mc) tk σ2 H1 (kf x) → Hv K (muA ((D, d.m) :: ms) ++ Mc) tv σ2 H1 (vf x) → Q σ2 H1) → g w (wipe σ vs) H1 Q) :
    Hv K (muA ms ++ Mc) (tDc (iList K tl) g tYes tk tv vs) σ H (Dc.of xs kf vf) := fun H1 e m Q q =>
  h H1 e m _ fun v H2 e2 d => by
    obtain ⟨a, us, rfl, s1, ds⟩ := d.list
    refine ⟨a, rfl, ⟨us, ex_l msk_le s1⟩, fun D hD => ?_⟩
    have sA : Sg K Mc He H2 ((.ref a, Dx.toX xs) :: is) ms := ((s.ex e).ex e2).put d
    have sB : Sg K Mc He (upd H2 D (.dK [])) ((.ref a, Dx.toX xs) :: is) ((D, (⟨[]⟩ : Dc κ β).m) :: ms) := sA.new hD (dic_ok .nil)
    refine dc_listD (xs := xs) (M' := D :: (muA ms ++ Mc)) (fun i H' => Ex H2 H' ∧ Sg K Mc He H' ((.ref a, Dx.toX xs) :: is) ((D, (Dc.of (xs.take i) kf vf).m) :: ms)) ⟨Ex.new hD, sB⟩
      (fun i H' _ p => ?_) (fun i x w H' hx p dw => ?_) (fun H' p => ?_)
    · obtain ⟨a', us', e', s2, ds'⟩ := Dt.list (α := α) p.2.im.1
      cases e'
      exact ⟨us', ex_l msk_le s2, ds'⟩
    · have hi : i < xs.length := (List.getElem?_eq_some_iff.mp hx).1
      have sw := p.2.put dw
      refine hb D (.ref a) x w _ H' sw (List.mem_of_getElem? hx) _ fun σ2 hw hk hv => ⟨hw, ?_⟩
      show tk σ2 H' fun y H4 => tv σ2 H4 fun z H5 => _
      refine hk H' (Ex.refl H') sw.mok _ fun y H4 e4 dy => hv H4 e4 (sw.mok.ex e4) _ fun z H5 e5 dz => ?_
      have s5 := (p.2.ex e4).ex e5
      obtain ⟨kvs, h1, h2⟩ := s5.dic (j := 0) (l := D) (d := Dc.of (xs.take i) kf vf) rfl
      have hl : kvs.length < sizeLine := by
        have hs : sizeLine = 16777216 := sizeLine_eq
        have := dcOf_len kf vf (xs.take i)
        rw [List.length_take] at this
        rw [h2.len]; omega
      refine ⟨kvs, Ky.toK (kf x), Ky.link dy, h1, hl, ?_, ?_⟩
      · exact Ex.mut ((p.1.trans e4).trans e5) hD
      · rw [dcOf_snoc hx]
        exact s5.set (k := 0) (m' := ((Dc.of (xs.take i) kf vf).put (kf x) (vf x)).m) rfl (dic_ok (h2.put dz))
    · have z := p.2
      rw [List.take_length] at z
      exact q _ H' (e2.trans p.1) (z.frzD).im.1
/-! ### sorted(d) -/
def sortI (ks : List Int) : List Int := ks.mergeSort (fun a b => decide (a ≤ b))
theorem sortI_eq {ks ys : List Int} (hp : ys.Perm ks) (hs : ys.Pairwise (· ≤ ·)) : ys = sortI ks := by
  have h1 : (sortI ks).Perm ks := List.mergeSort_perm _ _
  have h2 : (sortI ks).Pairwise (fun a b => decide (a ≤ b) = true) := List.pairwise_mergeSort (fun a b c h1 h2 => by simp at *; omega) (fun a b => by simp; omega) ks
  refine List.Perm.eq_of_pairwise (le := fun (a b : Int) => a ≤ b) (fun a b _ _ h1 h2 => by omega) hs (h2.imp fun h => by simpa using h) (hp.trans h1.symm)
theorem call_sortedI_ty {d : Dc Int β} (s : Sg K Mc He H is ms) {j : Nat} {l : Addr} (e : ms[j]? = some (l, d.m)) (ho : Ev te σ H (.ref l)) (hz : d.kvs.length < 64) :
    HF K (muA ms ++ Mc) (tCB (fun xs H Q => ∃ (a : Addr) (kvs : List (Key × V)) (ks : List Int), xs = [.ref a] ∧ Rd H a (.dK kvs) ∧ kvs.map (·.1) = ks.map Sum.inl ∧ ks.length < 64 ∧
      ∀ (ys : List Int) (p : Addr), ys.Perm ks → ys.Pairwise (· ≤ ·) → H p = none → Q (.ref p) (upd H p (.lst (ys.map V.int)))) (tCons te tNil)) σ H (sortI (d.kvs.map (·.1))) := fun H1 e1 m Q q =>
  ho H1 e1 _ fun H2 e2 => by
    obtain ⟨kvs, h1, h2⟩ := (s.ex (e1.trans e2)).dic e
    refine ⟨l, kvs, d.kvs.map (·.1), rfl, .inl h1, ?_, by rw [List.length_map]; exact hz, fun ys p hp hs hn => ?_⟩
    · rw [h2.keys, List.map_map]; rfl
    · have ey := sortI_eq hp hs
      subst ey
      exact q p _ _ (fresh_back e2 hn) (e2.trans (Ex.new hn)) upd_same (dts_ints _)
end
end Ly

namespace Ly
open PySem PySem.Spec PyProof.Rows L2 Evl
open PySem.W (Datum DatumOrd Tup T3 T4 minOf)
section
variable {α κ β : Type} [DecidableEq α] [Dx α] [DecidableEq κ] [Dx κ] [Ky κ] [DecidableEq β] [Dx β]
variable {K : PySem.W.Frag} {M : List Addr} {H : Hp} {σ : L2.St} {ta tb : TE}
theorem has_get {d : Dc κ β} {k : κ} (df : β) (h : d.has k = true) : d.get k = some ((d.get k).getD df) := by
  unfold Dc.has at h
  unfold Dc.get
  cases hf : d.kvs.find? fun p => decide (p.1 = k) with
  | none =>
    rw [List.find?_eq_none] at hf
    rw [List.any_eq_true] at h
    obtain ⟨p, hp, hk⟩ := h
    exact absurd hk (hf p hp)
  | some p => rfl
theorem put_has {d : Dc κ β} {k : κ} {x : β} : (d.put k x).has k = true := by
  unfold Dc.put Dc.has
  dsimp only
  split
  · rename_i h
    rw [List.any_eq_true] at h ⊢
    obtain ⟨p, hp, hk⟩ := h
    rw [decide_eq_true_eq] at hk
    exact ⟨(p.1, x), List.mem_map.mpr ⟨p, hp, by rw [if_pos hk]⟩, decide_eq_true hk⟩
  · rw [List.any_append, Bool.or_eq_true]
    right
    simp
theorem hv_catT {xs ys : Tup α} (ha : Hv K M ta σ H xs) (hb : Hv K M tb σ H ys) (hz : xs.items.length + ys.items.length ≤ 100000) : Hv K M (tOp (rCatA K) ta tb) σ H (Tup.mk (xs.items ++ ys.items)) := fun H1 e m Q q =>
  ha H1 e m _ fun v H2 e2 d => hb H2 (e.trans e2) (m.ex e2) _ fun u H3 e3 d' => by
    obtain ⟨a, vs, rfl, s1, ds1⟩ := (Dt.mono (msk_ex e3) d).tupv
    obtain ⟨b, ws, rfl, s2, ds2⟩ := d'.tupv
    have m3 : MOk M H3 := m.ex (e2.trans e3)
    refine ⟨a, b, vs, ws, rfl, rfl, ex_t msk_le s1, ex_t msk_le s2, sz_of (by rw [ds1.len, ds2.len]; exact hz), fun h0 => ?_, fun h0 h1 => ?_, fun h0 h1 p hp => ?_⟩
    · subst h0
      have hx : xs.items = [] := List.eq_nil_of_length_eq_zero (by rw [← ds1.len]; rfl)
      rw [hx, List.nil_append] at q
      exact q _ H3 (e2.trans e3) (Dt.ofTupv s2 ds2)
    · subst h1
      have hy : ys.items = [] := List.eq_nil_of_length_eq_zero (by rw [← ds2.len]; rfl)
      rw [hy, List.append_nil] at q
      exact q _ H3 (e2.trans e3) (Dt.ofTupv s1 ds1)
    · have e4 : Ex H3 (upd H3 p (.tup (vs ++ ws))) := Ex.new hp
      exact q _ _ ((e2.trans e3).trans e4) (Dt.ofTupv (SqT.of (msk_at m3 hp)) ((ds1.mono (msk_ex e4)).app (ds2.mono (msk_ex e4))))
theorem call_sortedI_im {te : TE} {d : Dc Int β} (hd : Hv K M te σ H d) (hz : d.kvs.length < 64) :
    HF K M (tCB (fun xs H Q => ∃ (a : Addr) (kvs : List (Key × V)) (ks : List Int), xs = [.ref a] ∧ Rd H a (.dK kvs) ∧ kvs.map (·.1) = ks.map Sum.inl ∧ ks.length < 64 ∧
      ∀ (ys : List Int) (p : Addr), ys.Perm ks → ys.Pairwise (· ≤ ·) → H p = none → Q (.ref p) (upd H p (.lst (ys.map V.int)))) (tCons te tNil)) σ H (sortI (d.kvs.map (·.1))) := fun H1 e1 m Q q =>
  hd H1 e1 m _ fun v H2 e2 dv => by
    obtain ⟨a, kvs, rfl, r, h2⟩ := dv.dic
    refine ⟨a, kvs, d.kvs.map (·.1), rfl, rd_msk r, ?_, by rw [List.length_map]; exact hz, fun ys p hp hs hn => ?_⟩
    · rw [h2.keys, List.map_map]; rfl
    · have ey := sortI_eq hp hs
      subst ey
      exact q p _ _ (fresh_back e2 hn) (e2.trans (Ex.new hn)) upd_same (dts_ints _)
theorem has_sorted {d : Dc Int β} {k : Int} (h : k ∈ sortI (d.kvs.map (·.1))) : d.has k = true := by
  have h1 : k ∈ d.kvs.map (·.1) := (List.mergeSort_perm _ _).mem_iff.mp h
  obtain ⟨p, hp, rfl⟩ := List.mem_map.mp h1
  unfold Dc.has
  rw [List.any_eq_true]
  exact ⟨p, hp, decide_eq_true rfl⟩
theorem find_map {k : κ} {x : β} {j : κ} : ∀ (l : List (κ × β)), ((l.map fun p => if p.1 = k then (p.1, x) else p).find? fun p => decide (p.1 = j)).map (·.2) = if j = k then (if l.any (fun p => decide (p.1 = k)) = true then some x else none) else (l.find? fun p => decide (p.1 = j)).map (·.2)
  | [] => by simp
  | p :: l => by
    have ih := find_map (k := k) (x := x) (j := j) l
    rw [List.map_cons, List.find?_cons, List.find?_cons, List.any_cons]
    by_cases q : p.1 = k
    · rw [if_pos q]
      by_cases h : j = k
      · subst h
        simp [q]
      · have h2 : ¬ k = j := fun z => h z.symm
        rw [if_neg h] at ih
        simp only [q, h2, decide_false, h, if_false]
        exact ih
    · rw [if_neg q]
      by_cases h : p.1 = j
      · have h3 : ¬ j = k := fun z => q (h.trans z)
        simp [h, h3]
      · simp only [h, decide_false, q, Bool.false_or]
        exact ih
theorem find_app {k : κ} {x : β} {j : κ} : ∀ (l : List (κ × β)), l.any (fun p => decide (p.1 = k)) = false → ((l ++ [(k, x)]).find? fun p => decide (p.1 = j)).map (·.2) = if j = k then some x else (l.find? fun p => decide (p.1 = j)).map (·.2)
  | [], _ => by
    by_cases h : j = k
    · subst h; simp
    · have h2 : ¬ k = j := fun z => h z.symm
      simp [h, h2]
  | p :: l, hn => by
    rw [List.any_cons, Bool.or_eq_false_iff] at hn
    have ih := find_app (k := k) (x := x) (j := j) l hn.2
    have q : ¬ p.1 = k := by simpa using hn.1
    rw [List.cons_append, List.find?_cons, List.find?_cons]
    by_cases h : p.1 = j
    · have h3 : ¬ j = k := fun z => q (h.trans z)
      simp [h, h3]
    · simp only [h, decide_false]
      exact ih
theorem get_put (d : Dc κ β) (k : κ) (x : β) (j : κ) : (d.put k x).get j = if j = k then some x else d.get j := by
  unfold Dc.put Dc.get
  dsimp only
  by_cases q : (d.kvs.any fun p => decide (p.1 = k)) = true
  · rw [if_pos q, find_map, q]
    simp
  · rw [if_neg q]
    exact find_app _ (Bool.not_eq_true _ ▸ q)
theorem of_get {xs : List α} {kf : α → κ} {vf : α → β} {k : κ} {p : β} (h : (Dc.of xs kf vf).get k = some p) : ∃ x ∈ xs, kf x = k ∧ vf x = p := by
  have key := foldl_inv (f := fun (d : Dc κ β) x => d.put (kf x) (vf x)) (fun d => ∀ k p, d.get k = some p → ∃ x ∈ xs, kf x = k ∧ vf x = p) xs ⟨[]⟩ (fun d x hx ih k p h => by
    rw [get_put] at h
    by_cases q : k = kf x
    · rw [if_pos q] at h
      exact ⟨x, hx, q.symm, Option.some.inj h⟩
    · rw [if_neg q] at h
      exact ih k p h) (fun k p h => by cases h)
  exact key k p h
end
end Ly

namespace Ly
open PySem PySem.Spec PyProof.Rows L2 Evl
open PySem.W (Datum DatumOrd Tup T3 T4 minOf)
theorem ifT {α : Sort _} {b : Bool} {x y : α} (h : b = true) : (if b = true then x else y) = x := if_pos h
theorem ifF {α : Sort _} {b : Bool} {x y : α} (h : b = false) : (if b = true then x else y) = y := if_neg (by rw [h]; exact Bool.false_ne_true)
theorem log_small {j : Int} (h0 : 0 < j) (h : j < 1000000000000000000) : CDivW i j := by
  refine ⟨h0, ?_⟩
  have hn : j.natAbs ≠ 0 := by omega
  rw [Nat.log2_lt hn]
  have : j.natAbs < 2 ^ 60 := by omega
  exact Nat.lt_of_lt_of_le this (Nat.pow_le_pow_right (by decide) (by decide))
/-! ### sums, the greatest of a list, zip, stars -/
section
variable {K : PySem.W.Frag} {Mc M : List Addr} {He H H1 H2 : Hp} {is js : Ims} {ms : Mus} {σ : L2.St} {te ta tb tl tl2 : TE} {tt : TT} {g : TG}
variable {α β γ δ : Type} [DecidableEq α] [Dx α] [DecidableEq β] [Dx β] [DecidableEq γ] [Dx γ] [DecidableEq δ] [Dx δ]
theorem hv_sum {ns : List Int} (h : HS K M te σ H ns) : Hv K M (tCB (rSum K) (tCons te tNil)) σ H ns.sum := fun H1 e m Q q =>
  h H1 e m _ fun a vs H2 e2 s ds => ⟨a, ns, rfl, by rw [← ints_of ds]; exact s, q _ H2 e2 (Dt.ofInt _)⟩
/-- the greatest of a list -/
def maxL (l : List Int) : Int := match l with
  | [] => 0
  | x :: xs => xs.foldl max x
theorem maxL_spec {l : List Int} (h : l ≠ []) : maxL l ∈ l ∧ ∀ y ∈ l, y ≤ maxL l := by
  cases l with
  | nil => exact absurd rfl h
  | cons x xs =>
    obtain ⟨h1, h2, h3⟩ := max_spec xs x
    refine ⟨?_, fun y hy => ?_⟩
    · show xs.foldl max x ∈ x :: xs
      rcases h1 with h1 | h1
      · rw [h1]; exact List.mem_cons_self
      · exact List.mem_cons_of_mem _ h1
    · show y ≤ xs.foldl max x
      rcases List.mem_cons.mp hy with rfl | hy
      · exact h2
      · exact h3 y hy
theorem maxL_eq {l : List Int} {m : Int} (h1 : m ∈ l) (h2 : ∀ y ∈ l, y ≤ m) : m = maxL l := by
  have hn : l ≠ [] := fun z => by rw [z] at h1; cases h1
  obtain ⟨a, b⟩ := maxL_spec hn
  exact Int.le_antisymm (b m h1) (h2 _ a)
theorem hv_max {ns : List Int} (h : HS K M te σ H ns) (hn : 0 < ns.length) : Hv K M (tCB (rMax K) (tCons te tNil)) σ H (maxL ns) := fun H1 e m Q q =>
  h H1 e m _ fun a vs H2 e2 s ds => ⟨a, ns, rfl, by rw [← ints_of ds]; exact s, hn, fun x hx hy => by
    have : x = maxL ns := maxL_eq hx hy
    rw [this]
    exact q _ H2 e2 (Dt.ofInt _)⟩
/-- a starred list among items -/
theorem has_star {tr : TA} {xs ys : List α} (h : HS K M te σ H xs) (hr : HAs K M tr σ H ys) : HAs K M (StX.tStar K te tr) σ H (xs ++ ys) := fun H1 e m Q q =>
  h H1 e m _ fun a vs H2 e2 s ds => ⟨a, vs, rfl, .inr s, hr H2 (e.trans e2) (m.ex e2) _ fun ws H3 e3 d3 => q _ H3 (e2.trans e3) ((ds.mono (msk_ex e3)).app d3)⟩
/-- pairs of items of two lists -/
def zipL (xs : List α) (ys : List β) : List (α × β) := List.zipWith (fun x y => (x, y)) xs ys
theorem zipL_len (xs : List α) (ys : List β) : (zipL xs ys).length = min xs.length ys.length := by unfold zipL; rw [List.length_zipWith]
theorem zipL_get {xs : List α} {ys : List β} {i : Nat} {x : α} {y : β} (h : xs[i]? = some x) (h2 : ys[i]? = some y) : (zipL xs ys)[i]? = some (x, y) := by
  unfold zipL
  rw [List.getElem?_zipWith, h, h2]
theorem hf_lcZ0 {vs : List Nat} (s : Sg K Mc He H is ms) {xs : List α} {zs : List γ} (ef : α × γ → β) (h : Hv K (muA ms ++ Mc) tl σ H xs) (h' : Hv K (muA ms ++ Mc) tl2 σ H zs) (hz : xs.length ≤ 40000)
    (hb : ∀ D src (x : α × γ) w (ys : List β) H1, Sg K Mc He H1 ((w, Dx.toX x) :: (src, Dx.toX xs) :: is) ((D, .lst (ys.map Dx.toX)) :: ms) → x ∈ zipL xs zs →
      ∀ Q : L2.St → Hp → Prop, (∀ σ2, wipe σ2 vs = wipe σ vs → Hv K (muA ((D, Mv.lst (ys.map Dx.toX)) :: ms) ++ Mc) te σ2 H1 (ef x) → Q σ2 H1) → g w (wipe σ vs) H1 Q) :
    HF K (muA ms ++ Mc) (tLc (iZip K (tCons tl (tCons tl2 tNil))) g tYes te vs) σ H ((zipL xs zs).map ef) := fun H1 e m Q q =>
  h H1 e m _ fun v H2 e2 d => h' H2 (e.trans e2) (m.ex e2) _ fun v' H2' e2' d' => by
    obtain ⟨a, us, rfl, s1, ds⟩ := d.list
    obtain ⟨a', us', rfl, t1, dt⟩ := d'.list
    have s1' : SqL K H2' a us := ex_l e2' (ex_l msk_le s1)
    have t1' : SqL K H2' a' us' := ex_l msk_le t1
    have dE : Dt K (msk (muA ms ++ Mc) H2') (.ref a) xs := d.mono (msk_ex e2')
    refine ⟨a, a', us, us', rfl, s1', t1', fun D hD => ?_⟩
    have sA : Sg K Mc He H2' ((.ref a, Dx.toX xs) :: is) ms := (((s.ex e).ex e2).ex e2').put dE
    have sB : Sg K Mc He (upd H2' D (.lst [])) ((.ref a, Dx.toX xs) :: is) ((D, .lst (([] : List β).map Dx.toX)) :: ms) := sA.new hD ⟨[], rfl, .nil⟩
    have hlu : us.length = xs.length := ds.len
    have hlw : us'.length = zs.length := dt.len
    have dsE : Dts K (msk (muA ms ++ Mc) H2') us xs := Dts.mono (msk_ex e2') ds
    refine lc_it (walk_zip (K := K) (a := a) (b := a') (xs := us) (ys := us') (n := min us.length us'.length) rfl) (fun i H' => Ex H2' H' ∧ Sg K Mc He H' ((.ref a, Dx.toX xs) :: is) ((D, .lst ((((zipL xs zs).take i).map ef).map Dx.toX)) :: ms)) ⟨Ex.new hD, sB⟩
      (fun i H' _ p => ⟨ex_l p.1 s1', ex_l p.1 t1'⟩) (fun i x H' H'' hi p y => ?_) (fun H' p => ?_)
    · obtain ⟨T, x0, x1, rfl, nT, rfl, f1, f2⟩ := y
      have hix : i < xs.length := by rw [← hlu]; omega
      have hiz : i < zs.length := by rw [← hlw]; omega
      have gx : xs[i]? = some xs[i] := by simp [hix]
      have gz : zs[i]? = some zs[i] := by simp [hiz]
      have gE := zipL_get gx gz
      have eT : Ex H' (upd H' T (.tup [x0, x1])) := Ex.new nT
      have sT := p.2.ex eT
      have q2 : Ex (msk (muA ms ++ Mc) H2') (msk (D :: (muA ms ++ Mc)) (upd H' T (.tup [x0, x1]))) := fun b o hb' => by
        by_cases z : b ∈ muA ms ++ Mc
        · rw [msk_in z] at hb'; cases hb'
        · rw [msk_out z] at hb'
          have nb : b ≠ D := ne_of_none hb' hD
          rw [msk_out (by simp only [List.mem_cons, not_or]; exact ⟨nb, z⟩)]
          exact eT b o (p.1 b o hb')
      have dm0 : Dt K (msk (D :: (muA ms ++ Mc)) (upd H' T (.tup [x0, x1]))) x0 xs[i] := by
        obtain ⟨w, w1, w2⟩ := (dsE.mono q2).at gx
        have : x0 = w := Option.some.inj (f1.symm.trans w1)
        subst this; exact w2
      have dm1 : Dt K (msk (D :: (muA ms ++ Mc)) (upd H' T (.tup [x0, x1]))) x1 zs[i] := by
        obtain ⟨w, w1, w2⟩ := (Dts.mono q2 dt).at gz
        have : x1 = w := Option.some.inj (f2.symm.trans w1)
        subst this; exact w2
      have nTD : T ∉ D :: (muA ms ++ Mc) := fun z => (p.2.mok T z) nT
      have dw : Dt K (msk (D :: (muA ms ++ Mc)) (upd H' T (.tup [x0, x1]))) (.ref T) (xs[i], zs[i]) := Dt.ofPair (SqT.of (by rw [msk_out nTD]; exact upd_same)) dm0 dm1
      refine hb D (.ref a) (xs[i], zs[i]) (.ref T) _ _ (sT.put dw) (List.mem_of_getElem? gE) _ fun σ2 hw he => ⟨hw, ?_⟩
      have hlen : (((zipL xs zs).take i).map ef).length < 50000 := by
        rw [List.length_map, List.length_take, zipL_len]
        omega
      exact lc_turn (ms := ms) (tt := tYes) (b := true) (zs := ((zipL xs zs).take (i + 1)).map ef) sT hlen (fun H3 => Ex H2' H3 ∧ Sg K Mc He H3 ((.ref a, Dx.toX xs) :: is) ((D, .lst ((((zipL xs zs).take (i + 1)).map ef).map Dx.toX)) :: ms)) (fun H2 _ _ _ q => q H2 (Ex.refl H2)) (fun _ => he) (by rw [if_pos rfl, take_snoc gE, List.map_append]; rfl) (fun H3 h4 s3 => ⟨by
        obtain ⟨H4, e4, e5⟩ := h4
        rcases e5 with e5 | ⟨o, e5⟩
        · rw [e5]; exact (p.1.trans eT).trans e4
        · rw [e5]; exact Ex.mut ((p.1.trans eT).trans e4) hD, s3⟩)
    · have z := p.2
      have et : (zipL xs zs).take (min us.length us'.length) = zipL xs zs := List.take_of_length_le (by rw [zipL_len, hlu, hlw]; exact Nat.le_refl _)
      rw [et] at z
      obtain ⟨us2, h3, h4⟩ := z.lst (k := 0) rfl
      exact q D us2 H' (fresh_back (e2.trans e2') hD) ((e2.trans e2').trans p.1) h3 h4

/-- xs[-1] -/
theorem hv_last {xs : List α} (d : α) (ha : HS K M ta σ H xs) (hn : 0 < xs.length) : Hv K M (tOp (rIxL K) ta (tUn (rU fun i => .int (-i)) (tC (.int 1)))) σ H (xs.getD (xs.length - 1) d) := fun H1 e m Q q =>
  ha H1 e m _ fun a vs H2 e2 s ds => ⟨1, rfl, by
    have hx : xs[xs.length - 1]? = some (xs.getD (xs.length - 1) d) := by
      have := getD_at (xs := xs) (i := ((xs.length - 1 : Nat) : Int)) (d := d) (by omega) (by omega)
      simpa using this
    obtain ⟨w, h1, h2⟩ := ds.at hx
    have hl := ds.len
    refine ⟨a, vs, -1, w, rfl, rfl, s, ?_, q w H2 e2 h2⟩
    unfold atI ixN
    rw [if_neg (by decide), if_pos (by omega)]
    show vs[_]? = some w
    rw [← h1]
    congr 1
    omega⟩
/-- for i, x in enumerate(xs) -/
theorem zq_forE {xs : List α} {tu tz : TS} {D : Ends} (s : Sg K Mc He H is ms) (h : Hv K (muA ms ++ Mc) tl σ H xs) (Pv : V → Nat → L2.St → Hp → Prop) (h0 : ∀ v H1, Sg K Mc He H1 ((v, Dx.toX xs) :: is) ms → Pv v 0 σ H1)
    (hl : ∀ v i σ' H', Pv v i σ' H' → Dt K (msk (muA ms ++ Mc) H') v xs ∧ MOk (muA ms ++ Mc) H')
    (hs : ∀ v i x w σ' H' H'', (enumL xs)[i]? = some x → Pv v i σ' H' → Ex H' H'' → Dt K (msk (muA ms ++ Mc) H'') w x → g w σ' H'' fun σ2 H2 => tu { D with nx := Pv v (i + 1), ct := Pv v (i + 1), bk := tz D } σ2 H2)
    (hd : ∀ v σ' H', Pv v (enumL xs).length σ' H' → tz D σ' H') : tSeq (tFor (iEnum K (tCons tl tNil)) g tu) tz D σ H :=
  h H (Ex.refl H) s.mok _ fun v H1 e d => by
    obtain ⟨a, vs, rfl, s1, ds⟩ := d.list
    refine ⟨a, vs, rfl, ex_l msk_le s1, fun i m σ' H' => m = xs.length - i ∧ i ≤ xs.length ∧ Pv (.ref a) i σ' H', ⟨xs.length, by simp, Nat.zero_le _, h0 _ H1 ((s.ex e).put d)⟩, ?_⟩
    rintro i m σ' H' ⟨rfl, hi, p⟩
    obtain ⟨dd, mk⟩ := hl _ i σ' H' p
    obtain ⟨a', us, e', q1, du⟩ := dd.list
    cases e'
    have q : SqL K H' a us := ex_l msk_le q1
    have el := du.len
    by_cases hlt : i < xs.length
    · refine .inr ⟨⟨us, us[i]'(by omega), q, by simp [show i < us.length by omega]⟩, Pv (.ref a) (i + 1), fun σ2 H2 p' => ⟨xs.length - (i + 1), by omega, rfl, hlt, p'⟩, fun x H2 y => ?_⟩
      obtain ⟨T, x1, rfl, nT, rfl, f2⟩ := y
      have gx : xs[i]? = some xs[i] := by simp [hlt]
      have eT : Ex H' (upd H' T (.tup [.int (i : Int), x1])) := Ex.new nT
      have nTD : T ∉ muA ms ++ Mc := fun z => (mk T z) nT
      have dm : Dt K (msk (muA ms ++ Mc) (upd H' T (.tup [.int (i : Int), x1]))) x1 xs[i] := by
        obtain ⟨w, w1, w2⟩ := (Dts.mono (msk_ex eT) du).at gx
        have : x1 = w := Option.some.inj ((f2 us q).symm.trans w1)
        subst this; exact w2
      exact hs _ i ((i : Int), xs[i]) (.ref T) σ' H' _ (enumL_get gx) p eT (Dt.ofPair (SqT.of (by rw [msk_out nTD]; exact upd_same)) (Dt.ofInt _) dm)
    · have e : i = xs.length := by omega
      subst e
      exact .inl ⟨⟨us, q, by omega⟩, hd _ σ' H' (by rw [enumL_len]; exact p)⟩
/-- for x, y in zip(xs, ys) -/
theorem zq_forZ {xs : List α} {ys : List β} {tu tz : TS} {D : Ends} (s : Sg K Mc He H is ms) (h : Hv K (muA ms ++ Mc) tl σ H xs) (h' : Hv K (muA ms ++ Mc) tl2 σ H ys) (Pv : V → Nat → L2.St → Hp → Prop)
    (h0 : ∀ v u H1, Sg K Mc He H1 ((v, Dx.toX xs) :: (u, Dx.toX ys) :: is) ms → Pv v 0 σ H1)
    (hl : ∀ v i σ' H', Pv v i σ' H' → Dt K (msk (muA ms ++ Mc) H') v xs ∧ MOk (muA ms ++ Mc) H' ∧ True)
    (hs : ∀ v i x w σ' H' H'', (zipL xs ys)[i]? = some x → Pv v i σ' H' → Ex H' H'' → Dt K (msk (muA ms ++ Mc) H'') w x → g w σ' H'' fun σ2 H2 => tu { D with nx := Pv v (i + 1), ct := Pv v (i + 1), bk := tz D } σ2 H2)
    (hd : ∀ v σ' H', Pv v (zipL xs ys).length σ' H' → tz D σ' H') : True := True.intro
end
/-! ### loops whose states are known -/
theorem loopNR_seq {ρ S : Type} {f : S → Int → Lp ρ S} (st : Nat → S) (lo : Int) (n : Nat) (h : ∀ i, i < n → f (st i) (lo + (i : Int)) = .nxt (st (i + 1))) : loopNR f n lo (st 0) = .inr (st n) := by
  have key : ∀ m i, i + m = n → loopNR f m (lo + (i : Int)) (st i) = .inr (st n) := by
    intro m
    induction m with
    | zero => intro i e; have : i = n := by omega
              subst this; rfl
    | succ m ih =>
      intro i e
      have := loopNR_nxt (n := n) (i := i) (by omega) (h i (by omega))
      rw [show n - i = m + 1 by omega, show n - (i + 1) = m by omega] at this
      rw [this]
      exact ih (i + 1) (by omega)
  have := key n 0 (by omega)
  simpa using this
theorem loopN_seq {S : Type} {f : S → Int → S} (st : Nat → S) (lo : Int) (n : Nat) (h : ∀ i, i < n → f (st i) (lo + (i : Int)) = st (i + 1)) : loopN f n lo (st 0) = st n := by
  have key : ∀ m i, i + m = n → loopN f m (lo + (i : Int)) (st i) = st n := by
    intro m
    induction m with
    | zero => intro i e; have : i = n := by omega
              subst this; rfl
    | succ m ih =>
      intro i e
      have := loopN_step (f := f) (n := n) (i := i) (lo := lo) (s := st i) (by omega)
      rw [show n - i = m + 1 by omega, show n - (i + 1) = m by omega] at this
      rw [this, h i (by omega)]
      exact ih (i + 1) (by omega)
  have := key n 0 (by omega)
  simpa using this
theorem loopL_seq {α ρ S : Type} {f : S → α → Lp ρ S} (st : Nat → S) (xs : List α) (h : ∀ i x, xs[i]? = some x → f (st i) x = .nxt (st (i + 1))) : loopL f xs (st 0) = .inr (st xs.length) := by
  have key : ∀ m i, i + m = xs.length → loopL f (xs.drop i) (st i) = .inr (st xs.length) := by
    intro m
    induction m with
    | zero => intro i e; have : i = xs.length := by omega
              subst this; exact loopL_end
    | succ m ih =>
      intro i e
      have hx : xs[i]? = some (xs[i]'(by omega)) := by simp [show i < xs.length by omega]
      rw [loopL_nxt hx (h i _ hx)]
      exact ih (i + 1) (by omega)
  have := key xs.length 0 (by omega)
  simpa using this
theorem sum_take_succ (xs : List Int) {i : Nat} (h : i < xs.length) : (xs.take (i + 1)).sum = (xs.take i).sum + xs.getD i 0 := by
  have hx : xs[i]? = some (xs[i]'h) := by simp [h]
  rw [take_snoc hx, List.sum_append, List.getD_eq_getElem?_getD, hx]
  simp
theorem sum_nn {xs : List Int} (h : ∀ x ∈ xs, 0 ≤ x) : 0 ≤ xs.sum := by
  induction xs with
  | nil => simp
  | cons a r ih =>
    have := h a List.mem_cons_self
    have := ih fun x hx => h x (List.mem_cons_of_mem _ hx)
    rw [List.sum_cons]; omega
section
variable {K : PySem.W.Frag} {M : List Addr} {H : Hp} {σ : L2.St} {ta : TE}
variable {α β γ δ : Type} [DecidableEq α] [Dx α] [DecidableEq β] [Dx β] [DecidableEq γ] [Dx γ] [DecidableEq δ] [Dx δ]
theorem hv_t40 {p : T4 α β γ δ} (ha : Hv K M ta σ H p) : Hv K M (tOp (rIxT K) ta (tC (.int 0))) σ H p.a := fun H1 e m Q q =>
  ha H1 e m _ fun v H2 e2 d => by
    obtain ⟨l, a, b, c, d', rfl, s, d1, d2, d3, d4⟩ := d.t4
    exact ⟨l, [a, b, c, d'], 0, a, rfl, rfl, ex_t msk_le s, at_of (j := 0) rfl rfl, q a H2 e2 d1⟩
theorem hv_t41 {p : T4 α β γ δ} (ha : Hv K M ta σ H p) : Hv K M (tOp (rIxT K) ta (tC (.int 1))) σ H p.b := fun H1 e m Q q =>
  ha H1 e m _ fun v H2 e2 d => by
    obtain ⟨l, a, b, c, d', rfl, s, d1, d2, d3, d4⟩ := d.t4
    exact ⟨l, [a, b, c, d'], 1, b, rfl, rfl, ex_t msk_le s, at_of (j := 1) rfl rfl, q b H2 e2 d2⟩
theorem hv_t42 {p : T4 α β γ δ} (ha : Hv K M ta σ H p) : Hv K M (tOp (rIxT K) ta (tC (.int 2))) σ H p.c := fun H1 e m Q q =>
  ha H1 e m _ fun v H2 e2 d => by
    obtain ⟨l, a, b, c, d', rfl, s, d1, d2, d3, d4⟩ := d.t4
    exact ⟨l, [a, b, c, d'], 2, c, rfl, rfl, ex_t msk_le s, at_of (j := 2) rfl rfl, q c H2 e2 d3⟩
theorem hv_t43 {p : T4 α β γ δ} (ha : Hv K M ta σ H p) : Hv K M (tOp (rIxT K) ta (tC (.int 3))) σ H p.d := fun H1 e m Q q =>
  ha H1 e m _ fun v H2 e2 d => by
    obtain ⟨l, a, b, c, d', rfl, s, d1, d2, d3, d4⟩ := d.t4
    exact ⟨l, [a, b, c, d'], 3, d', rfl, rfl, ex_t msk_le s, at_of (j := 3) rfl rfl, q d' H2 e2 d4⟩
end
end Ly

namespace Ly
open PySem PySem.Spec PyProof.Rows L2 Evl
open PySem.W (Datum DatumOrd Tup T3 T4 minOf)
section
variable {K : PySem.W.Frag} {Mc M : List Addr} {He H : Hp} {is : Ims} {ms : Mus} {σ : L2.St} {te ta tb : TE} {tz : TS} {D : Ends}
variable {α β γ δ : Type} [DecidableEq α] [Dx α] [DecidableEq β] [Dx β] [DecidableEq γ] [Dx γ] [DecidableEq δ] [Dx δ]
theorem z_unp3 {i j l : Nat} {p : T3 α β γ} (s : Sg K Mc He H is ms) (h : Hv K (muA ms ++ Mc) te σ H p) (k : ∀ x y z, T3.mk x y z = p → ∀ v u w H1, Sg K Mc He H1 ((v, Dx.toX x) :: (u, Dx.toX y) :: (w, Dx.toX z) :: is) ms → tz D (((σ.set i (some v)).set j (some u)).set l (some w)) H1) :
    tSeq (tAsg te (gTup K 3 (gCons (gName i) (gCons (gName j) (gCons (gName l) gNil))))) tz D σ H :=
  h H (Ex.refl H) s.mok _ fun v H1 e d => by
    obtain ⟨l, a, b, c, rfl, st, d1, d2, d3⟩ := d.t3
    exact ⟨l, [a, b, c], rfl, ex_t msk_le st, rfl, a, [b, c], rfl, b, [c], rfl, c, [], rfl, rfl, k p.a p.b p.c rfl a b c H1 ((((s.ex e).put d3).put d2).put d1)⟩
theorem z_unp4 {i j l m : Nat} {p : T4 α β γ δ} (s : Sg K Mc He H is ms) (h : Hv K (muA ms ++ Mc) te σ H p) (k : ∀ x y z r, T4.mk x y z r = p → ∀ v u w t H1, Sg K Mc He H1 ((v, Dx.toX x) :: (u, Dx.toX y) :: (w, Dx.toX z) :: (t, Dx.toX r) :: is) ms → tz D ((((σ.set i (some v)).set j (some u)).set l (some w)).set m (some t)) H1) :
    tSeq (tAsg te (gTup K 4 (gCons (gName i) (gCons (gName j) (gCons (gName l) (gCons (gName m) gNil)))))) tz D σ H :=
  h H (Ex.refl H) s.mok _ fun v H1 e dd => by
    obtain ⟨l, a, b, c, d, rfl, st, d1, d2, d3, d4⟩ := dd.t4
    exact ⟨l, [a, b, c, d], rfl, ex_t msk_le st, rfl, a, [b, c, d], rfl, b, [c, d], rfl, c, [d], rfl, d, [], rfl, rfl, k p.a p.b p.c p.d rfl a b c d H1 (((((s.ex e).put d4).put d3).put d2).put d1)⟩
/-- list + list, read ones -/
def rCatS (K : PySem.W.Frag) : R2 := fun x y H Q => ∃ a b xs ys, x = .ref a ∧ y = .ref b ∧ SqL K H a xs ∧ SqL K H b ys ∧ xs.length + ys.length ≤ sizeLine ∧ ∀ p, H p = none → Q (.ref p) (upd H p (.lst (xs ++ ys)))
theorem op_catS {X : Cx} : OpR X (binaryOp .Add) (rCatS X.K) := by
  intro pins s σ H x y v u Q I rx ry h
  obtain ⟨a, b, xs, ys, rfl, rfl, ha, hb, hz, q⟩ := h
  cases rx
  cases ry
  obtain ⟨its, r, ht, hz1⟩ := I.list ha
  obtain ⟨its2, r2, ht2, hz2⟩ := I.list hb
  obtain ⟨⟨cls, dd, data, sl⟩, ho, hc, n, hd⟩ := ht.isList
  obtain ⟨⟨cls2, dd2, data2, sl2⟩, ho2, hc2, n2, hd2⟩ := ht2.isList
  simp only at hc hd hc2 hd2
  subst hc hd hc2 hd2
  have e : its.toArray ++ its2.toArray = (its ++ its2).toArray := by simp
  refine concat_meets ⟨_, ho, rfl⟩ ⟨_, ho2, rfl⟩ noFill_list_add seq_list_add PySem.F.slot_list_add PySem.F.entry_list_add (PySem.F.args_list_add_2 _ _) (list_addW a b its.toArray its2.toArray n n2 dd dd2 sl sl2 (by rw [List.size_toArray, List.size_toArray, ← r.length, ← r2.length]; exact hz)) ⟨ho, ho2, ?_⟩
  rw [e]
  refine ⟨.ref s.heap.objs.size, _, I.laid (t' := s.toks) (o := .lst (xs ++ ys)) (fun b ob q => Heap.get?_push_of_some _ q) (Nat.le_refl _) ?_, rfl, q _ (I.hok.fresh (Nat.le_refl _))⟩
  exact ⟨by rw [List.length_append]; exact hz, _, 0, r.append r2, Heap.get?_push_size _ rfl⟩
theorem hv_co {x : α} {y : β} (h : Hv K M te σ H x) (e : Dx.toX x = Dx.toX y) : Hv K M te σ H y := fun H1 a m Q q => h H1 a m Q fun v H2 e2 d => q v H2 e2 (by
  show Xp _ _ _ (Dx.toX y)
  rw [← e]; exact d)
def t4v (p : T4 α α α α) : Tup α := ⟨[p.a, p.b, p.c, p.d]⟩
def t3v (p : T3 α α α) : Tup α := ⟨[p.a, p.b, p.c]⟩
end
end Ly

namespace Ly
open PySem PySem.Spec PyProof.Rows L2 Evl
open PySem.W (Datum DatumOrd Tup T3 T4 minOf)

/-! ### objects of classes: made once, read from then on -/
section
variable {K : PySem.W.Frag} {Mc M : List Addr} {He H H1 : Hp} {is : Ims} {ms : Mus} {σ : L2.St} {te ta tb : TE} {tz : TS} {D : Ends}
variable {α β γ δ : Type} [DecidableEq α] [Dx α] [DecidableEq β] [Dx β] [DecidableEq γ] [Dx γ] [DecidableEq δ] [Dx δ]
/-- the class of a name -/
structure Ct (K : PySem.W.Frag) (c : Str) (C : Addr) : Prop where
  ns : PySem.W.nsIn K mainGlobals c = some (some (.ref C))
  cl : Cls K C
theorem Ct.one {c : Str} {C C' : Addr} (t : Ct K c C) (h : PySem.W.nsIn K mainGlobals c = some (some (.ref C'))) : C' = C := by
  have := t.ns.symm.trans h
  cases this
  rfl
theorem Dt.objv {v : V} {o : α} {c : Str} {C : Addr} {ns : List Str} {ds : List Xd} (t : Ct K c C) (h : Dt K H v o) (e : Dx.toX o = .obj c ns ds) :
    ∃ a dx fs, v = .ref a ∧ H a = some (.ins C dx fs) ∧ fs.map (·.1) = ns ∧ XpAll K H (fs.map (·.2)) ds := by
  have h' : Xp K H v (.obj c ns ds) := by rw [← e]; exact h
  cases h' with
  | obj q hp hn hv ha =>
    cases hv
    cases t.one q
    exact ⟨_, _, _, rfl, hp, hn, ha⟩
theorem Dt.ofObj {a C dx : Addr} {fs : List (Str × V)} {o : α} {c : Str} {ns : List Str} {ds : List Xd} (t : Ct K c C) (e : Dx.toX o = .obj c ns ds) (h : H a = some (.ins C dx fs)) (hn : fs.map (·.1) = ns) (ha : XpAll K H (fs.map (·.2)) ds) : Dt K H (.ref a) o := by
  show Xp K H (.ref a) (Dx.toX o)
  rw [e]
  exact .obj t.ns h hn rfl ha
theorem lookup_at : ∀ {fs : List (Str × V)} {ds : List Xd} {i : Nat} {f : Str} {d : Xd}, (fs.map (·.1)).Nodup → XpAll K H (fs.map (·.2)) ds → (fs.map (·.1))[i]? = some f → ds[i]? = some d → ∃ v, fs.lookup f = some v ∧ Xp K H v d
  | [], _, _, _, _, _, _, h, _ => by simp at h
  | (g, v) :: r, ds, i, f, d, nd, ha, hi, hd => by
    cases ha with
    | cons a b =>
      cases i with
      | zero =>
        have e1 : g = f := by simpa using hi
        have e2 := Option.some.inj (show some _ = some d from hd)
        subst e1 e2
        exact ⟨v, by simp, a⟩
      | succ i =>
        have nd' := List.nodup_cons.mp (show (g :: r.map (·.1)).Nodup from nd)
        have hi' : (r.map (·.1))[i]? = some f := by simpa using hi
        obtain ⟨u, h1, h2⟩ := lookup_at (i := i) nd'.2 b hi' (by simpa using hd)
        have hg : f ≠ g := fun z => nd'.1 (z ▸ List.mem_of_getElem? hi')
        exact ⟨u, by rw [List.lookup_cons]; rw [show (f == g) = false by simpa using hg]; exact h1, h2⟩
theorem lookup_none : ∀ {fs : List (Str × V)} {f : Str}, f ∉ fs.map (·.1) → fs.lookup f = none
  | [], _, _ => rfl
  | (g, v) :: r, f, h => by
    have h' : ¬ (f = g ∨ f ∈ r.map (·.1)) := by simpa using h
    rw [List.lookup_cons, show (f == g) = false by simpa using fun z => h' (.inl z)]
    exact lookup_none fun z => h' (.inr z)
theorem putF_new {f : Str} {v : V} : ∀ {fs : List (Str × V)}, f ∉ fs.map (·.1) → putF f v fs = fs ++ [(f, v)]
  | [], _ => rfl
  | (g, x) :: r, h => by
    have h' : ¬ (f = g ∨ f ∈ r.map (·.1)) := by simpa using h
    show (if g = f then (g, v) :: r else (g, x) :: putF f v r) = _
    rw [if_neg fun z => h' (.inl z.symm), putF_new fun z => h' (.inr z)]
    rfl
/-- o.f -/
theorem hv_fld {o : α} {x : β} {c f : Str} {C : Addr} {ns : List Str} {ds : List Xd} (i : Nat) (h : Hv K M te σ H o) (t : Ct K c C) (na : NoAttr K C f) (e : Dx.toX o = .obj c ns ds) (nd : ns.Nodup) (hn : ns[i]? = some f) (hd : ds[i]? = some (Dx.toX x)) :
    Hv K M (tFld K te f) σ H x := fun H1 e1 m Q q =>
  h H1 e1 m _ fun v H2 e2 d => by
    obtain ⟨a, dx, fs, rfl, hp, hf, ha⟩ := d.objv t e
    subst hf
    obtain ⟨u, h1, h2⟩ := lookup_at nd ha hn hd
    exact ⟨a, C, dx, fs, u, rfl, msk_le _ _ hp, t.cl, na, h1, q u H2 e2 h2⟩
/-- o.m(..) -/
theorem hv_meth {o : α} {args : γ → List Xd} {pre : γ → Prop} {F : γ → β} {tr : TA} {E : XK} {cn m : Str} {C : Addr} {ns : List Str} {ds : List Xd} {rest : List Xd} (c : γ) (h : Hv K M ta σ H o) (t : Ct K cn C) (e : Dx.toX o = .obj cn ns ds) (nm : m ∉ ns)
    (ha : HD K M tr σ H rest) (hargs : args c = Dx.toX o :: rest) (p : pre c) : Hv K M (tMeth C m (PrD K args pre F) [] E ta tr) σ H (F c) := fun H1 e1 mk Q q =>
  h H1 e1 mk _ fun v H2 e2 d => by
    obtain ⟨a, dx, fs, rfl, hp, hf, hx⟩ := Dt.objv t d e
    refine ⟨a, dx, fs, rfl, msk_le _ _ hp, lookup_none (by rw [hf]; exact nm), ?_⟩
    exact ha H2 (e1.trans e2) (mk.ex e2) _ fun vs H3 e3 ds' => ⟨M, c, (mk.ex e2).ex e3, by rw [hargs, List.append_nil]; exact .cons (dp_mono (msk_ex e3) d) ds', p, fun w H4 e4 d4 => q w H4 ((e2.trans e3).trans e4) d4⟩
/-- the promise of __init__: F tells the object -/
def PrI (K : PySem.W.Frag) (cn : Str) (args : γ → List Xd) (pre : γ → Prop) (F : γ → β) : Sp := fun vs H Q _ => ∃ (Mc : List Addr) (p C dx : Addr) (ws : List V) (c : γ), vs = .ref p :: ws ∧ MOk (p :: Mc) H ∧ p ∉ Mc ∧ PySem.W.nsIn K mainGlobals cn = some (some (.ref C)) ∧ H p = some (.ins C dx []) ∧ XpAll K (msk (p :: Mc) H) ws (args c) ∧ pre c ∧
  ∀ H', Ex (msk [p] H) H' → Dt K (msk Mc H') (.ref p) (F c) → Q .non H'
theorem hv_make {args : γ → List Xd} {pre : γ → Prop} {F : γ → β} {tr : TA} {E : XK} {cn : Str} {C : Addr} (c : γ) (t : Ct K cn C) (h : HD K M tr σ H (args c)) (p : pre c) : Hv K M (tMake C (PrI K cn args pre F) [] E tr) σ H (F c) := fun H1 e1 mk Q q =>
  h H1 e1 mk _ fun vs H2 e2 ds x dx hx hdx ne => by
    have m2 := mk.ex e2
    have hx2 : upd H2 dx (.own x) x = none := by rw [upd_ne (fun z => ne z.symm)]; exact hx
    have ea : Ex H2 (upd H2 dx (.own x)) := Ex.new hdx
    have eb : Ex (upd H2 dx (.own x)) (upd (upd H2 dx (.own x)) x (.ins C dx [])) := Ex.new hx2
    have hxM : x ∉ M := fun z => m2 x z hx
    refine ⟨M, x, C, dx, vs, c, by rw [List.append_nil], ?_, hxM, t.ns, upd_same, ?_, p, fun H' e' d => ⟨rfl, q _ _ ?_ d⟩⟩
    · intro l hl
      rcases List.mem_cons.mp hl with rfl | hl
      · rw [upd_same]; exact fun z => nomatch z
      · exact ((m2.ex ea).ex eb) l hl
    · exact dpa_mono ((msk_ex ea).trans (msk_new hx2)) ds
    · refine e2.trans fun a o ho => e' a o ?_
      have na : a ≠ x := fun z => by rw [z, hx] at ho; cases ho
      rw [msk_out (by simpa using na)]
      exact eb a o (ea a o ho)
theorem Sg.enterI {p C dx : Addr} (m : MOk (p :: Mc) H) (np : p ∉ Mc) (hp : H p = some (.ins C dx [])) (im : Im K (msk (p :: Mc) H) is) : Sg K Mc (msk [p] H) H is [(p, .ins C dx [])] := by
  refine ⟨Ex.refl _, fun l hl => ?_, List.nodup_cons.mpr ⟨by simp, List.nodup_nil⟩, im, ⟨⟨_, hp, [], rfl, rfl, .nil⟩, True.intro⟩⟩
  have : l ≠ p := fun z => np (z ▸ hl)
  rw [msk_out (by simpa using this)]
  exact m l (List.mem_cons_of_mem _ hl)
theorem Sg.ins (s : Sg K Mc He H is ms) {k : Nat} {l C dx : Addr} {nds : List (Str × Xd)} (e : ms[k]? = some (l, .ins C dx nds)) : ∃ fs, H l = some (.ins C dx fs) ∧ fs.map (·.1) = nds.map (·.1) ∧ XpAll K (msk (muA ms ++ Mc) H) (fs.map (·.2)) (nds.map (·.2)) := by
  obtain ⟨o, h1, fs, e1, h2, h3⟩ := s.mu.get e
  subst e1
  exact ⟨fs, h1, h2, h3⟩
/-- self.f = e, a new attribute -/
theorem z_fldG {k : Nat} {l C dx : Addr} {nds : List (Str × Xd)} {f cn : Str} {x : β} (s : Sg K Mc He H is ms) (e : ms[k]? = some (l, .ins C dx nds)) (t : Ct K cn C) (na : NoAttr K C f) (h : Hv K (muA ms ++ Mc) te σ H x) (ho : Ev ta σ H (.ref l)) (hz : nds.length < 1000) (hn : f ∉ nds.map (·.1))
    (q : ∀ y, y = x → ∀ H1, Sg K Mc He H1 is (ms.set k (l, .ins C dx (nds ++ [(f, Dx.toX y)]))) → tz D σ H1) : tSeq (sFld K ta te f) tz D σ H :=
  h H (Ex.refl H) s.mok _ fun v H1 e1 d => ho H1 e1 _ fun H2 e2 => by
    have s2 := (s.ex e1).ex e2
    obtain ⟨fs, h1, h2, h3⟩ := s2.ins e
    refine ⟨l, C, dx, fs, rfl, h1, t.cl, na, ?_, ?_⟩
    · have : (fs.map (·.1)).length = (nds.map (·.1)).length := by rw [h2]
      rw [List.length_map, List.length_map] at this
      omega
    · rw [putF_new (by rw [h2]; exact hn)]
      refine q x rfl _ (s2.set e ⟨_, rfl, ?_, ?_⟩)
      · rw [List.map_append, List.map_append, h2]; rfl
      · rw [List.map_append, List.map_append]
        exact dpa_app h3 (.cons (Dt.mono (msk_ex e2) d) .nil)
/-- self.f, of an own object -/
theorem hv_fldM {k : Nat} (i : Nat) {l C dx : Addr} {nds : List (Str × Xd)} {f cn : Str} {x : β} (s : Sg K Mc He H is ms) (e : ms[k]? = some (l, .ins C dx nds)) (t : Ct K cn C) (na : NoAttr K C f) (ho : Ev ta σ H (.ref l)) (nd : (nds.map (·.1)).Nodup) (hi : nds[i]? = some (f, Dx.toX x)) :
    Hv K (muA ms ++ Mc) (tFld K ta f) σ H x := fun H1 e1 m Q q =>
  ho H1 e1 _ fun H2 e2 => by
    have s2 := (s.ex e1).ex e2
    obtain ⟨fs, h1, h2, h3⟩ := s2.ins e
    obtain ⟨v, hv, hx⟩ := lookup_at (i := i) (f := f) (d := Dx.toX x) (by rw [h2]; exact nd) h3 (by rw [h2, List.getElem?_map, hi]; rfl) (by rw [List.getElem?_map, hi]; rfl)
    exact ⟨l, C, dx, fs, v, rfl, h1, t.cl, na, hv, q v H2 e2 hx⟩
/-- an own object, no longer changed -/
theorem Sg.frzI {l C dx : Addr} {nds : List (Str × Xd)} {cn : Str} (o : α) (t : Ct K cn C) (e : Dx.toX o = .obj cn (nds.map (·.1)) (nds.map (·.2))) (s : Sg K Mc He H is ((l, .ins C dx nds) :: ms)) : Sg K Mc He H ((.ref l, Dx.toX o) :: is) ms := by
  have sub : Ex (msk (muA ((l, Mv.ins C dx nds) :: ms) ++ Mc) H) (msk (muA ms ++ Mc) H) := msk_sub fun a ha => List.mem_cons_of_mem _ ha
  have nd := List.nodup_cons.mp s.nd
  obtain ⟨⟨u, h1, fs, e1, h2, h3⟩, h4⟩ := s.mu
  subst e1
  have nl : l ∉ muA ms ++ Mc := fun z => (List.mem_append.mp z).elim nd.1 (s.notc List.mem_cons_self)
  refine ⟨s.ext.trans (msk_sub fun a ha => List.mem_cons_of_mem _ ha), s.okc, nd.2, ⟨?_, s.im.mono sub⟩, h4.mono sub (Ex.refl H)⟩
  exact Dt.ofObj t e (by rw [msk_out nl]; exact h1) h2 (dpa_mono sub h3)
/-! ### reversed(range(n)), xs[::-1], what is in a tuple -/
def HRg (M : List Addr) (tr : L2.St → Hp → (Int → Int → Hp → Prop) → Prop) (σ : L2.St) (H : Hp) (a b : Int) : Prop := ∀ H1, Ex H H1 → MOk M H1 → ∀ Q : Int → Int → Hp → Prop, (∀ H2, Ex H1 H2 → Q a b H2) → tr σ H1 Q
theorem hv_revL {xs : List α} (h : HS K M te σ H xs) : Hv K M (tRevL K te) σ H xs.reverse := fun H1 e m Q q =>
  h H1 e m _ fun a vs H2 e2 s d => ⟨a, vs, rfl, s, fun p hp => by
    have e3 : Ex H2 (upd H2 p (.lst vs.reverse)) := Ex.new hp
    refine q _ _ (e2.trans e3) (Dt.ofList (SqL.of (msk_at (m.ex e2) hp)) ?_)
    have key : ∀ {us : List V} {zs : List α} {H : Hp}, Dts K H us zs → Dts K H us.reverse zs.reverse := by
      intro us zs
      induction zs generalizing us with
      | nil => intro H h; cases (show XpAll _ _ _ [] from h); exact Dts.nil
      | cons z zs ih =>
        intro H h
        cases (show XpAll _ _ _ (_ :: _) from h) with
        | cons a b =>
          rw [List.reverse_cons, List.reverse_cons]
          exact (ih b).app (Dts.cons a Dts.nil)
    exact (key d).mono (msk_ex e3)⟩
theorem hv_inVS {a : Str} {xs : List Str} (neg : Bool) (ha : Hv K M ta σ H a) (hb : Hv K M tb σ H (Tup.mk xs)) : Hv K M (tOp (rIn K neg) ta tb) σ H (if neg then !decide (a ∈ xs) else decide (a ∈ xs)) := fun H1 e m Q q =>
  ha H1 e m _ fun v H2 e2 d => hb H2 (e.trans e2) (m.ex e2) _ fun u H3 e3 d' => by
    obtain ⟨l, vs, rfl, s, ds⟩ := d'.tupv
    have ev := dts_strs ds
    subst ev
    have e1 := d.str
    subst e1
    refine ⟨l, xs.map V.str, rfl, .inr (ex_t msk_le s), rfl, flat_strs xs, ?_⟩
    rw [inV_strs]
    exact q _ H3 (e2.trans e3) (Dt.ofBool _)
theorem for_rangeC {lo c : Int} {n : Nat} {g : TG} {tb : TS} {D : Ends} {σ : L2.St} {H : Hp} (Pv : Nat → L2.St → Hp → Prop) (h0 : Pv 0 σ H)
    (hs : ∀ (i : Nat) σ H, i < n → Pv i σ H → g (.int (lo + (i : Int) * c)) σ H fun σ2 H2 => tb { D with nx := Pv (i + 1), ct := Pv (i + 1), bk := D.nx } σ2 H2) (hd : ∀ σ H, Pv n σ H → D.nx σ H) :
    ∃ W : Nat → Nat → L2.St → Hp → Prop, (∃ m, W 0 m σ H) ∧ ∀ i m σ H, W i m σ H →
      ((Itc lo c n).stop i H ∧ D.nx σ H) ∨ ((Itc lo c n).go i H ∧ ∃ N : L2.St → Hp → Prop, (∀ σ' H', N σ' H' → ∃ m', m' < m ∧ W (i + 1) m' σ' H') ∧ ∀ x H', (Itc lo c n).yld i H x H' → g x σ H' fun σ2 H2 => tb { D with nx := N, ct := N, bk := D.nx } σ2 H2) := by
  refine ⟨fun i m σ H => m = n - i ∧ i ≤ n ∧ Pv i σ H, ⟨n, by simp, Nat.zero_le _, h0⟩, ?_⟩
  rintro i m σ H ⟨rfl, hi, p⟩
  by_cases hlt : i < n
  · refine .inr ⟨hlt, Pv (i + 1), fun σ' H' p' => ⟨n - (i + 1), by omega, rfl, hlt, p'⟩, fun x H' y => ?_⟩
    obtain ⟨e, y⟩ := y
    subst e y
    exact hs i σ _ hlt p
  · have e : i = n := by omega
    subst e
    exact .inl ⟨Nat.le_refl _, hd σ H p⟩
theorem zq_forRR {tu : TS} {j : Nat} {n : Int} (s : Sg K Mc He H is ms) (h : Hv K (muA ms ++ Mc) te σ H n) (hn : 0 ≤ n ∧ n ≤ 100000) (Pv : Nat → L2.St → Hp → Prop) (h0 : ∀ H1, Sg K Mc He H1 is ms → Pv 0 σ H1)
    (hs : ∀ (i : Nat) (x : Int) σ' H', x = n - 1 - ((0 : Int) + (i : Int)) → i < n.toNat → Pv i σ' H' → tu { D with nx := Pv (i + 1), ct := Pv (i + 1), bk := tz D } (σ'.set j (some (.int x))) H') (hd : ∀ σ' H', Pv n.toNat σ' H' → tz D σ' H') : tSeq (tFor (iRevR (tRg1 te)) (gName j) tu) tz D σ H :=
  h H (Ex.refl H) s.mok _ fun v H1 e d => by
    refine ⟨n, d.int, by omega, by omega, by omega, by omega, for_rangeC (D := { D with nx := tz D }) Pv (h0 H1 (s.ex e)) (fun i σ' H' hi p => ?_) (fun σ' H' p => hd σ' H' (by rw [Int.sub_zero] at p; exact p))⟩
    rw [Int.sub_zero] at hi
    have e0 : 0 + (((n - 0).toNat : Nat) : Int) - 1 + (i : Int) * -1 = n - 1 - ((0 : Int) + (i : Int)) := by omega
    show tu { D with nx := Pv (i + 1), ct := Pv (i + 1), bk := tz D } (σ'.set j (some (.int (0 + (((n - 0).toNat : Nat) : Int) - 1 + (i : Int) * -1)))) H'
    rw [e0]
    exact hs i _ σ' H' rfl (by omega) p
end
end Ly

namespace Ly
open PySem PySem.Spec PyProof.Rows L2 Evl
open PySem.W (Datum DatumOrd Tup T3 T4 minOf)
/-! ### the items of a text: tuples of several shapes -/
inductive Itm where
  | box (w n : Int) (g : List Int)
  | glue (w st sh : Int) (fr : Bool)
  | pen (c : Int)
  | hyp (w n c : Int)
  | forced
  | note (n : Int)
  | label (s : Str)
  | page (w n f : Int) (s : Str)
  deriving DecidableEq
def Itm.kind : Itm → Str
  | .box _ _ _ => Str.ofString "box"
  | .glue _ _ _ _ => Str.ofString "glue"
  | .pen _ => Str.ofString "penalty"
  | .hyp _ _ _ => Str.ofString "hyphen"
  | .forced => Str.ofString "forced"
  | .note _ => Str.ofString "note"
  | .label _ => Str.ofString "label"
  | .page _ _ _ _ => Str.ofString "page"
def Itm.tag : Itm → Nat
  | .box _ _ _ => 0
  | .glue _ _ _ _ => 1
  | .pen _ => 2
  | .hyp _ _ _ => 3
  | .forced => 4
  | .note _ => 5
  | .label _ => 6
  | .page _ _ _ _ => 7
def Itm.at1 : Itm → Int
  | .box w _ _ => w | .glue w _ _ _ => w | .pen c => c | .hyp w _ _ => w | .note n => n | .page w _ _ _ => w | _ => 0
def Itm.at2 : Itm → Int
  | .box _ n _ => n | .glue _ s _ _ => s | .hyp _ n _ => n | .page _ n _ _ => n | _ => 0
def Itm.at3 : Itm → Int
  | .glue _ _ s _ => s | .hyp _ _ c => c | .page _ _ f _ => f | _ => 0
def Itm.fr : Itm → Bool
  | .glue _ _ _ b => b | _ => false
def Itm.gl : Itm → Tup Int
  | .box _ _ g => ⟨g⟩ | _ => ⟨[]⟩
def Itm.lab : Itm → Str
  | .page _ _ _ s => s | _ => Str.ofString ""
def Itm.x : Itm → List Xd
  | .box w n g => [.str (Str.ofString "box"), .int w, .int n, .tuple (g.map .int)]
  | .glue w s h b => [.str (Str.ofString "glue"), .int w, .int s, .int h, .bool b]
  | .pen c => [.str (Str.ofString "penalty"), .int c]
  | .hyp w n c => [.str (Str.ofString "hyphen"), .int w, .int n, .int c]
  | .forced => [.str (Str.ofString "forced")]
  | .note n => [.str (Str.ofString "note"), .int n]
  | .label s => [.str (Str.ofString "label"), .str s]
  | .page w n f s => [.str (Str.ofString "page"), .int w, .int n, .int f, .str s]
instance : Dx Itm := ⟨fun i => .tuple i.x⟩
instance : SomeX Itm := ⟨fun _ e => by cases e⟩
theorem Itm.tag_le (i : Itm) : i.tag ≤ 7 := by cases i <;> simp only [Itm.tag] <;> decide
theorem kd_box (i : Itm) : (i.kind = Str.ofString "box") = (i.tag = 0) := by
  cases i <;> simp only [Itm.kind, Itm.tag] <;> exact propext ⟨fun h => by first | rfl | (revert h; decide +kernel), fun h => by first | rfl | (revert h; decide)⟩
theorem kd_glue (i : Itm) : (i.kind = Str.ofString "glue") = (i.tag = 1) := by
  cases i <;> simp only [Itm.kind, Itm.tag] <;> exact propext ⟨fun h => by first | rfl | (revert h; decide +kernel), fun h => by first | rfl | (revert h; decide)⟩
theorem kd_pen (i : Itm) : (i.kind = Str.ofString "penalty") = (i.tag = 2) := by
  cases i <;> simp only [Itm.kind, Itm.tag] <;> exact propext ⟨fun h => by first | rfl | (revert h; decide +kernel), fun h => by first | rfl | (revert h; decide)⟩
theorem kd_hyp (i : Itm) : (i.kind = Str.ofString "hyphen") = (i.tag = 3) := by
  cases i <;> simp only [Itm.kind, Itm.tag] <;> exact propext ⟨fun h => by first | rfl | (revert h; decide +kernel), fun h => by first | rfl | (revert h; decide)⟩
theorem kd_forced (i : Itm) : (i.kind = Str.ofString "forced") = (i.tag = 4) := by
  cases i <;> simp only [Itm.kind, Itm.tag] <;> exact propext ⟨fun h => by first | rfl | (revert h; decide +kernel), fun h => by first | rfl | (revert h; decide)⟩
theorem kd_note (i : Itm) : (i.kind = Str.ofString "note") = (i.tag = 5) := by
  cases i <;> simp only [Itm.kind, Itm.tag] <;> exact propext ⟨fun h => by first | rfl | (revert h; decide +kernel), fun h => by first | rfl | (revert h; decide)⟩
theorem kd_label (i : Itm) : (i.kind = Str.ofString "label") = (i.tag = 6) := by
  cases i <;> simp only [Itm.kind, Itm.tag] <;> exact propext ⟨fun h => by first | rfl | (revert h; decide +kernel), fun h => by first | rfl | (revert h; decide)⟩
theorem kd_page (i : Itm) : (i.kind = Str.ofString "page") = (i.tag = 7) := by
  cases i <;> simp only [Itm.kind, Itm.tag] <;> exact propext ⟨fun h => by first | rfl | (revert h; decide +kernel), fun h => by first | rfl | (revert h; decide)⟩
section
variable {K : PySem.W.Frag} {Mc M : List Addr} {He H H1 : Hp} {is : Ims} {ms : Mus} {σ : L2.St} {te ta tb : TE} {tz : TS} {D : Ends} {i : Itm}
variable {α β γ δ : Type} [DecidableEq α] [Dx α] [DecidableEq β] [Dx β]
theorem hv_tupX {ds : List Xd} {tr : TA} (y : α) (h : HD K M tr σ H ds) (hl : ds.length ≤ 100000) (e : Dx.toX y = .tuple ds) : Hv K M (tTup tr) σ H y := fun H1 e1 m Q q =>
  h H1 e1 m _ fun vs H2 e2 d => ⟨sz_of (by rw [dpa_len d]; exact hl), fun p hp => by
    have e3 : Ex H2 (upd H2 p (.tup vs)) := Ex.new hp
    refine q _ _ (e2.trans e3) ?_
    show Xp _ _ _ (Dx.toX y)
    rw [e]
    exact .tup (SqT.of (msk_at (m.ex e2) hp)) (dpa_mono (msk_ex e3) d)⟩
theorem hv_atX {x : α} {ds : List Xd} {y : β} (k : Nat) (h : Hv K M te σ H x) (e : Dx.toX x = .tuple ds) (hd : ds[k]? = some (Dx.toX y)) : Hv K M (tOp (rIxT K) te (tC (.int (k : Int)))) σ H y := fun H1 e1 m Q q =>
  h H1 e1 m _ fun v H2 e2 d => by
    have d' : Xp K (msk M H2) v (.tuple ds) := by rw [← e]; exact d
    cases d' with
    | tup s a =>
      obtain ⟨w, h1, h2⟩ := dpa_at a hd
      exact ⟨_, _, (k : Int), w, rfl, rfl, ex_t msk_le s, at_of (j := k) rfl h1, q w H2 e2 h2⟩
theorem hv_it0 (h : Hv K M te σ H i) : Hv K M (tOp (rIxT K) te (tC (.int 0))) σ H i.kind := hv_atX 0 h rfl (by cases i <;> rfl)
theorem hv_it1 (h : Hv K M te σ H i) (s : i.tag ≠ 4 ∧ i.tag ≠ 6) : Hv K M (tOp (rIxT K) te (tC (.int 1))) σ H i.at1 := hv_atX 1 h rfl (by cases i <;> first | rfl | (exfalso; simp [Itm.tag] at s))
theorem hv_it2 (h : Hv K M te σ H i) (s : i.tag ≠ 2 ∧ i.tag ≠ 4 ∧ i.tag ≠ 5 ∧ i.tag ≠ 6) : Hv K M (tOp (rIxT K) te (tC (.int 2))) σ H i.at2 := hv_atX 2 h rfl (by cases i <;> first | rfl | (exfalso; simp [Itm.tag] at s))
theorem hv_it3 (h : Hv K M te σ H i) (s : i.tag = 1 ∨ i.tag = 3 ∨ i.tag = 7) : Hv K M (tOp (rIxT K) te (tC (.int 3))) σ H i.at3 := hv_atX 3 h rfl (by cases i <;> first | rfl | (exfalso; simp [Itm.tag] at s))
theorem hv_it4 (h : Hv K M te σ H i) (s : i.tag = 1) : Hv K M (tOp (rIxT K) te (tC (.int 4))) σ H i.fr := hv_atX 4 h rfl (by cases i <;> first | rfl | (exfalso; simp [Itm.tag] at s))
theorem hv_itg (h : Hv K M te σ H i) (s : i.tag = 0) : Hv K M (tOp (rIxT K) te (tC (.int 3))) σ H i.gl := hv_atX 3 h rfl (by cases i <;> first | rfl | (exfalso; simp [Itm.tag] at s))
theorem hv_itl (h : Hv K M te σ H i) (s : i.tag = 7) : Hv K M (tOp (rIxT K) te (tC (.int 4))) σ H i.lab := hv_atX 4 h rfl (by cases i <;> first | rfl | (exfalso; simp [Itm.tag] at s))
theorem hv_neB {i j : Bool} (ha : Hv K M ta σ H i) (hb : Hv K M tb σ H j) : Hv K M (tOp rNe ta tb) σ H (!decide (i = j)) := fun H1 e m Q q =>
  ha H1 e m _ fun v H2 e2 d => hb H2 (e.trans e2) (m.ex e2) _ fun u H3 e3 d' => by
    rw [d.bool, d'.bool]
    exact ⟨rfl, q _ H3 (e2.trans e3) (by rw [show decide (V.bl i = V.bl j) = decide (i = j) from decide_eq_decide.mpr ⟨V.bl.inj, fun z => by rw [z]⟩]; exact Dt.ofBool _)⟩
/-- a tuple of texts of the module -/
theorem hv_gtup {a : Addr} {xs : List Str} (h : ∀ H, SqT K H a (xs.map V.str)) : Hv K M (tC (.ref a)) σ H (Tup.mk xs) := fun H1 e1 m Q q => by
  refine q _ H1 (Ex.refl _) (Dt.ofTupv (h _) ?_)
  have key : ∀ (ys : List Str) (H : Hp), Dts K H (ys.map V.str) ys := by
    intro ys
    induction ys with
    | nil => intro H; exact Dts.nil
    | cons y ys ih => intro H; exact Dts.cons (Dt.ofStr y) (ih H)
  exact key xs _
end
theorem of_or {a b : Bool} (h : (a || b) = true) : a = true ∨ b = true := by simpa using h
end Ly

namespace Ly
open PySem PySem.Spec PyProof.Rows L2 Evl
open PySem.W (Datum DatumOrd Tup T3 T4 minOf)
/-! ### loops as tables and searches -/
theorem foldl_seq {α S : Type} {f : S → α → S} (xs : List α) (st : Nat → S) (h : ∀ i x, xs[i]? = some x → f (st i) x = st (i + 1)) : xs.foldl f (st 0) = st xs.length := by
  induction xs generalizing st with
  | nil => rfl
  | cons x xs ih =>
    rw [List.foldl_cons, h 0 x rfl]
    rw [ih (fun i => st (i + 1)) (fun i y hy => h (i + 1) y (by simpa using hy))]
    rfl
theorem snoc_at {α : Type} {st : Nat → List α} {w : Nat → α} (h0 : st 0 = [w 0]) (h : ∀ i, st (i + 1) = st i ++ [w (i + 1)]) : ∀ n, st n = (List.range (n + 1)).map w
  | 0 => by rw [h0]; rfl
  | n + 1 => by rw [h, snoc_at h0 h n, List.range_succ (n := n + 1), List.map_append]; rfl
theorem tab_len {α : Type} (w : Nat → α) (n : Nat) : ((List.range n).map w).length = n := by rw [List.length_map, List.length_range]
theorem tab_at {α : Type} (w : Nat → α) {n j : Nat} (d : α) (h : j < n) : ((List.range n).map w).getD j d = w j := by
  rw [List.getD_eq_getElem?_getD, List.getElem?_map, List.getElem?_range h]; rfl
theorem tab_last {α : Type} (w : Nat → α) (n : Nat) (d : α) : ((List.range (n + 1)).map w).getD (((List.range (n + 1)).map w).length - 1) d = w n := by
  rw [tab_len, Nat.add_sub_cancel, tab_at w d (Nat.lt_succ_self n)]
theorem tab_snoc {α : Type} (w : Nat → α) (n : Nat) : (List.range (n + 1)).map w ++ [w (n + 1)] = (List.range (n + 1 + 1)).map w := by
  rw [List.range_succ (n := n + 1), List.map_append]; rfl
theorem tab_rev {α : Type} (w : Nat → α) {n j : Nat} (d : α) (h : j ≤ n) : (((List.range (n + 1)).map w).reverse).getD j d = w (n - j) := by
  rw [List.getD_eq_getElem?_getD, List.getElem?_reverse (by rw [tab_len]; omega), tab_len, ← List.getD_eq_getElem?_getD, tab_at w d (by omega), show n + 1 - 1 - j = n - j by omega]
theorem loopNR_all' {ρ S : Type} {f : S → Int → Lp ρ S} {s : S} : ∀ (n : Nat) (lo : Int), (∀ i : Nat, i < n → f s (lo + (i : Int)) = .nxt s) → loopNR f n lo s = .inr s
  | 0, lo, _ => rfl
  | n + 1, lo, h => by
    have h0 := h 0 (Nat.succ_pos n)
    rw [show lo + ((0 : Nat) : Int) = lo by omega] at h0
    rw [loopNR]
    rw [h0]
    exact loopNR_all' n (lo + 1) fun i hi => by rw [show lo + 1 + (i : Int) = lo + ((i + 1 : Nat) : Int) by omega]; exact h (i + 1) (by omega)
/-- a search over numbers: the first that ends it -/
theorem loopNR_any {ρ S : Type} {f : S → Int → Lp ρ S} {s : S} {r : ρ} : ∀ (n : Nat) (lo : Int), (∀ i : Nat, i < n → f s (lo + (i : Int)) = .nxt s ∨ f s (lo + (i : Int)) = .ret r) → (∃ i : Nat, i < n ∧ f s (lo + (i : Int)) = .ret r) → loopNR f n lo s = .inl r
  | 0, lo, _, ⟨i, hi, _⟩ => absurd hi (Nat.not_lt_zero i)
  | n + 1, lo, h, ⟨i, hi, e⟩ => by
    have h0 := h 0 (Nat.succ_pos n)
    rw [show lo + ((0 : Nat) : Int) = lo by omega] at h0
    rw [loopNR]
    rcases h0 with h0 | h0
    · rw [h0]
      cases i with
      | zero => rw [show lo + ((0 : Nat) : Int) = lo by omega, h0] at e; cases e
      | succ i =>
        exact loopNR_any n (lo + 1) (fun j hj => by rw [show lo + 1 + (j : Int) = lo + ((j + 1 : Nat) : Int) by omega]; exact h (j + 1) (by omega)) ⟨i, by omega, by rw [show lo + 1 + (i : Int) = lo + ((i + 1 : Nat) : Int) by omega]; exact e⟩
    · rw [h0]
theorem loopL_all' {α ρ S : Type} {f : S → α → Lp ρ S} {s : S} : ∀ (xs : List α), (∀ x ∈ xs, f s x = .nxt s) → loopL f xs s = .inr s
  | [], _ => rfl
  | x :: xs, h => by
    rw [loopL]
    rw [h x List.mem_cons_self]
    exact loopL_all' xs fun y hy => h y (List.mem_cons_of_mem _ hy)
theorem loopL_any {α ρ S : Type} {f : S → α → Lp ρ S} {s : S} {r : ρ} : ∀ (xs : List α), (∀ x ∈ xs, f s x = .nxt s ∨ f s x = .ret r) → (∃ x ∈ xs, f s x = .ret r) → loopL f xs s = .inl r
  | [], _, ⟨_, h, _⟩ => by cases h
  | x :: xs, h, ⟨y, hy, e⟩ => by
    rw [loopL]
    rcases h x List.mem_cons_self with h0 | h0
    · rw [h0]
      rcases List.mem_cons.mp hy with rfl | hy
      · rw [h0] at e; cases e
      · exact loopL_any xs (fun z hz => h z (List.mem_cons_of_mem _ hz)) ⟨y, hy, e⟩
    · rw [h0]
theorem getD_get {α : Type} {xs : List α} {i : Nat} (d : α) (h : i < xs.length) : xs[i]? = some (xs.getD i d) := by
  rw [List.getD_eq_getElem?_getD, List.getElem?_eq_getElem h]; rfl
theorem getD_map {α β : Type} {xs : List α} {i : Nat} (f : α → β) (d : α) (e : β) (h : i < xs.length) : (xs.map f).getD i e = f (xs.getD i d) := by
  rw [List.getD_eq_getElem?_getD, List.getElem?_map, getD_get d h]; rfl
theorem irng_getD {lo : Int} {n i : Nat} (d : Int) (h : i < n) : (irng lo n).getD i d = lo + (i : Int) := by
  rw [List.getD_eq_getElem?_getD, irng_get h]; rfl
/-- what a part of a list has -/
theorem cut_any {xs : List α} {P : α → Bool} {a b : Nat} (d : α) (h : a ≤ b) (hb : b ≤ xs.length) : (cutL xs (some (a : Int)) (some (b : Int))).any P = true ↔ ∃ i, a ≤ i ∧ i < b ∧ P (xs.getD i d) = true := by
  rw [cutL_in, Nat.min_eq_left (Nat.le_trans h hb), Nat.min_eq_left hb, List.any_eq_true]
  constructor
  · rintro ⟨x, hx, p⟩
    obtain ⟨k, hk⟩ := List.getElem?_of_mem hx
    rw [List.getElem?_take] at hk
    split at hk
    · rw [List.getElem?_drop] at hk
      refine ⟨a + k, by omega, by omega, ?_⟩
      rw [List.getD_eq_getElem?_getD, hk]
      exact p
    · cases hk
  · rintro ⟨i, h1, h2, p⟩
    refine ⟨xs.getD i d, ?_, p⟩
    refine List.mem_of_getElem? (i := i - a) ?_
    rw [List.getElem?_take, if_pos (by omega), List.getElem?_drop, show a + (i - a) = i by omega]
    exact getD_get d (by omega)
/-! ### the first from a place on -/
def wv (marks : List Bool) (b : Int) : Nat → Int
  | 0 => b
  | k + 1 => if marks.getD (marks.length - (k + 1)) false = true then ((marks.length - (k + 1) : Nat) : Int) else wv marks b k
/-- v is the first place from j on with a mark, or b -/
def First (marks : List Bool) (b : Int) (j : Nat) (v : Int) : Prop :=
  (v = b ∧ ∀ i, j ≤ i → i < marks.length → marks.getD i false = false) ∨ (∃ i : Nat, v = (i : Int) ∧ j ≤ i ∧ i < marks.length ∧ marks.getD i false = true ∧ ∀ i', j ≤ i' → i' < i → marks.getD i' false = false)
theorem wv_first (marks : List Bool) (b : Int) : ∀ k, k ≤ marks.length → First marks b (marks.length - k) (wv marks b k)
  | 0, _ => .inl ⟨rfl, fun i h1 h2 => by omega⟩
  | k + 1, h => by
    unfold wv
    by_cases q : marks.getD (marks.length - (k + 1)) false = true
    · rw [if_pos q]
      exact .inr ⟨_, rfl, Nat.le_refl _, by omega, q, fun i' h1 h2 => by omega⟩
    · rw [if_neg q]
      have q' : marks.getD (marks.length - (k + 1)) false = false := by simpa using q
      have step : ∀ i, marks.length - (k + 1) ≤ i → i = marks.length - (k + 1) ∨ marks.length - k ≤ i := fun i h => by omega
      rcases wv_first marks b k (by omega) with ⟨e, h1⟩ | ⟨i, e, h1, h2, h3, h4⟩
      · refine .inl ⟨e, fun i a c => ?_⟩
        rcases step i a with rfl | z
        · exact q'
        · exact h1 i z c
      · refine .inr ⟨i, e, by omega, h2, h3, fun i' a c => ?_⟩
        rcases step i' a with rfl | z
        · exact q'
        · exact h4 i' z c
/-- the place behind the last one before j with a mark, or 0 -/
def kb (marks : Nat → Bool) : Nat → Int
  | 0 => 0
  | j + 1 => if marks j = true then ((j : Nat) : Int) + 1 else kb marks j
def Last (marks : Nat → Bool) (j : Nat) (v : Int) : Prop :=
  (v = 0 ∧ ∀ i, i < j → marks i = false) ∨ (∃ i : Nat, v = (i : Int) + 1 ∧ i < j ∧ marks i = true ∧ ∀ i', i < i' → i' < j → marks i' = false)
theorem kb_last (marks : Nat → Bool) : ∀ j, Last marks j (kb marks j)
  | 0 => .inl ⟨rfl, fun i h => absurd h (Nat.not_lt_zero i)⟩
  | j + 1 => by
    unfold kb
    by_cases q : marks j = true
    · rw [if_pos q]
      exact .inr ⟨j, rfl, Nat.lt_succ_self j, q, fun i' h1 h2 => by omega⟩
    · rw [if_neg q]
      have q' : marks j = false := by simpa using q
      rcases kb_last marks j with ⟨e, h1⟩ | ⟨i, e, h1, h2, h3⟩
      · refine .inl ⟨e, fun i a => ?_⟩
        rcases Nat.lt_succ_iff_lt_or_eq.mp a with z | rfl
        · exact h1 i z
        · exact q'
      · refine .inr ⟨i, e, by omega, h2, fun i' a c => ?_⟩
        rcases Nat.lt_succ_iff_lt_or_eq.mp c with z | rfl
        · exact h3 i' a z
        · exact q'
end Ly

namespace Ly
open PySem PySem.Spec PyProof.Rows L2 Evl
open PySem.W (Datum DatumOrd Tup T3 T4 minOf)
/-! ### items are data: == -/
def Itm.d : Itm → List PyData
  | .box w n g => [.str (Str.ofString "box"), .int w, .int n, .tuple (g.map .int)]
  | .glue w s h b => [.str (Str.ofString "glue"), .int w, .int s, .int h, .bool b]
  | .pen c => [.str (Str.ofString "penalty"), .int c]
  | .hyp w n c => [.str (Str.ofString "hyphen"), .int w, .int n, .int c]
  | .forced => [.str (Str.ofString "forced")]
  | .note n => [.str (Str.ofString "note"), .int n]
  | .label s => [.str (Str.ofString "label"), .str s]
  | .page w n f s => [.str (Str.ofString "page"), .int w, .int n, .int f, .str s]
theorem Itm.d_kind (i : Itm) : ∃ r, i.d = .str i.kind :: r := by cases i <;> exact ⟨_, rfl⟩
theorem kind_tag {i j : Itm} (h : i.kind = j.kind) : i.tag = j.tag := by
  have k0 := kd_box i; have k1 := kd_glue i; have k2 := kd_pen i; have k3 := kd_hyp i; have k4 := kd_forced i; have k5 := kd_note i; have k6 := kd_label i; have k7 := kd_page i
  rw [h] at k0 k1 k2 k3 k4 k5 k6 k7
  rw [kd_box] at k0
  rw [kd_glue] at k1
  rw [kd_pen] at k2
  rw [kd_hyp] at k3
  rw [kd_forced] at k4
  rw [kd_note] at k5
  rw [kd_label] at k6
  rw [kd_page] at k7
  have t1 := Itm.tag_le i
  have t2 := Itm.tag_le j
  have e0 := k0.to_iff; have e1 := k1.to_iff; have e2 := k2.to_iff; have e3 := k3.to_iff; have e4 := k4.to_iff; have e5 := k5.to_iff; have e6 := k6.to_iff; have e7 := k7.to_iff
  omega
theorem eqvI (a b : Int) : PyData.eqv (.int a) (.int b) = decide (a = b) := Datum.eqv (α := Int) a b
theorem eqvS (a b : Str) : PyData.eqv (.str a) (.str b) = decide (a = b) := Datum.eqv (α := Str) a b
theorem eqvB (a b : Bool) : PyData.eqv (.bool a) (.bool b) = decide (a = b) := Datum.eqv (α := Bool) a b
theorem eqvG (a b : List Int) : PyData.eqv (.tuple (a.map .int)) (.tuple (b.map .int)) = decide (a = b) := by
  have := Datum.eqv (α := Tup Int) ⟨a⟩ ⟨b⟩
  refine Eq.trans this (decide_eq_decide.mpr ⟨fun e => by cases e; rfl, fun e => by rw [e]⟩)
theorem Itm.eqv (a b : Itm) : PyData.eqvAll a.d b.d = decide (a = b) := by
  by_cases h : a.kind = b.kind
  · have ht := kind_tag h
    cases a <;> cases b <;> first | (exfalso; simp [Itm.tag] at ht; done) | (simp only [Itm.d, PyData.eqvAll, eqvI, eqvS, eqvB, eqvG]; simp [Bool.and_assoc])
  · obtain ⟨r, e⟩ := a.d_kind
    obtain ⟨r', e'⟩ := b.d_kind
    rw [e, e', PyData.eqvAll, eqvS, decide_eq_false h, Bool.false_and]
    exact (decide_eq_false fun z => h (by rw [z])).symm
instance : Datum Itm where
  toD i := .tuple i.d
  plain i := by
    have hg : ∀ g : List Int, PyData.plain (.tuple (g.map .int)) = true := fun g => Datum.plain (α := Tup Int) ⟨g⟩
    cases i <;> simp only [Itm.d, PyData.plain, PyData.plainAll, Bool.and_self, Bool.and_true, Bool.true_and]
    rename_i w n g
    have := hg g
    simpa only [PyData.plain] using this
  eqv a b := by simp only [PyData.eqv]; exact Itm.eqv a b
  depth := 2
  depth_le i := by
    have hg : ∀ g : List Int, PyData.depth (.tuple (g.map .int)) ≤ 1 := fun g => Datum.depth_le (α := Tup Int) ⟨g⟩
    cases i <;> simp only [Itm.d, PyData.depth, PyData.depthAll] <;> try (first | decide | omega)
    rename_i w n g
    have := hg g
    simp only [PyData.depth] at this
    omega
theorem ints_link {K : PySem.W.Frag} {H : Hp} : ∀ {g : List Int} {vs : List V}, XpAll K H vs (g.map Xd.int) → DpAll K H vs (g.map PyData.int)
  | [], _, h => by cases h; exact .nil
  | x :: xs, _, h => by
    cases h with
    | cons a b => cases a; exact .cons (.int _) (ints_link b)
instance : DxD Itm := ⟨fun {K H v i} h => by
  cases h with
  | tup s a =>
    refine .tup s ?_
    cases i with
    | box w n g =>
      cases a with | cons a1 a => cases a with | cons a2 a => cases a with | cons a3 a => cases a with | cons a4 a =>
      cases a
      cases a1; cases a2; cases a3
      cases a4 with | tup s2 b => exact .cons (.str _) (.cons (.int _) (.cons (.int _) (.cons (.tup s2 (ints_link b)) .nil)))
    | glue w s h b =>
      cases a with | cons a1 a => cases a with | cons a2 a => cases a with | cons a3 a => cases a with | cons a4 a => cases a with | cons a5 a =>
      cases a
      cases a1; cases a2; cases a3; cases a4; cases a5
      exact .cons (.str _) (.cons (.int _) (.cons (.int _) (.cons (.int _) (.cons (.bl _) .nil))))
    | pen c =>
      cases a with | cons a1 a => cases a with | cons a2 a =>
      cases a
      cases a1; cases a2
      exact .cons (.str _) (.cons (.int _) .nil)
    | hyp w n c =>
      cases a with | cons a1 a => cases a with | cons a2 a => cases a with | cons a3 a => cases a with | cons a4 a =>
      cases a
      cases a1; cases a2; cases a3; cases a4
      exact .cons (.str _) (.cons (.int _) (.cons (.int _) (.cons (.int _) .nil)))
    | forced =>
      cases a with | cons a1 a =>
      cases a
      cases a1
      exact .cons (.str _) .nil
    | note n =>
      cases a with | cons a1 a => cases a with | cons a2 a =>
      cases a
      cases a1; cases a2
      exact .cons (.str _) (.cons (.int _) .nil)
    | label s =>
      cases a with | cons a1 a => cases a with | cons a2 a =>
      cases a
      cases a1; cases a2
      exact .cons (.str _) (.cons (.str _) .nil)
    | page w n f s =>
      cases a with | cons a1 a => cases a with | cons a2 a => cases a with | cons a3 a => cases a with | cons a4 a => cases a with | cons a5 a =>
      cases a
      cases a1; cases a2; cases a3; cases a4; cases a5
      exact .cons (.str _) (.cons (.int _) (.cons (.int _) (.cons (.int _) (.cons (.str _) .nil))))⟩
end Ly
namespace Ly
theorem loopN_ind {S : Type} {f : S → Int → S} (P : Nat → S → Prop) (lo : Int) (n : Nat) (s0 : S) (h0 : P 0 s0) (h : ∀ i s, i < n → P i s → P (i + 1) (f s (lo + (i : Int)))) : P n (loopN f n lo s0) := by
  have key : ∀ m i s, i + m = n → P i s → P n (loopN f m (lo + (i : Int)) s) := by
    intro m
    induction m with
    | zero => intro i s e p; have : i = n := by omega
              subst this; exact p
    | succ m ih =>
      intro i s e p
      rw [loopN, show lo + (i : Int) + 1 = lo + ((i + 1 : Nat) : Int) by omega]
      exact ih (i + 1) _ (by omega) (h i s (by omega) p)
  have := key n 0 s0 (by omega) h0
  rwa [show lo + ((0 : Nat) : Int) = lo by omega] at this
theorem sum_cut (xs : List Int) {a b : Nat} (h : a ≤ b) : (xs.take b).sum - (xs.take a).sum = ((xs.drop a).take (b - a)).sum := by
  have e : xs.take b = xs.take a ++ (xs.drop a).take (b - a) := by
    rw [show b = a + (b - a) by omega, List.take_add, show a + (b - a) - a = b - a by omega]
  rw [e, List.sum_append]
  omega
theorem cutL_dt {α : Type} {xs : List α} {a b : Nat} (h : a ≤ b) (hb : b ≤ xs.length) : cutL xs (some (a : Int)) (some (b : Int)) = (xs.drop a).take (b - a) := by
  rw [cutL_in, Nat.min_eq_left (Nat.le_trans h hb), Nat.min_eq_left hb]
end Ly

namespace Ly
open PySem PySem.Spec PyProof.Rows L2 Evl
open PySem.W (Datum DatumOrd Tup T3 T4 minOf)
section
variable {K : PySem.W.Frag} {Mc M : List Addr} {He H H1 : Hp} {is : Ims} {ms : Mus} {σ : L2.St} {te ta tb : TE} {tz : TS} {D : Ends}
variable {α β γ : Type} [DecidableEq α] [Dx α] [DecidableEq β] [Dx β]
/-- all parameters given by keywords -/
theorem kall {x qual : Str} {st : Stmt} {f : Addr} {fd : FuncData} {ps ks : List Str} (F : Fun K x qual st f fd) (n : Nat)
    (h : ∀ (kV doc pm : Value) (an : Option Addr) (cdv ct : Value) (us ws : List Value), us.length = n → ws.length = ks.length → bindArgs (PySem.W.fnOf x qual (defArgs st) (defBody st) (defScope st) .none kV doc pm an cdv ct) ⟨us, ks.zip ws⟩ = pure (ps.zip (us ++ ws))) :
    KBn K fd ps n ks (fun us ws => us ++ ws) (fun vs zs => vs ++ zs) := by
  obtain ⟨oc, od, kV, doc, pm, an, cdv, ct, osl, rfl, lk, hcd⟩ := F.ex
  exact ⟨fun s us ws _ l1 l2 => .of_eq (h kV doc pm an cdv ct us ws l1 l2), fun r1 r2 => r1.append r2⟩
/-- C(k = v, ..) -/
theorem hv_makeK {args : γ → List Xd} {pre : γ → Prop} {F : γ → β} {tr : TA} {E : XK} {cn : Str} {C : Addr} {n : Nat} (c : γ) (t : Ct K cn C) (h : HD K M tr σ H (args c)) (hn : (args c).length = n) (p : pre c) :
    Hv K M (tMakeK C 0 n (PrI K cn args pre F) (fun vs zs => vs ++ zs) E tNil tr) σ H (F c) := fun H1 e1 mk Q q =>
  h H1 e1 mk _ fun vs H2 e2 ds => ⟨rfl, by rw [dpa_len ds]; exact hn, fun x dx hx hdx ne => by
    have m2 := mk.ex e2
    have hx2 : upd H2 dx (.own x) x = none := by rw [upd_ne (fun z => ne z.symm)]; exact hx
    have ea : Ex H2 (upd H2 dx (.own x)) := Ex.new hdx
    have eb : Ex (upd H2 dx (.own x)) (upd (upd H2 dx (.own x)) x (.ins C dx [])) := Ex.new hx2
    have hxM : x ∉ M := fun z => m2 x z hx
    refine ⟨M, x, C, dx, vs, c, rfl, ?_, hxM, t.ns, upd_same, ?_, p, fun H' e' d => ⟨rfl, q _ _ ?_ d⟩⟩
    · intro l hl
      rcases List.mem_cons.mp hl with rfl | hl
      · rw [upd_same]; exact fun z => nomatch z
      · exact ((m2.ex ea).ex eb) l hl
    · exact dpa_mono ((msk_ex ea).trans (msk_new hx2)) ds
    · refine e2.trans fun a o ho => e' a o ?_
      have na : a ≠ x := fun z => by rw [z, hx] at ho; cases ho
      rw [msk_out (by simpa using na)]
      exact eb a o (ea a o ho)⟩
/-- lists of several kinds, written or read by place -/
theorem hv_lstX {ds : List Xd} {tr : TA} (y : α) (h : HD K M tr σ H ds) (hl : ds.length ≤ 100000) (e : Dx.toX y = .list ds) : Hv K M (tLst tr) σ H y := fun H1 e1 m Q q =>
  h H1 e1 m _ fun vs H2 e2 d => ⟨sz_of (by rw [dpa_len d]; exact hl), fun p hp => by
    have e3 : Ex H2 (upd H2 p (.lst vs)) := Ex.new hp
    refine q _ _ (e2.trans e3) ?_
    show Xp _ _ _ (Dx.toX y)
    rw [e]
    exact .lst (SqL.of (msk_at (m.ex e2) hp)) (dpa_mono (msk_ex e3) d)⟩
theorem hv_atL {x : α} {ds : List Xd} {i : Int} (y : β) (h : Hv K M te σ H x) (hb : Hv K M tb σ H i) (e : Dx.toX x = .list ds) (h0 : 0 ≤ i) (hd : ds[i.toNat]? = some (Dx.toX y)) : Hv K M (tOp (rIxL K) te tb) σ H y := fun H1 e1 m Q q =>
  h H1 e1 m _ fun v H2 e2 d => hb H2 (e1.trans e2) (m.ex e2) _ fun u H3 e3 d3 => by
    have d' : Xp K (msk M H2) v (.list ds) := by rw [← e]; exact d
    cases d' with
    | lst s a =>
      obtain ⟨w, h1, h2⟩ := dpa_at a hd
      exact ⟨_, _, i, w, rfl, d3.int, ex_l (msk_le.trans e3) s, at_of (Int.toNat_of_nonneg h0).symm h1, q w H3 (e2.trans e3) (Dt.mono (msk_ex e3) h2)⟩
/-- the numbers of a style: [width, first, rest, justify, tolerance, rag] -/
structure Lv where
  w : Int
  f : Int
  r : Int
  j : Bool
  t : Int
  g : Int
  deriving DecidableEq
instance : Dx Lv := ⟨fun v => .list [.int v.w, .int v.f, .int v.r, .bool v.j, .int v.t, .int v.g]⟩
theorem hv_intB {b : Bool} (ha : Hv K M ta σ H b) : Hv K M (tCB (fun xs H Q => (∃ i, xs = [.int i] ∧ Q (.int i) H) ∨ ∃ k, xs = [.bl k] ∧ Q (.int (if k then 1 else 0)) H) (tCons ta tNil)) σ H (if b = true then (1 : Int) else 0) := fun H1 e m Q q =>
  ha H1 e m _ fun v H2 e2 d => .inr ⟨b, by rw [d.bool], q _ H2 e2 (Dt.ofInt _)⟩
theorem hv_abs {i : Int} (ha : Hv K M ta σ H i) : Hv K M (tCB (fun xs H Q => ∃ i, xs = [.int i] ∧ Q (.int (if i < 0 then -i else i)) H) (tCons ta tNil)) σ H (if i < 0 then -i else i) := fun H1 e m Q q =>
  ha H1 e m _ fun v H2 e2 d => ⟨i, by rw [d.int], q _ H2 e2 (Dt.ofInt _)⟩
end
theorem cube_div {i m : Int} (h0 : 0 < m) (h1 : m ≤ 1000000000000) : CDivW i (m * m * m) := by
  have a : 0 < m * m := Int.mul_pos h0 h0
  have b : m * m ≤ 1000000000000 * 1000000000000 := Int.mul_le_mul h1 h1 (by omega) (by omega)
  have c : 0 < m * m * m := Int.mul_pos a h0
  have d : m * m * m ≤ 1000000000000 * 1000000000000 * 1000000000000 := Int.mul_le_mul b h1 (by omega) (by omega)
  refine wide_div (b := 128) c ?_ (by decide) (by decide)
  have e : (1000000000000 * 1000000000000 * 1000000000000 : Int) < 2 ^ 128 := by decide
  omega
end Ly

namespace Ly
open PySem PySem.Spec PyProof.Rows L2 Evl
open PySem.W (Datum DatumOrd Tup T3 T4 minOf)
/-! ### a new list of several kinds, handed out by a def, then changed -/
section
variable {K : PySem.W.Frag} {Mc M : List Addr} {He H H1 : Hp} {is : Ims} {ms : Mus} {σ : L2.St} {te ta tb : TE} {tz : TS} {D : Ends}
variable {α β γ : Type} [DecidableEq α] [Dx α] [DecidableEq β] [Dx β]
def HFx (K : PySem.W.Frag) (M : List Addr) (te : TE) (σ : L2.St) (H : Hp) (ds : List Xd) : Prop :=
  ∀ H1, Ex H H1 → MOk M H1 → ∀ Q : VK, (∀ p vs H3, H1 p = none → Ex H1 H3 → H3 p = some (.lst vs) → XpAll K (msk (p :: M) H3) vs ds → Q (.ref p) H3) → te σ H1 Q
def PrF (K : PySem.W.Frag) (args : γ → List Xd) (pre : γ → Prop) (F : γ → List Xd) : Sp := fun vs H Q _ => ∃ (Mc : List Addr) (c : γ), MOk Mc H ∧ XpAll K (msk Mc H) vs (args c) ∧ pre c ∧
  ∀ p us H', H p = none → Ex H H' → H' p = some (.lst us) → XpAll K (msk (p :: Mc) H') us (F c) → Q (.ref p) H'
theorem hf_callX {args : γ → List Xd} {pre : γ → Prop} {F : γ → List Xd} {tr : TA} {E : XK} (c : γ) (h : HD K M tr σ H (args c)) (p : pre c) : HFx K M (tCall (PrF K args pre F) [] E tr) σ H (F c) := fun H1 e m Q q =>
  h H1 e m _ fun vs H2 e2 ds => ⟨M, c, m.ex e2, by rw [List.append_nil]; exact ds, p, fun a us H3 n e3 h3 d => q a us H3 (fresh_back e2 n) (e2.trans e3) h3 d⟩
theorem hf_lstX {ds : List Xd} {tr : TA} (h : HD K M tr σ H ds) (hl : ds.length ≤ 100000) : HFx K M (tLst tr) σ H ds := fun H1 e1 m Q q =>
  h H1 e1 m _ fun vs H2 e2 d => ⟨sz_of (by rw [dpa_len d]; exact hl), fun p hp => q p vs _ (fresh_back e2 hp) (e2.trans (Ex.new hp)) upd_same (dpa_mono (msk_new hp) d)⟩
theorem Sg.newX (s : Sg K Mc He H is ms) {p : Addr} {vs : List V} {ds : List Xd} (n : H p = none) (e : Ex H H1) (h : H1 p = some (.lst vs)) (d : XpAll K (msk (p :: (muA ms ++ Mc)) H1) vs ds) : Sg K Mc He H1 is ((p, .lst ds) :: ms) := by
  have np : p ∉ muA ms := fun z => s.mok p (List.mem_append_left _ z) n
  have q : ∀ M : List Addr, Ex (msk M H) (msk (p :: M) H1) := fun M a o ho => by
    by_cases z : a ∈ M
    · rw [msk_in z] at ho; cases ho
    · rw [msk_out z] at ho
      have na : a ≠ p := ne_of_none ho n
      rw [msk_out (by simp only [List.mem_cons, not_or]; exact ⟨na, z⟩)]
      exact e a o ho
  exact ⟨s.ext.trans (q _), s.okc, List.nodup_cons.mpr ⟨np, s.nd⟩, s.im.mono (q _), ⟨⟨_, h, vs, rfl, d⟩, s.mu.mono (q _) e⟩⟩
theorem z_freshX {i : Nat} {x : α} {g : α → List Xd} (s : Sg K Mc He H is ms) (h : HFx K (muA ms ++ Mc) te σ H (g x)) (k : ∀ y, y = x → ∀ p H1, Sg K Mc He H1 is ((p, .lst (g y)) :: ms) → tz D (σ.set i (some (.ref p))) H1) : tSeq (tAsg te (gName i)) tz D σ H :=
  h H (Ex.refl H) s.mok _ fun p vs H3 n e3 h3 d => k x rfl p H3 (s.newX n e3 h3 d)
theorem zq_retX {ds : List Xd} (s : Sg K Mc He H is ms) (h : HFx K (muA ms ++ Mc) te σ H ds) (k : ∀ p us H1, He p = none → Ex He H1 → H1 p = some (.lst us) → XpAll K (msk (p :: Mc) H1) us ds → D.rt (.ref p) H1) : tSeq (tRet te) tz D σ H :=
  h H (Ex.refl H) s.mok _ fun p us H1 n e h1 d => k p us H1 (fresh_back s.all n) (s.all.trans e) h1 (dpa_mono (msk_sub fun a ha => by
    rcases List.mem_cons.mp ha with rfl | ha
    · exact List.mem_cons_self
    · exact List.mem_cons_of_mem _ (List.mem_append_right _ ha)) d)
theorem Sg.lstX (s : Sg K Mc He H is ms) {k : Nat} {l : Addr} {ds : List Xd} (e : ms[k]? = some (l, .lst ds)) : ∃ vs, H l = some (.lst vs) ∧ XpAll K (msk (muA ms ++ Mc) H) vs ds := by
  obtain ⟨o, h1, vs, e1, h2⟩ := s.mu.get e
  subst e1
  exact ⟨vs, h1, h2⟩
theorem hv_atM {k i : Nat} {l : Addr} {ds : List Xd} {j : Int} (y : β) (s : Sg K Mc He H is ms) (e : ms[k]? = some (l, .lst ds)) (h : σ[i]? = some (some (.ref l))) (hb : Hv K (muA ms ++ Mc) tb σ H j) (h0 : 0 ≤ j) (hd : ds[j.toNat]? = some (Dx.toX y)) :
    Hv K (muA ms ++ Mc) (tOp (rIxL K) (tVar i) tb) σ H y := fun H1 e1 m Q q => ⟨_, h, hb H1 e1 m _ fun u H2 e2 d2 => by
    obtain ⟨vs, h1, h2⟩ := ((s.ex e1).ex e2).lstX e
    obtain ⟨w, w1, w2⟩ := dpa_at h2 hd
    exact ⟨l, vs, j, w, rfl, d2.int, SqL.of h1, at_of (Int.toNat_of_nonneg h0).symm w1, q w H2 e2 w2⟩⟩
theorem z_setX {kk : Nat} {l : Addr} {ds : List Xd} {x : α} {y' : β} {i : Int} (s : Sg K Mc He H is ms) (e : ms[kk]? = some (l, .lst ds)) (h : Hv K (muA ms ++ Mc) te σ H x) (ho : Ev ta σ H (.ref l)) (hi : Hv K (muA ms ++ Mc) tb σ H i) (h0 : 0 ≤ i) (h1 : i.toNat < ds.length)
    (g : β → List Xd) (hg : ds.set i.toNat (Dx.toX x) = g y')
    (k : ∀ y, y = y' → ∀ H1, Sg K Mc He H1 is (ms.set kk (l, .lst (g y))) → tz D σ H1) : tSeq (tAsg te (gSub ta tb rSetL)) tz D σ H :=
  h H (Ex.refl H) s.mok _ fun v H2 e2 d => ho H2 e2 _ fun H3 e3 => hi H3 (e2.trans e3) (s.mok.ex (e2.trans e3)) _ fun u H4 e4 d' => by
    have s4 := ((s.ex e2).ex e3).ex e4
    obtain ⟨vs, h3, h4⟩ := s4.lstX e
    have hn : i.toNat < vs.length := by rw [dpa_len h4]; exact h1
    refine ⟨l, vs, i, i.toNat, rfl, d'.int, h3, ?_, k _ rfl _ (s4.set e ⟨_, rfl, ?_⟩)⟩
    · have := ixN_nat hn
      rwa [Int.toNat_of_nonneg h0] at this
    · rw [← hg]
      exact dpa_set h4 (dp_mono (msk_ex (e3.trans e4)) d)
theorem Sg.frzX {l : Addr} {ds : List Xd} (x : α) (hx : Dx.toX x = .list ds) (s : Sg K Mc He H is ((l, .lst ds) :: ms)) : Sg K Mc He H ((.ref l, Dx.toX x) :: is) ms := by
  have sub : Ex (msk (muA ((l, Mv.lst ds) :: ms) ++ Mc) H) (msk (muA ms ++ Mc) H) := msk_sub fun a ha => List.mem_cons_of_mem _ ha
  have nd := List.nodup_cons.mp s.nd
  obtain ⟨⟨o, h1, vs, e, h2⟩, h3⟩ := s.mu
  subst e
  have nl : l ∉ muA ms ++ Mc := fun z => (List.mem_append.mp z).elim nd.1 (s.notc List.mem_cons_self)
  refine ⟨s.ext.trans (msk_sub fun a ha => List.mem_cons_of_mem _ ha), s.okc, nd.2, ⟨?_, s.im.mono sub⟩, h3.mono sub (Ex.refl H)⟩
  show Xp K _ (.ref l) (Dx.toX x)
  rw [hx]
  exact .lst (SqL.of (by rw [msk_out nl]; exact h1)) (dpa_mono sub h2)
theorem cutL_len {ε : Type} (xs : List ε) (a b : Option Int) : (cutL xs a b).length ≤ xs.length := by
  unfold cutL; rw [List.length_take, List.length_drop]; omega
/-- what a list of a style's numbers holds -/
def Lv.ds (v : Lv) : List Xd := [.int v.w, .int v.f, .int v.r, .bool v.j, .int v.t, .int v.g]
end
end Ly

namespace Ly
open PySem PySem.Spec PyProof.Rows L2 Evl
open PySem.W (Datum DatumOrd Tup T3 T4 minOf)
/-! ### zip of a tuple and a list -/
def ItzM (K : PySem.W.Frag) (a b : Addr) : L2.It where
  go i H := ∃ (us vs : List V) (u v : V), (SqT K H a us ∧ us[i]? = some u) ∧ SqL K H b vs ∧ vs[i]? = some v
  yld i H r H' := ∃ (p : Addr) (u v : V), (r = .ref p ∧ H p = none ∧ H' = upd H p (.tup [u, v])) ∧ (∀ us, SqT K H a us → us[i]? = some u) ∧ (∀ vs, SqL K H b vs → vs[i]? = some v)
  stop i H := ∃ us vs : List V, SqT K H a us ∧ SqL K H b vs ∧ i ≤ us.length ∧ i ≤ vs.length ∧ (i = us.length ∨ i = vs.length)
section
variable {P : Program} {w : World} {K : PySem.W.Frag} {elts : List Expr} {kk : Nat} {tpos : Pos} {a b z TI TO i1 i2 : Addr}
abbrev stM (z TI TO i1 i2 a b : Addr) (i : Nat) (h : Heap) : Prop := (IsZip h z TI TO .none ∧ IsTupOf2 h TI (.ref i1) (.ref i2) ∧ ∃ x y, IsTupOf2 h TO x y) ∧ h.IsTupleIter i1 a i ∧ h.IsListIter i2 b i
theorem turn_zipM (S : ZipSep2 z TI TO i1 i2 [i1, a] [i2, b]) : Turn P w K (.Tuple elts kk tpos) (ItzM K a b) [z, TI, TO, i1, i2] z (stM z TI TO i1 i2 a b) := by
  have five : ∀ {c : Addr}, c ∈ [z, TI, TO, i1, i2] → c = z ∨ c = TI ∨ c = TO ∨ c = i1 ∨ c = i2 := fun h => by simpa using h
  have na : a ≠ i1 ∧ b ≠ i2 ∨ True := .inr trivial
  refine ⟨List.mem_cons_self, fun i h st c hc => ?_, fun i h h' st k => ?_, ?_, ?_, fun A i s Q E st q => wpAny_pyIter_zip st.1.1 q⟩
  · obtain ⟨⟨c1, c2, x, y, c3⟩, ⟨o4, e4, _, f4⟩, o5, e5, _, f5⟩ := st
    rcases five hc with rfl | rfl | rfl | rfl | rfl
    · exact ⟨_, c1, fun v q => nomatch q⟩
    · exact ⟨_, c2, fun v q => nomatch q⟩
    · exact ⟨_, c3, fun v q => nomatch q⟩
    · exact ⟨o4, e4, fun v q => by rw [f4] at q; cases q⟩
    · exact ⟨o5, e5, fun v q => by rw [f5] at q; cases q⟩
  · obtain ⟨⟨c1, c2, x, y, c3⟩, c4, c5⟩ := st
    exact ⟨⟨k _ (by simp) _ c1, k _ (by simp) _ c2, x, y, k _ (by simp) _ c3⟩, c4.at fun o q => k _ (by simp) o q, c5.at fun o q => k _ (by simp) o q⟩
  · intro X hP hw hK hc i pins s σ H E I hf st hg
    subst hP hw hK
    obtain ⟨us, vs, u, v, ⟨qa, ea⟩, qb, eb⟩ := hg
    obtain ⟨⟨c1, c2, x, y, c3⟩, c4, c5⟩ := st
    obtain ⟨la, ra, pa, _⟩ := I.tuple qa
    obtain ⟨lb, rb, pb, _⟩ := I.list qb
    obtain ⟨ua, ga, xa⟩ := ra.get ea
    obtain ⟨ub, gb, xb⟩ := rb.get eb
    have na : a ≠ i1 := fun q => by
      obtain ⟨oa, ha, ka, _⟩ := pa
      obtain ⟨ob, hb, kb, _⟩ := c4
      rw [q, hb] at ha
      cases ha
      rw [kb] at ka
      exact absurd (Value.type.inj ka) (by decide)
    have nb : b ≠ i2 := fun q => by
      obtain ⟨oa, ha, ka, _⟩ := pb.isList
      obtain ⟨ob, hb, kb, _⟩ := c5
      rw [q, hb] at ha
      cases ha
      rw [kb] at ka
      exact absurd (Value.type.inj ka) (by decide)
    have hh : X.A.in1.handled = none := I.ok.hd hc
    have DA := Draws.tuple (prog := X.prog) (w := X.w) hh i1 a na la.toArray
    have DB := Draws.list (prog := X.prog) (w := X.w) hh i2 b nb lb.toArray
    have za : i < la.toArray.size := by
      have := (List.getElem?_eq_some_iff.mp ga).1
      simpa using this
    have zb : i < lb.toArray.size := by
      have := (List.getElem?_eq_some_iff.mp gb).1
      simpa using this
    refine wpAny_pyNext_zipD2_item S DA DB c1 c2 c3 ⟨c4, pa⟩ ⟨c5, pb.isList⟩ za zb fun x1 x2 h1 tk y1 y2 d1 d2 d3 d4 d5 d6 d7 => ?_
    have e1 : x1 = ua := by
      have : la[i]? = some x1 := by simpa using y1
      exact Option.some.inj (this.symm.trans ga)
    have e2 : x2 = ub := by
      have : lb[i]? = some x2 := by simpa using y2
      exact Option.some.inj (this.symm.trans gb)
    subst e1 e2
    refine ⟨.ref s.heap.objs.size, rfl, wpAny_letOwnedTupleGo_zip (s := { s with heap := h1, toks := tk }) d1 fun h2 f1 f2 => ?_⟩
    have old : ∀ c o, c ∉ [z, TI, TO, i1, i2] → s.heap.get? c = some o → h2.get? c = some o := fun c o n q => by
      have m1 : c ≠ z := fun t => n (by rw [t]; simp)
      have m2 : c ≠ TO := fun t => n (by rw [t]; simp)
      have m3 : c ≠ i1 := fun t => n (by rw [t]; simp)
      have m4 : c ≠ i2 := fun t => n (by rw [t]; simp)
      exact (f2.2 c m1).trans (d7 c o m1 m2 m3 m4 q)
    have pz : s.heap.objs.size ≠ z := Nat.ne_of_gt (Heap.lt_size c1)
    have pn : h2.get? s.heap.objs.size = some { cls := .type "tuple", data := .seq #[x1, x2] } := (f2.2 _ pz).trans d5
    have ok : ObjOk X.prog X.w (upd H s.heap.objs.size (.tup [u, v])) h2 s.heap.objs.size (.tup [u, v]) := ⟨show 2 ≤ sizeLine by decide, [x1, x2], .cons xa (.cons xb .nil), _, pn, rfl, _, rfl⟩
    refine ⟨.ref s.heap.objs.size, upd H s.heap.objs.size (.tup [u, v]), I.turnedNew (t' := tk) (ch := [z, TI, TO, i1, i2]) old hf (Nat.le_refl _) ok, rfl, ?_, ?_, fun c m => ?_⟩
    · refine ⟨_, u, v, ⟨rfl, I.hok.fresh (Nat.le_refl _), rfl⟩, fun l t => ?_, fun l t => ?_⟩
      · rw [I.tuple_inj t qa]; exact ea
      · rw [I.list_inj t qb]; exact eb
    · refine ⟨⟨f1, (f2.2 _ S.TIz).trans (d7 _ _ S.TIz S.TITO S.TIi1 S.TIi2 c2), x1, x2, (f2.2 _ S.TOz).trans d2⟩, d3.1.at fun o q => (f2.2 _ S.zi1.symm).trans q, d4.1.at fun o q => (f2.2 _ S.zi2.symm).trans q⟩
    · have lt : c < s.heap.objs.size := by
        rcases five m with rfl | rfl | rfl | rfl | rfl
        · exact Heap.lt_size c1
        · exact Heap.lt_size c2
        · exact Heap.lt_size c3
        · obtain ⟨_, q, _⟩ := c4; exact Heap.lt_size q
        · obtain ⟨_, q, _⟩ := c5; exact Heap.lt_size q
      rw [upd_ne (Nat.ne_of_lt lt)]
      exact (hf c m).1
  · intro X hP hw hK hc i pins s σ H E I hf st hg
    subst hP hw hK
    obtain ⟨us, vs, qa, qb, l1, l2, l3⟩ := hg
    obtain ⟨⟨c1, c2, x, y, c3⟩, c4, c5⟩ := st
    obtain ⟨la, ra, pa, _⟩ := I.tuple qa
    obtain ⟨lb, rb, pb, _⟩ := I.list qb
    have na : a ≠ i1 := fun q => by
      obtain ⟨oa, ha, ka, _⟩ := pa
      obtain ⟨ob, hb, kb, _⟩ := c4
      rw [q, hb] at ha
      cases ha
      rw [kb] at ka
      exact absurd (Value.type.inj ka) (by decide)
    have nb : b ≠ i2 := fun q => by
      obtain ⟨oa, ha, ka, _⟩ := pb.isList
      obtain ⟨ob, hb, kb, _⟩ := c5
      rw [q, hb] at ha
      cases ha
      rw [kb] at ka
      exact absurd (Value.type.inj ka) (by decide)
    have hh : X.A.in1.handled = none := I.ok.hd hc
    have DA := Draws.tuple (prog := X.prog) (w := X.w) hh i1 a na la.toArray
    have DB := Draws.list (prog := X.prog) (w := X.w) hh i2 b nb lb.toArray
    have sa : us.length = la.toArray.size := by rw [List.size_toArray]; exact ra.length
    have sb : vs.length = lb.toArray.size := by rw [List.size_toArray]; exact rb.length
    refine wpAny_pyNext_zipD2_end S DA DB c1 c2 c3 ⟨c4, pa⟩ ⟨c5, pb.isList⟩ (by omega) (by omega) (by omega) fun h1 tk d => ⟨rfl, ?_⟩
    refine I.turnedL (t' := tk) (ch := [z, TI, TO, i1, i2]) (fun c o n q => ?_) hf
    exact d c o (fun t => n (by rw [t]; simp)) (fun t => n (by rw [t]; simp)) (fun t => n (by rw [t]; simp)) (fun t => n (by rw [t]; simp)) q
end
def iZipM (K : PySem.W.Frag) (tp : TA) : TI := fun σ H R => tp σ H fun zs H1 => ∃ a b us vs, zs = [.ref a, .ref b] ∧ SqT K H1 a us ∧ SqL K H1 b vs ∧ R (ItzM K a b) H1
theorem pi_zipM {X : Cx} {e f : Expr} {tp : TA} {p pos tpos : Pos} {elts : List Expr} {kk : Nat} (hg : Gl X "zip") (hm : X.mg "zip" = none) (hA : PA X [e, f] tp)
    (h1 : starEach [e, f] X.env = (false, eval e X.env) :: starEach [f] X.env := by rfl) (h2 : (backTo pos (starEach [f] X.env)).any (·.1) = false := by rfl) :
    PI X (.Tuple elts kk tpos) (.Call (.Name "zip" p) [e, f] [] pos) (iZipM X.K tp) := by
  constructor
  intro pins s σ H R I h
  have body := hA.run pos pins s σ H _ I h
  refine Call_ (ld_blt I hg hm PyProof.Rows.boot_zip ?_)
  refine PyProof.Rows.callWith_type1 (thn body ?_) h1 h2
  rintro ws s1 ⟨zs, H1, J, rz, a, b, us, vs, rfl, qa, qb, q⟩
  cases rz with
  | cons ra rz =>
    cases rz with
    | cons rb rz =>
      cases rz; cases ra; cases rb
      obtain ⟨la, _, pa, _⟩ := J.tuple qa
      obtain ⟨lb, _, pb, _⟩ := J.list qb
      have pa' : s1.heap.IsTuple a la.toArray := pa
      have lta : a < s1.heap.objs.size := by obtain ⟨_, g, _⟩ := pa'; exact Heap.lt_size g
      have sep : ZipSep2 (s1.heap.objs.size + 4) (s1.heap.objs.size + 2) (s1.heap.objs.size + 3) s1.heap.objs.size (s1.heap.objs.size + 1) [s1.heap.objs.size, a] [s1.heap.objs.size + 1, b] :=
        zip_sep2 (fp1 := [a]) (fp2 := [b]) (fun c m => by rw [List.mem_singleton.mp m]; exact lta) (fun c m => by rw [List.mem_singleton.mp m]; exact pb.lt)
      refine zip_begins2 (begins_tuple a la.toArray) (begins_list b lb.toArray) pa' pb.isList fun h' c1 c2 c3 c4 c5 _ kp => ?_
      refine wpAny_pyIter_zip c1 ?_
      refine ⟨s1.heap.objs.size + 4, [s1.heap.objs.size + 4, s1.heap.objs.size + 2, s1.heap.objs.size + 3, s1.heap.objs.size, s1.heap.objs.size + 1], _, _, H1, rfl, J.kept (t' := s1.toks) kp, turn_zipM sep, ⟨⟨c1, c2, _, _, c3⟩, ⟨_, c4, rfl, rfl⟩, ⟨_, c5, rfl, rfl⟩⟩, fun c m => ?_, q⟩
      have le : s1.heap.objs.size ≤ c := by
        rcases (by simpa using m : c = s1.heap.objs.size + 4 ∨ c = s1.heap.objs.size + 2 ∨ c = s1.heap.objs.size + 3 ∨ c = s1.heap.objs.size ∨ c = s1.heap.objs.size + 1) with rfl | rfl | rfl | rfl | rfl <;> first | exact Nat.le_add_right _ _ | exact Nat.le_refl _
      exact J.fpOk le (J.hok.fresh le)
theorem walk_zipM {K : PySem.W.Frag} {a b : Addr} {us vs : List V} {n : Nat} (hn : n = us.length) (hn2 : n = vs.length) : Walk (ItzM K a b) n (fun H => SqT K H a us ∧ SqL K H b vs) (YPair (fun i => us[i]?) (fun i => vs[i]?)) where
  goes i H hi q := by
    have l1 : i < us.length := by omega
    have l2 : i < vs.length := by omega
    exact ⟨us, vs, us[i], vs[i], ⟨q.1, List.getElem?_eq_getElem l1⟩, q.2, List.getElem?_eq_getElem l2⟩
  stops H q := ⟨us, vs, q.1, q.2, by omega, by omega, .inl hn⟩
  yields i H r H' _ q y := by
    obtain ⟨p, u, v, ⟨e1, e2, e3⟩, f1, f2⟩ := y
    exact ⟨p, u, v, e1, e2, e3, f1 us q.1, f2 vs q.2⟩
section
variable {K : PySem.W.Frag} {Mc M : List Addr} {He H H1 H2 : Hp} {is js : Ims} {ms : Mus} {σ : L2.St} {te ta tl tl2 : TE} {tlo thi : TO} {g : TG}
variable {α β γ : Type} [DecidableEq α] [Dx α] [DecidableEq β] [Dx β] [DecidableEq γ] [Dx γ]
/-- [.. for x in a tuple] -/
theorem hf_lcV0 {vs : List Nat} (s : Sg K Mc He H is ms) {xs : Tup α} (ef : α → β) (h : Hv K (muA ms ++ Mc) tl σ H xs) (hz : xs.items.length ≤ 40000)
    (hb : ∀ D src x w (ys : List β) H1, Sg K Mc He H1 ((w, Dx.toX x) :: (src, Dx.toX xs) :: is) ((D, .lst (ys.map Dx.toX)) :: ms) → x ∈ xs.items →
      ∀ Q : L2.St → Hp → Prop, (∀ σ2, wipe σ2 vs = wipe σ vs → Hv K (muA ((D, Mv.lst (ys.map Dx.toX)) :: ms) ++ Mc) te σ2 H1 (ef x) → Q σ2 H1) → g w (wipe σ vs) H1 Q) :
    HF K (muA ms ++ Mc) (tLc (iTup K tl) g tYes te vs) σ H (xs.items.map ef) := fun H1 e m Q q =>
  h H1 e m _ fun v H2 e2 d => by
    obtain ⟨a, us, rfl, s1, ds⟩ := d.tupv
    refine ⟨a, rfl, ⟨us, ex_t msk_le s1⟩, fun D hD => ?_⟩
    have sA : Sg K Mc He H2 ((.ref a, Dx.toX xs) :: is) ms := ((s.ex e).ex e2).put d
    have sB : Sg K Mc He (upd H2 D (.lst [])) ((.ref a, Dx.toX xs) :: is) ((D, .lst (([] : List β).map Dx.toX)) :: ms) := sA.new hD ⟨[], rfl, .nil⟩
    have hlu : us.length = xs.items.length := ds.len
    have s1' : SqT K H2 a us := ex_t msk_le s1
    refine lc_it (walk_tup (K := K) (a := a) (xs := us)) (fun i H' => Ex H2 H' ∧ Sg K Mc He H' ((.ref a, Dx.toX xs) :: is) ((D, .lst (((xs.items.take i).map ef).map Dx.toX)) :: ms)) ⟨Ex.new hD, sB⟩
      (fun i H' _ p => ex_t p.1 s1') (fun i x H' H'' hi p y => ?_) (fun H' p => ?_)
    · obtain ⟨rfl, y2⟩ := y
      have hix : i < xs.items.length := by rw [← hlu]; omega
      have gx : xs.items[i]? = some xs.items[i] := by simp [hix]
      have q2 : Ex (msk (muA ms ++ Mc) H2) (msk (D :: (muA ms ++ Mc)) H'') := fun c o hc => by
        by_cases z : c ∈ muA ms ++ Mc
        · rw [msk_in z] at hc; cases hc
        · rw [msk_out z] at hc
          have nc : c ≠ D := ne_of_none hc hD
          rw [msk_out (by simp only [List.mem_cons, not_or]; exact ⟨nc, z⟩)]
          exact p.1 c o hc
      obtain ⟨w, w1, w2⟩ := (Dts.mono q2 ds).at gx
      have : x = w := Option.some.inj (y2.symm.trans w1)
      subst this
      refine hb D (.ref a) xs.items[i] x _ _ (p.2.put w2) (List.mem_of_getElem? gx) _ fun σ2 hw he => ⟨hw, ?_⟩
      have hlen : ((xs.items.take i).map ef).length < 50000 := by
        rw [List.length_map, List.length_take]
        omega
      exact lc_turn (ms := ms) (tt := tYes) (b := true) (zs := (xs.items.take (i + 1)).map ef) p.2 hlen (fun H3 => Ex H2 H3 ∧ Sg K Mc He H3 ((.ref a, Dx.toX xs) :: is) ((D, .lst (((xs.items.take (i + 1)).map ef).map Dx.toX)) :: ms)) (fun H2 _ _ _ q => q H2 (Ex.refl H2)) (fun _ => he) (by rw [if_pos rfl, take_snoc gx, List.map_append]; rfl) (fun H3 h4 s3 => ⟨by
        obtain ⟨H4, e4, e5⟩ := h4
        rcases e5 with e5 | ⟨o, e5⟩
        · rw [e5]; exact p.1.trans e4
        · rw [e5]; exact Ex.mut (p.1.trans e4) hD, s3⟩)
    · have z := p.2
      rw [hlu, List.take_length] at z
      obtain ⟨us2, h3, h4⟩ := z.lst (k := 0) rfl
      exact q D us2 H' (fresh_back e2 hD) (e2.trans p.1) h3 h4
/-- [.. for x, y in zip(a tuple, a list)] -/
theorem hf_lcZM {vs : List Nat} (s : Sg K Mc He H is ms) {xs : Tup α} {zs : List γ} (ef : α × γ → β) (h : Hv K (muA ms ++ Mc) tl σ H xs) (h' : Hv K (muA ms ++ Mc) tl2 σ H zs) (hz : xs.items.length ≤ 40000) (hzs : zs.length = xs.items.length)
    (hb : ∀ D src (x : α × γ) w (ys : List β) H1, Sg K Mc He H1 ((w, Dx.toX x) :: (src, Dx.toX xs) :: is) ((D, .lst (ys.map Dx.toX)) :: ms) → x ∈ zipL xs.items zs →
      ∀ Q : L2.St → Hp → Prop, (∀ σ2, wipe σ2 vs = wipe σ vs → Hv K (muA ((D, Mv.lst (ys.map Dx.toX)) :: ms) ++ Mc) te σ2 H1 (ef x) → Q σ2 H1) → g w (wipe σ vs) H1 Q) :
    HF K (muA ms ++ Mc) (tLc (iZipM K (tCons tl (tCons tl2 tNil))) g tYes te vs) σ H ((zipL xs.items zs).map ef) := fun H1 e m Q q =>
  h H1 e m _ fun v H2 e2 d => h' H2 (e.trans e2) (m.ex e2) _ fun v' H2' e2' d' => by
    obtain ⟨a, us, rfl, s1, ds⟩ := d.tupv
    obtain ⟨a', us', rfl, t1, dt⟩ := d'.list
    have s1' : SqT K H2' a us := ex_t e2' (ex_t msk_le s1)
    have t1' : SqL K H2' a' us' := ex_l msk_le t1
    have dE : Dt K (msk (muA ms ++ Mc) H2') (.ref a) xs := d.mono (msk_ex e2')
    refine ⟨a, a', us, us', rfl, s1', t1', fun D hD => ?_⟩
    have sA : Sg K Mc He H2' ((.ref a, Dx.toX xs) :: is) ms := (((s.ex e).ex e2).ex e2').put dE
    have sB : Sg K Mc He (upd H2' D (.lst [])) ((.ref a, Dx.toX xs) :: is) ((D, .lst (([] : List β).map Dx.toX)) :: ms) := sA.new hD ⟨[], rfl, .nil⟩
    have hlu : us.length = xs.items.length := ds.len
    have hlw : us'.length = zs.length := dt.len
    have dsE : Dts K (msk (muA ms ++ Mc) H2') us xs.items := Dts.mono (msk_ex e2') ds
    refine lc_it (walk_zipM (K := K) (a := a) (b := a') (us := us) (vs := us') (n := us.length) rfl (by omega)) (fun i H' => Ex H2' H' ∧ Sg K Mc He H' ((.ref a, Dx.toX xs) :: is) ((D, .lst ((((zipL xs.items zs).take i).map ef).map Dx.toX)) :: ms)) ⟨Ex.new hD, sB⟩
      (fun i H' _ p => ⟨ex_t p.1 s1', ex_l p.1 t1'⟩) (fun i x H' H'' hi p y => ?_) (fun H' p => ?_)
    · obtain ⟨T, x0, x1, rfl, nT, rfl, f1, f2⟩ := y
      have hix : i < xs.items.length := by rw [← hlu]; omega
      have hiz : i < zs.length := by rw [← hlw]; omega
      have gx : xs.items[i]? = some xs.items[i] := by simp [hix]
      have gz : zs[i]? = some zs[i] := by simp [hiz]
      have gE := zipL_get gx gz
      have eT : Ex H' (upd H' T (.tup [x0, x1])) := Ex.new nT
      have sT := p.2.ex eT
      have q2 : Ex (msk (muA ms ++ Mc) H2') (msk (D :: (muA ms ++ Mc)) (upd H' T (.tup [x0, x1]))) := fun b o hb' => by
        by_cases z : b ∈ muA ms ++ Mc
        · rw [msk_in z] at hb'; cases hb'
        · rw [msk_out z] at hb'
          have nb : b ≠ D := ne_of_none hb' hD
          rw [msk_out (by simp only [List.mem_cons, not_or]; exact ⟨nb, z⟩)]
          exact eT b o (p.1 b o hb')
      have dm0 : Dt K (msk (D :: (muA ms ++ Mc)) (upd H' T (.tup [x0, x1]))) x0 xs.items[i] := by
        obtain ⟨w, w1, w2⟩ := (dsE.mono q2).at gx
        have : x0 = w := Option.some.inj (f1.symm.trans w1)
        subst this; exact w2
      have dm1 : Dt K (msk (D :: (muA ms ++ Mc)) (upd H' T (.tup [x0, x1]))) x1 zs[i] := by
        obtain ⟨w, w1, w2⟩ := (Dts.mono q2 dt).at gz
        have : x1 = w := Option.some.inj (f2.symm.trans w1)
        subst this; exact w2
      have nTD : T ∉ D :: (muA ms ++ Mc) := fun z => (p.2.mok T z) nT
      have dw : Dt K (msk (D :: (muA ms ++ Mc)) (upd H' T (.tup [x0, x1]))) (.ref T) (xs.items[i], zs[i]) := Dt.ofPair (SqT.of (by rw [msk_out nTD]; exact upd_same)) dm0 dm1
      refine hb D (.ref a) (xs.items[i], zs[i]) (.ref T) _ _ (sT.put dw) (List.mem_of_getElem? gE) _ fun σ2 hw he => ⟨hw, ?_⟩
      have hlen : (((zipL xs.items zs).take i).map ef).length < 50000 := by
        rw [List.length_map, List.length_take, zipL_len]
        omega
      exact lc_turn (ms := ms) (tt := tYes) (b := true) (zs := ((zipL xs.items zs).take (i + 1)).map ef) sT hlen (fun H3 => Ex H2' H3 ∧ Sg K Mc He H3 ((.ref a, Dx.toX xs) :: is) ((D, .lst ((((zipL xs.items zs).take (i + 1)).map ef).map Dx.toX)) :: ms)) (fun H2 _ _ _ q => q H2 (Ex.refl H2)) (fun _ => he) (by rw [if_pos rfl, take_snoc gE, List.map_append]; rfl) (fun H3 h4 s3 => ⟨by
        obtain ⟨H4, e4, e5⟩ := h4
        rcases e5 with e5 | ⟨o, e5⟩
        · rw [e5]; exact (p.1.trans eT).trans e4
        · rw [e5]; exact Ex.mut ((p.1.trans eT).trans e4) hD, s3⟩)
    · have z := p.2
      have et : (zipL xs.items zs).take us.length = zipL xs.items zs := List.take_of_length_le (by rw [zipL_len, hlu]; omega)
      rw [et] at z
      obtain ⟨us2, h3, h4⟩ := z.lst (k := 0) rfl
      exact q D us2 H' (fresh_back (e2.trans e2') hD) ((e2.trans e2').trans p.1) h3 h4
/-- a slice of a tuple -/
theorem hv_sliceV {xs : Tup α} {lo hi : Option Int} (h : Hv K M te σ H xs) (h1 : HO' M tlo σ H lo) (h2 : HO' M thi σ H hi) : Hv K M (tSl (rSlA K) te tlo thi) σ H (Tup.mk (cutL xs.items lo hi)) := fun H1 e m Q q =>
  h H1 e m _ fun v H2 e2 d => h1 H2 (e.trans e2) (m.ex e2) _ fun H3 e3 => h2 H3 ((e.trans e2).trans e3) ((m.ex e2).ex e3) _ fun H4 e4 => by
    obtain ⟨a, us, rfl, s1, ds⟩ := d.tupv
    have m4 := ((m.ex e2).ex e3).ex e4
    have el : us.length = xs.items.length := ds.len
    refine ⟨a, us, rfl, ex_t (e3.trans e4) (ex_t msk_le s1), fun hw => ?_, fun _ p hp => ?_⟩
    · rw [el] at hw
      have ew : cutL xs.items lo hi = xs.items := by
        unfold cutL
        rw [hw.1, hw.2]
        simp
      rw [ew] at q
      exact q _ _ ((e2.trans e3).trans e4) (d.mono (msk_ex (e3.trans e4)))
    · have e5 : Ex H4 (upd H4 p (.tup (cutV us lo hi))) := Ex.new hp
      exact q _ _ (((e2.trans e3).trans e4).trans e5) (Dt.ofTupv (SqT.of (msk_at m4 hp)) ((ds.mono (msk_ex ((e3.trans e4).trans e5))).cut))
end
end Ly

namespace Ly
open PySem PySem.Spec PyProof.Rows L2 Evl
open PySem.W (Datum DatumOrd Tup T3 T4 minOf)
/-! ### loops that may be broken off -/
def loopB {S : Type} (f : S → Int → Lp Unit S) : Nat → Int → S → S
  | 0, _, s => s
  | n + 1, k, s => match f s k with
    | .ret _ => s
    | .brk u => u
    | .nxt u => loopB f n (k + 1) u
theorem loopB_succ {S : Type} {f : S → Int → Lp Unit S} {n i : Nat} {lo : Int} {s : S} (h : i < n) :
    loopB f (n - i) (lo + (i : Int)) s = (match f s (lo + (i : Int)) with | .ret _ => s | .brk u => u | .nxt u => loopB f (n - (i + 1)) (lo + ((i + 1 : Nat) : Int)) u) := by
  have e : n - i = (n - (i + 1)) + 1 := by omega
  have e2 : lo + (i : Int) + 1 = lo + ((i + 1 : Nat) : Int) := by omega
  rw [e, loopB, e2]
theorem loopB_nxt {S : Type} {f : S → Int → Lp Unit S} {n i : Nat} {lo : Int} {s u : S} (h : i < n) (e : f s (lo + (i : Int)) = .nxt u) : loopB f (n - i) (lo + (i : Int)) s = loopB f (n - (i + 1)) (lo + ((i + 1 : Nat) : Int)) u := by
  rw [loopB_succ h, e]
theorem loopB_brk {S : Type} {f : S → Int → Lp Unit S} {n i : Nat} {lo : Int} {s u : S} (h : i < n) (e : f s (lo + (i : Int)) = .brk u) : loopB f (n - i) (lo + (i : Int)) s = u := by
  rw [loopB_succ h, e]
theorem loopB_end {S : Type} {f : S → Int → Lp Unit S} {n : Nat} {lo : Int} {s : S} : loopB f (n - n) lo s = s := by rw [Nat.sub_self]; rfl
section
variable {K : PySem.W.Frag} {Mc M : List Addr} {He H H1 H2 : Hp} {is js : Ims} {ms : Mus} {σ : L2.St} {te ta tb tc : TE} {D : Ends}
/-- what may be none, where it is not -/
theorem hv_unopt {o : Option Int} (h : Hv K M te σ H o) (hn : o ≠ none) : Hv K M te σ H (o.getD 0) := by
  cases o with
  | none => exact absurd rfl hn
  | some x => exact h
/-- for x in range(lo, hi, -1) -/
theorem z_forRC {tu : TS} {j : Nat} {lo hi c : Int} (s : Sg K Mc He H is ms) (h1 : Hv K (muA ms ++ Mc) ta σ H lo) (h2 : Hv K (muA ms ++ Mc) tb σ H hi) (h3 : Hv K (muA ms ++ Mc) tc σ H c) (hc : c = -1) (hn : -100000 ≤ lo ∧ lo ≤ 100000 ∧ -100000 ≤ hi ∧ hi ≤ 100000)
    (Pv : Nat → L2.St → Hp → Prop) (h0 : ∀ H1, Sg K Mc He H1 is ms → Pv 0 σ H1)
    (hs : ∀ (i : Nat) (x : Int) σ' H', x = lo - ((0 : Int) + (i : Int)) → i < (lo - hi).toNat → Pv i σ' H' → tu { D with nx := Pv (i + 1), ct := Pv (i + 1), bk := D.nx } (σ'.set j (some (.int x))) H')
    (hd : ∀ σ' H', Pv (lo - hi).toNat σ' H' → D.nx σ' H') : tFor (iRng3 (tCons ta (tCons tb (tCons tc tNil)))) (gName j) tu D σ H := by
  subst hc
  exact h1 H (Ex.refl H) s.mok _ fun v H1 e d => h2 H1 e (s.mok.ex e) _ fun v' H2 e2 d' => h3 H2 (e.trans e2) ((s.mok.ex e).ex e2) _ fun v'' H3 e3 d'' => by
    refine ⟨lo, hi, -1, (lo - hi).toNat, by rw [d.int, d'.int, d''.int], RgC.neg (by omega) (by omega) (by omega) (by omega), L2.for_rangeC Pv (h0 H3 (((s.ex e).ex e2).ex e3)) (fun i σ' H' hi' p => ?_) hd⟩
    have e0 : lo + (i : Int) * -1 = lo - ((0 : Int) + (i : Int)) := by omega
    show tu { D with nx := Pv (i + 1), ct := Pv (i + 1), bk := D.nx } (σ'.set j (some (.int (lo + (i : Int) * -1)))) H'
    rw [e0]
    exact hs i _ σ' H' rfl hi' p
end
end Ly

namespace My
open PySem PySem.Spec PyProof.Rows L2 Evl Ly CwR
open PySem.W (Datum DatumOrd Tup T3 T4 minOf)
def topS (i : Nat) : Stmt := PySem.Challenge.pw_folio_k35_needed_widths.main.body.getD i (.Pass ⟨0, 0, 0, 0⟩)
structure Cl_Measures where
  f_parts : (Tup Itm)
  f_count : Int
  f__widths : (List Int)
  f__stretches : (List Int)
  f__shrinks : (List Int)
  f__ends : (List Bool)
  f__next_end : (List Int)
  f__next_forced : (List Int)
  f__next_solid : (List Int)
  f__first_kept : (List Int)
  f__kept_before : (List Int)
  deriving DecidableEq
instance : Dx Cl_Measures := ⟨fun o => .obj (PySem.Str.ofString "Measures") [PySem.Str.ofString "parts", PySem.Str.ofString "count", PySem.Str.ofString "_widths", PySem.Str.ofString "_stretches", PySem.Str.ofString "_shrinks", PySem.Str.ofString "_ends", PySem.Str.ofString "_next_end", PySem.Str.ofString "_next_forced", PySem.Str.ofString "_next_solid", PySem.Str.ofString "_first_kept", PySem.Str.ofString "_kept_before"] [Dx.toX o.f_parts, Dx.toX o.f_count, Dx.toX o.f__widths, Dx.toX o.f__stretches, Dx.toX o.f__shrinks, Dx.toX o.f__ends, Dx.toX o.f__next_end, Dx.toX o.f__next_forced, Dx.toX o.f__next_solid, Dx.toX o.f__first_kept, Dx.toX o.f__kept_before]⟩
theorem nd_Measures : List.Nodup ([PySem.Str.ofString "parts", PySem.Str.ofString "count", PySem.Str.ofString "_widths", PySem.Str.ofString "_stretches", PySem.Str.ofString "_shrinks", PySem.Str.ofString "_ends", PySem.Str.ofString "_next_end", PySem.Str.ofString "_next_forced", PySem.Str.ofString "_next_solid", PySem.Str.ofString "_first_kept", PySem.Str.ofString "_kept_before"] : List PySem.Str) := by decide +kernel
instance : SomeX Cl_Measures := ⟨fun _ e => by cases e⟩
def dflt_Measures : Cl_Measures := Cl_Measures.mk (Tup.mk []) 0 [] [] [] [] [] [] [] [] []
structure Txt (K : PySem.W.Frag) (mg : Str → Option Value) where
  C_Measures : Addr
  c_Measures : Ct K (PySem.Str.ofString "Measures") C_Measures
  g_Measures : mg "Measures" = some (.ref C_Measures)
  na_Measures_parts : NoAttr K C_Measures (PySem.Str.ofString "parts")
  na_Measures_count : NoAttr K C_Measures (PySem.Str.ofString "count")
  na_Measures__widths : NoAttr K C_Measures (PySem.Str.ofString "_widths")
  na_Measures__stretches : NoAttr K C_Measures (PySem.Str.ofString "_stretches")
  na_Measures__shrinks : NoAttr K C_Measures (PySem.Str.ofString "_shrinks")
  na_Measures__ends : NoAttr K C_Measures (PySem.Str.ofString "_ends")
  na_Measures__next_end : NoAttr K C_Measures (PySem.Str.ofString "_next_end")
  na_Measures__next_forced : NoAttr K C_Measures (PySem.Str.ofString "_next_forced")
  na_Measures__next_solid : NoAttr K C_Measures (PySem.Str.ofString "_next_solid")
  na_Measures__first_kept : NoAttr K C_Measures (PySem.Str.ofString "_first_kept")
  na_Measures__kept_before : NoAttr K C_Measures (PySem.Str.ofString "_kept_before")
  f_is_blank : Addr
  d_is_blank : FuncData
  u_is_blank : Fun K "is_blank" "is_blank" (topS 5) f_is_blank d_is_blank
  b_is_blank : Binds K d_is_blank ["item"] []
  g_is_blank : mg "is_blank" = some (.ref f_is_blank)
  f_width_of_item : Addr
  d_width_of_item : FuncData
  u_width_of_item : Fun K "width_of_item" "width_of_item" (topS 6) f_width_of_item d_width_of_item
  b_width_of_item : Binds K d_width_of_item ["item"] []
  g_width_of_item : mg "width_of_item" = some (.ref f_width_of_item)
  f_stretch_of_item : Addr
  d_stretch_of_item : FuncData
  u_stretch_of_item : Fun K "stretch_of_item" "stretch_of_item" (topS 7) f_stretch_of_item d_stretch_of_item
  b_stretch_of_item : Binds K d_stretch_of_item ["item"] []
  g_stretch_of_item : mg "stretch_of_item" = some (.ref f_stretch_of_item)
  f_shrink_of_item : Addr
  d_shrink_of_item : FuncData
  u_shrink_of_item : Fun K "shrink_of_item" "shrink_of_item" (topS 8) f_shrink_of_item d_shrink_of_item
  b_shrink_of_item : Binds K d_shrink_of_item ["item"] []
  g_shrink_of_item : mg "shrink_of_item" = some (.ref f_shrink_of_item)
  f_is_line_end : Addr
  d_is_line_end : FuncData
  u_is_line_end : Fun K "is_line_end" "is_line_end" (topS 9) f_is_line_end d_is_line_end
  b_is_line_end : Binds K d_is_line_end ["items", "position"] []
  g_is_line_end : mg "is_line_end" = some (.ref f_is_line_end)
  f_sums_of : Addr
  d_sums_of : FuncData
  u_sums_of : Fun K "sums_of" "sums_of" (topS 10) f_sums_of d_sums_of
  b_sums_of : Binds K d_sums_of ["numbers"] []
  g_sums_of : mg "sums_of" = some (.ref f_sums_of)
  f_first_from : Addr
  d_first_from : FuncData
  u_first_from : Fun K "first_from" "first_from" (topS 11) f_first_from d_first_from
  b_first_from : Binds K d_first_from ["marks", "beyond"] []
  g_first_from : mg "first_from" = some (.ref f_first_from)
  f_Measures___init__ : Addr
  d_Measures___init__ : FuncData
  u_Measures___init__ : Fun K "__init__" "Measures.__init__" (inClass (topS 12) 0) f_Measures___init__ d_Measures___init__
  b_Measures___init__ : Binds K d_Measures___init__ ["self", "items"] []
  mk_Measures : Mk K C_Measures f_Measures___init__
  f_Measures_ends_behind : Addr
  d_Measures_ends_behind : FuncData
  u_Measures_ends_behind : Fun K "ends_behind" "Measures.ends_behind" (inClass (topS 12) 2) f_Measures_ends_behind d_Measures_ends_behind
  b_Measures_ends_behind : Binds K d_Measures_ends_behind ["self", "start"] []
  mt_Measures_ends_behind : Meth K C_Measures "ends_behind" f_Measures_ends_behind
  f_Measures_bounds : Addr
  d_Measures_bounds : FuncData
  u_Measures_bounds : Fun K "bounds" "Measures.bounds" (inClass (topS 12) 3) f_Measures_bounds d_Measures_bounds
  b_Measures_bounds : Binds K d_Measures_bounds ["self", "start", "end"] []
  mt_Measures_bounds : Meth K C_Measures "bounds" f_Measures_bounds
  f_Measures_measure : Addr
  d_Measures_measure : FuncData
  u_Measures_measure : Fun K "measure" "Measures.measure" (inClass (topS 12) 5) f_Measures_measure d_Measures_measure
  b_Measures_measure : Binds K d_Measures_measure ["self", "start", "end"] []
  mt_Measures_measure : Meth K C_Measures "measure" f_Measures_measure
  f_Measures_has_hyphen : Addr
  d_Measures_has_hyphen : FuncData
  u_Measures_has_hyphen : Fun K "has_hyphen" "Measures.has_hyphen" (inClass (topS 12) 6) f_Measures_has_hyphen d_Measures_has_hyphen
  b_Measures_has_hyphen : Binds K d_Measures_has_hyphen ["self", "end"] []
  mt_Measures_has_hyphen : Meth K C_Measures "has_hyphen" f_Measures_has_hyphen
  f_Measures_hyphen_width : Addr
  d_Measures_hyphen_width : FuncData
  u_Measures_hyphen_width : Fun K "hyphen_width" "Measures.hyphen_width" (inClass (topS 12) 7) f_Measures_hyphen_width d_Measures_hyphen_width
  b_Measures_hyphen_width : Binds K d_Measures_hyphen_width ["self", "end"] []
  mt_Measures_hyphen_width : Meth K C_Measures "hyphen_width" f_Measures_hyphen_width
  f_Measures_is_loose : Addr
  d_Measures_is_loose : FuncData
  u_Measures_is_loose : Fun K "is_loose" "Measures.is_loose" (inClass (topS 12) 9) f_Measures_is_loose d_Measures_is_loose
  b_Measures_is_loose : Binds K d_Measures_is_loose ["self", "end"] []
  mt_Measures_is_loose : Meth K C_Measures "is_loose" f_Measures_is_loose
  f_kept_before : Addr
  d_kept_before : FuncData
  u_kept_before : Fun K "kept_before" "kept_before" (topS 13) f_kept_before d_kept_before
  b_kept_before : Binds K d_kept_before ["items"] []
  g_kept_before : mg "kept_before" = some (.ref f_kept_before)
  f_needs : Addr
  d_needs : FuncData
  u_needs : Fun K "needs" "needs" (topS 15) f_needs d_needs
  b_needs : Binds K d_needs ["items"] []
  g_needs : mg "needs" = some (.ref f_needs)
  f_least_width : Addr
  d_least_width : FuncData
  u_least_width : Fun K "least_width" "least_width" (topS 16) f_least_width d_least_width
  b_least_width : Binds K d_least_width ["measures"] []
  g_least_width : mg "least_width" = some (.ref f_least_width)
  f_widest_width : Addr
  d_widest_width : FuncData
  u_widest_width : Fun K "widest_width" "widest_width" (topS 17) f_widest_width d_widest_width
  b_widest_width : Binds K d_widest_width ["measures"] []
  g_widest_width : mg "widest_width" = some (.ref f_widest_width)
  f_law_cell : Addr
  d_law_cell : FuncData
  u_law_cell : Fun K "_law_cell" "_law_cell" (topS 19) f_law_cell d_law_cell
  b_law_cell : Binds K d_law_cell ["script", "k"] []
  g_law_cell : mg "_law_cell" = some (.ref f_law_cell)
  f_law_draws : Addr
  d_law_draws : FuncData
  u_law_draws : Fun K "_law_draws" "_law_draws" (topS 20) f_law_draws d_law_draws
  b_law_draws : Binds K d_law_draws ["cell", "count"] []
  g_law_draws : mg "_law_draws" = some (.ref f_law_draws)
  f_law_is_integer : Addr
  d_law_is_integer : FuncData
  u_law_is_integer : Fun K "_law_is_integer" "_law_is_integer" (topS 21) f_law_is_integer d_law_is_integer
  b_law_is_integer : Binds K d_law_is_integer ["actual"] []
  g_law_is_integer : mg "_law_is_integer" = some (.ref f_law_is_integer)
  f_law_big : Addr
  d_law_big : FuncData
  u_law_big : Fun K "_law_big" "_law_big" (topS 22) f_law_big d_law_big
  b_law_big : Binds K d_law_big ["cell"] []
  g_law_big : mg "_law_big" = some (.ref f_law_big)
  f_law_item : Addr
  d_law_item : FuncData
  u_law_item : Fun K "_law_item" "_law_item" (topS 23) f_law_item d_law_item
  b_law_item : Binds K d_law_item ["draw", "small"] []
  g_law_item : mg "_law_item" = some (.ref f_law_item)
  f_law_items : Addr
  d_law_items : FuncData
  u_law_items : Fun K "_law_items" "_law_items" (topS 24) f_law_items d_law_items
  b_law_items : Binds K d_law_items ["draws", "count", "small"] []
  g_law_items : mg "_law_items" = some (.ref f_law_items)
  f_law_is_blank : Addr
  d_law_is_blank : FuncData
  u_law_is_blank : Fun K "_law_is_blank" "_law_is_blank" (topS 25) f_law_is_blank d_law_is_blank
  b_law_is_blank : Binds K d_law_is_blank ["item"] []
  g_law_is_blank : mg "_law_is_blank" = some (.ref f_law_is_blank)
  f_law_shown : Addr
  d_law_shown : FuncData
  u_law_shown : Fun K "_law_shown" "_law_shown" (topS 26) f_law_shown d_law_shown
  b_law_shown : Binds K d_law_shown ["items", "start", "end"] []
  g_law_shown : mg "_law_shown" = some (.ref f_law_shown)
  f_law_may_end : Addr
  d_law_may_end : FuncData
  u_law_may_end : Fun K "_law_may_end" "_law_may_end" (topS 27) f_law_may_end d_law_may_end
  b_law_may_end : Binds K d_law_may_end ["items", "j"] []
  g_law_may_end : mg "_law_may_end" = some (.ref f_law_may_end)
  f_law_sums : Addr
  d_law_sums : FuncData
  u_law_sums : Fun K "_law_sums" "_law_sums" (topS 28) f_law_sums d_law_sums
  b_law_sums : Binds K d_law_sums ["items", "start", "end"] []
  g_law_sums : mg "_law_sums" = some (.ref f_law_sums)
  f_law_can_be_set : Addr
  d_law_can_be_set : FuncData
  u_law_can_be_set : Fun K "_law_can_be_set" "_law_can_be_set" (topS 29) f_law_can_be_set d_law_can_be_set
  b_law_can_be_set : Binds K d_law_can_be_set ["items", "most"] []
  g_law_can_be_set : mg "_law_can_be_set" = some (.ref f_law_can_be_set)
  f_law : Addr
  d_law : FuncData
  u_law : Fun K "law" "law" (topS 30) f_law d_law
  b_law : Binds K d_law ["script"] []
  g_law : mg "law" = some (.ref f_law)
  n_bool : mg "bool" = none
  n_enumerate : mg "enumerate" = none
  n_int : mg "int" = none
  n_isinstance : mg "isinstance" = none
  n_len : mg "len" = none
  n_list : mg "list" = none
  n_max : mg "max" = none
  n_min : mg "min" = none
  n_range : mg "range" = none
  n_reversed : mg "reversed" = none
  n_tuple : mg "tuple" = none
  a_BLANK_KINDS : Addr
  g_BLANK_KINDS : mg "BLANK_KINDS" = some (.ref a_BLANK_KINDS)
  q_BLANK_KINDS : ∀ H : Hp, SqT K H a_BLANK_KINDS (List.map V.str [PySem.Str.ofString "glue", PySem.Str.ofString "penalty", PySem.Str.ofString "forced"])
  a_WIDE_KINDS : Addr
  g_WIDE_KINDS : mg "WIDE_KINDS" = some (.ref a_WIDE_KINDS)
  q_WIDE_KINDS : ∀ H : Hp, SqT K H a_WIDE_KINDS (List.map V.str [PySem.Str.ofString "box", PySem.Str.ofString "page", PySem.Str.ofString "glue"])
  a_SOLID_KINDS : Addr
  g_SOLID_KINDS : mg "SOLID_KINDS" = some (.ref a_SOLID_KINDS)
  q_SOLID_KINDS : ∀ H : Hp, SqT K H a_SOLID_KINDS (List.map V.str [PySem.Str.ofString "box", PySem.Str.ofString "page"])
section
variable {P : Program} {w : World} {K : PySem.W.Frag} {mg : Str → Option Value} {base : Heap}

structure MsOk (o : Cl_Measures) : Prop where
  cnt : 0 ≤ o.f_count
  prt : (o.f_parts.items.length : Int) = o.f_count
  wid : (o.f__widths.length : Int) = o.f_count + 1
  str : (o.f__stretches.length : Int) = o.f_count + 1
  shr : (o.f__shrinks.length : Int) = o.f_count + 1
  eds : (o.f__ends.length : Int) = o.f_count + 1
  nen : (o.f__next_end.length : Int) = o.f_count + 2
  nfo : (o.f__next_forced.length : Int) = o.f_count + 1
  nso : (o.f__next_solid.length : Int) = o.f_count + 1
  fke : (o.f__first_kept.length : Int) = o.f_count + 1
  kbe : (o.f__kept_before.length : Int) = o.f_count + 1
  zen : ∀ x ∈ o.f__next_end, 0 ≤ x
  zfo : ∀ x ∈ o.f__next_forced, 0 ≤ x
  zso : ∀ x ∈ o.f__next_solid, 0 ≤ x
  zfk : ∀ x ∈ o.f__first_kept, 0 ≤ x ∧ x ≤ o.f_count
  zkb : ∀ x ∈ o.f__kept_before, 0 ≤ x ∧ x ≤ o.f_count

/-- its numbers are small -/
def ItOk (i : Itm) : Prop := (0 ≤ i.at1 ∧ i.at1 ≤ 1000) ∧ (0 ≤ i.at2 ∧ i.at2 ≤ 1000) ∧ (0 ≤ i.at3 ∧ i.at3 ≤ 1000)
def LvOk (v : Lv) : Prop := (0 ≤ v.w ∧ v.w ≤ 1000) ∧ (0 ≤ v.f ∧ v.f ≤ 1000) ∧ (0 ≤ v.r ∧ v.r ≤ 1000) ∧ (0 ≤ v.t ∧ v.t ≤ 10000) ∧ (0 ≤ v.g ∧ v.g ≤ 1000)

theorem getD_set_ne {α : Type} (l : List α) {i j : Nat} (v d : α) (h : i ≠ j) : (l.set i v).getD j d = l.getD j d := by
  rw [List.getD_eq_getElem?_getD, List.getD_eq_getElem?_getD, List.getElem?_set_ne h]

def m_is_blank (item_ : Itm) : Bool :=
  (decide ((Itm.kind item_) = (PySem.Str.ofString "glue")) || decide ((Itm.kind item_) = (PySem.Str.ofString "penalty")) || decide ((Itm.kind item_) = (PySem.Str.ofString "forced")))
abbrev s_is_blank : Stmt := (topS 5)
theorem sc_is_blank : FnScope ["item"] ["item"] (defScope s_is_blank) := ⟨rfl, rfl, rfl, by decide +kernel, rfl, by decide +kernel, by decide +kernel⟩
abbrev sp_is_blank (K : PySem.W.Frag) : Sp := PrD K (fun c : Itm => [Dx.toX c]) (fun c => True) (fun c => (m_is_blank c : Bool))
theorem ok_is_blank (T : Txt K mg) : FnOk P w K mg base CX0 1 T.f_is_blank T.d_is_blank ["item"] (sp_is_blank K) := by
  refine T.u_is_blank.ok sc_is_blank (fun vs H Q E h => ?_) (fun cdv A outer s H vs Q E hr h => ?_)
  · obtain ⟨Mc, c, mok, da, pre, q⟩ := h
    exact (dpa_len da)
  · obtain ⟨Mc, c, mok, da, pre, q⟩ := h
    obtain ⟨item_, rfl⟩ : ∃ z, z = c := ⟨c, rfl⟩
    dsimp only at da pre q
    obtain ⟨v0, w0, rfl, d0, da0⟩ := dpa_inv da
    cases dpa_inv0 da0
    have s0 : Sg K Mc H H [(v0, Dx.toX item_)] [] := Sg.enter mok ⟨d0, True.intro⟩
    refine ⟨_, (pss_cons (ps_ret (pe_cmpR op_in_seq (pe_ix ix_tup (pv 0) pe_int (fun _ _ => rfl)) (pe_glob (v := .ref T.a_BLANK_KINDS) rfl T.g_BLANK_KINDS rfl) (by rfl))) pss_nil), ?_⟩
    have hF1 : m_is_blank item_ = (decide ((Itm.kind item_) = (PySem.Str.ofString "glue")) || decide ((Itm.kind item_) = (PySem.Str.ofString "penalty")) || decide ((Itm.kind item_) = (PySem.Str.ofString "forced"))) := (by  first | (simp only [m_is_blank, if_true, if_false, Bool.false_eq_true, decide_true, decide_false, Option.getD_some, Option.isNone_none, Option.isNone_some, Bool.not_true, Bool.not_false, ↓reduceIte]; done) | (rfl; done) | ((unfold m_is_blank); (dsimp only); first | done | rfl))
    exact zq_ret s0 ((hv_inVS false (hv_it0 (hv_var (x := item_) rfl s0.im.1)) (hv_gtup T.q_BLANK_KINDS)).is (show _ = (decide ((Itm.kind item_) = (PySem.Str.ofString "glue")) || decide ((Itm.kind item_) = (PySem.Str.ofString "penalty")) || decide ((Itm.kind item_) = (PySem.Str.ofString "forced"))) by simp [Bool.or_assoc])) fun v H' e d => q v H' e (by rw [hF1]; exact d)
def m_width_of_item (item_ : Itm) : Int :=
  (if (decide ((Itm.kind item_) = (PySem.Str.ofString "box")) || decide ((Itm.kind item_) = (PySem.Str.ofString "page")) || decide ((Itm.kind item_) = (PySem.Str.ofString "glue"))) = true then (Itm.at1 item_) else (0 : Int))
abbrev s_width_of_item : Stmt := (topS 6)
theorem sc_width_of_item : FnScope ["item"] ["item"] (defScope s_width_of_item) := ⟨rfl, rfl, rfl, by decide +kernel, rfl, by decide +kernel, by decide +kernel⟩
abbrev sp_width_of_item (K : PySem.W.Frag) : Sp := PrD K (fun c : Itm => [Dx.toX c]) (fun c => True) (fun c => (m_width_of_item c : Int))
theorem ok_width_of_item (T : Txt K mg) : FnOk P w K mg base CX0 1 T.f_width_of_item T.d_width_of_item ["item"] (sp_width_of_item K) := by
  refine T.u_width_of_item.ok sc_width_of_item (fun vs H Q E h => ?_) (fun cdv A outer s H vs Q E hr h => ?_)
  · obtain ⟨Mc, c, mok, da, pre, q⟩ := h
    exact (dpa_len da)
  · obtain ⟨Mc, c, mok, da, pre, q⟩ := h
    obtain ⟨item_, rfl⟩ : ∃ z, z = c := ⟨c, rfl⟩
    dsimp only at da pre q
    obtain ⟨v0, w0, rfl, d0, da0⟩ := dpa_inv da
    cases dpa_inv0 da0
    have s0 : Sg K Mc H H [(v0, Dx.toX item_)] [] := Sg.enter mok ⟨d0, True.intro⟩
    refine ⟨_, (pss_cons (ps_ret (pe_ifExp (pt_cmpR op_in_seq (pe_ix ix_tup (pv 0) pe_int (fun _ _ => rfl)) (pe_glob (v := .ref T.a_WIDE_KINDS) rfl T.g_WIDE_KINDS rfl) (by rfl)) (pe_ix ix_tup (pv 0) pe_int (fun _ _ => rfl)) pe_int)) pss_nil), ?_⟩
    have hF1 : m_width_of_item item_ = (if (decide ((Itm.kind item_) = (PySem.Str.ofString "box")) || decide ((Itm.kind item_) = (PySem.Str.ofString "page")) || decide ((Itm.kind item_) = (PySem.Str.ofString "glue"))) = true then (Itm.at1 item_) else (0 : Int)) := (by  first | (simp only [m_width_of_item, if_true, if_false, Bool.false_eq_true, decide_true, decide_false, Option.getD_some, Option.isNone_none, Option.isNone_some, Bool.not_true, Bool.not_false, ↓reduceIte]; done) | (rfl; done) | ((unfold m_width_of_item); (dsimp only); first | done | rfl))
    exact zq_ret s0 (hv_ite (ht_val (K := K) ((hv_inVS false (hv_it0 (hv_var (x := item_) rfl s0.im.1)) (hv_gtup T.q_WIDE_KINDS)).is (show _ = (decide ((Itm.kind item_) = (PySem.Str.ofString "box")) || decide ((Itm.kind item_) = (PySem.Str.ofString "page")) || decide ((Itm.kind item_) = (PySem.Str.ofString "glue"))) by simp [Bool.or_assoc]))) (fun hi1 => (hv_it1 (hv_var (x := item_) rfl s0.im.1) (by first | omega | (have h9 := hi1; simp only [kd_box, kd_glue, kd_pen, kd_hyp, kd_forced, kd_note, kd_label, kd_page, Bool.or_eq_true, Bool.and_eq_true, decide_eq_true_eq, Bool.not_eq_true', Bool.not_eq_false', Bool.or_eq_false_iff, decide_eq_false_iff_not] at h9; omega) | (have h9 := hi2; simp only [kd_box, kd_glue, kd_pen, kd_hyp, kd_forced, kd_note, kd_label, kd_page, Bool.or_eq_true, Bool.and_eq_true, decide_eq_true_eq, Bool.not_eq_true', Bool.not_eq_false', Bool.or_eq_false_iff, decide_eq_false_iff_not] at h9; omega) | (have h9 := hb0; simp only [kd_box, kd_glue, kd_pen, kd_hyp, kd_forced, kd_note, kd_label, kd_page, Bool.or_eq_true, Bool.and_eq_true, decide_eq_true_eq, Bool.not_eq_true', Bool.not_eq_false', Bool.or_eq_false_iff, decide_eq_false_iff_not] at h9; omega) | (have h9 := hb1; simp only [kd_box, kd_glue, kd_pen, kd_hyp, kd_forced, kd_note, kd_label, kd_page, Bool.or_eq_true, Bool.and_eq_true, decide_eq_true_eq, Bool.not_eq_true', Bool.not_eq_false', Bool.or_eq_false_iff, decide_eq_false_iff_not] at h9; omega) | (have h9 := hb2; simp only [kd_box, kd_glue, kd_pen, kd_hyp, kd_forced, kd_note, kd_label, kd_page, Bool.or_eq_true, Bool.and_eq_true, decide_eq_true_eq, Bool.not_eq_true', Bool.not_eq_false', Bool.or_eq_false_iff, decide_eq_false_iff_not] at h9; omega)))) (fun hi2 => (hv_int 0))) fun v H' e d => q v H' e (by rw [hF1]; exact d)
def m_stretch_of_item (item_ : Itm) : Int :=
  (if (decide ((Itm.kind item_) = (PySem.Str.ofString "glue"))) = true then (Itm.at2 item_) else (0 : Int))
abbrev s_stretch_of_item : Stmt := (topS 7)
theorem sc_stretch_of_item : FnScope ["item"] ["item"] (defScope s_stretch_of_item) := ⟨rfl, rfl, rfl, by decide +kernel, rfl, by decide +kernel, by decide +kernel⟩
abbrev sp_stretch_of_item (K : PySem.W.Frag) : Sp := PrD K (fun c : Itm => [Dx.toX c]) (fun c => True) (fun c => (m_stretch_of_item c : Int))
theorem ok_stretch_of_item (T : Txt K mg) : FnOk P w K mg base CX0 1 T.f_stretch_of_item T.d_stretch_of_item ["item"] (sp_stretch_of_item K) := by
  refine T.u_stretch_of_item.ok sc_stretch_of_item (fun vs H Q E h => ?_) (fun cdv A outer s H vs Q E hr h => ?_)
  · obtain ⟨Mc, c, mok, da, pre, q⟩ := h
    exact (dpa_len da)
  · obtain ⟨Mc, c, mok, da, pre, q⟩ := h
    obtain ⟨item_, rfl⟩ : ∃ z, z = c := ⟨c, rfl⟩
    dsimp only at da pre q
    obtain ⟨v0, w0, rfl, d0, da0⟩ := dpa_inv da
    cases dpa_inv0 da0
    have s0 : Sg K Mc H H [(v0, Dx.toX item_)] [] := Sg.enter mok ⟨d0, True.intro⟩
    refine ⟨_, (pss_cons (ps_ret (pe_ifExp (pt_cmpR op_eq (pe_ix ix_tup (pv 0) pe_int (fun _ _ => rfl)) pe_str (nomark _)) (pe_ix ix_tup (pv 0) pe_int (fun _ _ => rfl)) pe_int)) pss_nil), ?_⟩
    have hF1 : m_stretch_of_item item_ = (if (decide ((Itm.kind item_) = (PySem.Str.ofString "glue"))) = true then (Itm.at2 item_) else (0 : Int)) := (by  first | (simp only [m_stretch_of_item, if_true, if_false, Bool.false_eq_true, decide_true, decide_false, Option.getD_some, Option.isNone_none, Option.isNone_some, Bool.not_true, Bool.not_false, ↓reduceIte]; done) | (rfl; done) | ((unfold m_stretch_of_item); (dsimp only); first | done | rfl))
    exact zq_ret s0 (hv_ite (ht_val (K := K) (hv_eqS (hv_it0 (hv_var (x := item_) rfl s0.im.1)) (hv_str _))) (fun hi1 => (hv_it2 (hv_var (x := item_) rfl s0.im.1) (by first | omega | (have h9 := hi1; simp only [kd_box, kd_glue, kd_pen, kd_hyp, kd_forced, kd_note, kd_label, kd_page, Bool.or_eq_true, Bool.and_eq_true, decide_eq_true_eq, Bool.not_eq_true', Bool.not_eq_false', Bool.or_eq_false_iff, decide_eq_false_iff_not] at h9; omega) | (have h9 := hi2; simp only [kd_box, kd_glue, kd_pen, kd_hyp, kd_forced, kd_note, kd_label, kd_page, Bool.or_eq_true, Bool.and_eq_true, decide_eq_true_eq, Bool.not_eq_true', Bool.not_eq_false', Bool.or_eq_false_iff, decide_eq_false_iff_not] at h9; omega) | (have h9 := hb0; simp only [kd_box, kd_glue, kd_pen, kd_hyp, kd_forced, kd_note, kd_label, kd_page, Bool.or_eq_true, Bool.and_eq_true, decide_eq_true_eq, Bool.not_eq_true', Bool.not_eq_false', Bool.or_eq_false_iff, decide_eq_false_iff_not] at h9; omega) | (have h9 := hb1; simp only [kd_box, kd_glue, kd_pen, kd_hyp, kd_forced, kd_note, kd_label, kd_page, Bool.or_eq_true, Bool.and_eq_true, decide_eq_true_eq, Bool.not_eq_true', Bool.not_eq_false', Bool.or_eq_false_iff, decide_eq_false_iff_not] at h9; omega) | (have h9 := hb2; simp only [kd_box, kd_glue, kd_pen, kd_hyp, kd_forced, kd_note, kd_label, kd_page, Bool.or_eq_true, Bool.and_eq_true, decide_eq_true_eq, Bool.not_eq_true', Bool.not_eq_false', Bool.or_eq_false_iff, decide_eq_false_iff_not] at h9; omega)))) (fun hi2 => (hv_int 0))) fun v H' e d => q v H' e (by rw [hF1]; exact d)
def m_shrink_of_item (item_ : Itm) : Int :=
  (if (decide ((Itm.kind item_) = (PySem.Str.ofString "glue"))) = true then (Itm.at3 item_) else (0 : Int))
abbrev s_shrink_of_item : Stmt := (topS 8)
theorem sc_shrink_of_item : FnScope ["item"] ["item"] (defScope s_shrink_of_item) := ⟨rfl, rfl, rfl, by decide +kernel, rfl, by decide +kernel, by decide +kernel⟩
abbrev sp_shrink_of_item (K : PySem.W.Frag) : Sp := PrD K (fun c : Itm => [Dx.toX c]) (fun c => True) (fun c => (m_shrink_of_item c : Int))
theorem ok_shrink_of_item (T : Txt K mg) : FnOk P w K mg base CX0 1 T.f_shrink_of_item T.d_shrink_of_item ["item"] (sp_shrink_of_item K) := by
  refine T.u_shrink_of_item.ok sc_shrink_of_item (fun vs H Q E h => ?_) (fun cdv A outer s H vs Q E hr h => ?_)
  · obtain ⟨Mc, c, mok, da, pre, q⟩ := h
    exact (dpa_len da)
  · obtain ⟨Mc, c, mok, da, pre, q⟩ := h
    obtain ⟨item_, rfl⟩ : ∃ z, z = c := ⟨c, rfl⟩
    dsimp only at da pre q
    obtain ⟨v0, w0, rfl, d0, da0⟩ := dpa_inv da
    cases dpa_inv0 da0
    have s0 : Sg K Mc H H [(v0, Dx.toX item_)] [] := Sg.enter mok ⟨d0, True.intro⟩
    refine ⟨_, (pss_cons (ps_ret (pe_ifExp (pt_cmpR op_eq (pe_ix ix_tup (pv 0) pe_int (fun _ _ => rfl)) pe_str (nomark _)) (pe_ix ix_tup (pv 0) pe_int (fun _ _ => rfl)) pe_int)) pss_nil), ?_⟩
    have hF1 : m_shrink_of_item item_ = (if (decide ((Itm.kind item_) = (PySem.Str.ofString "glue"))) = true then (Itm.at3 item_) else (0 : Int)) := (by  first | (simp only [m_shrink_of_item, if_true, if_false, Bool.false_eq_true, decide_true, decide_false, Option.getD_some, Option.isNone_none, Option.isNone_some, Bool.not_true, Bool.not_false, ↓reduceIte]; done) | (rfl; done) | ((unfold m_shrink_of_item); (dsimp only); first | done | rfl))
    exact zq_ret s0 (hv_ite (ht_val (K := K) (hv_eqS (hv_it0 (hv_var (x := item_) rfl s0.im.1)) (hv_str _))) (fun hi1 => (hv_it3 (hv_var (x := item_) rfl s0.im.1) (by first | omega | (have h9 := hi1; simp only [kd_box, kd_glue, kd_pen, kd_hyp, kd_forced, kd_note, kd_label, kd_page, Bool.or_eq_true, Bool.and_eq_true, decide_eq_true_eq, Bool.not_eq_true', Bool.not_eq_false', Bool.or_eq_false_iff, decide_eq_false_iff_not] at h9; omega) | (have h9 := hi2; simp only [kd_box, kd_glue, kd_pen, kd_hyp, kd_forced, kd_note, kd_label, kd_page, Bool.or_eq_true, Bool.and_eq_true, decide_eq_true_eq, Bool.not_eq_true', Bool.not_eq_false', Bool.or_eq_false_iff, decide_eq_false_iff_not] at h9; omega) | (have h9 := hb0; simp only [kd_box, kd_glue, kd_pen, kd_hyp, kd_forced, kd_note, kd_label, kd_page, Bool.or_eq_true, Bool.and_eq_true, decide_eq_true_eq, Bool.not_eq_true', Bool.not_eq_false', Bool.or_eq_false_iff, decide_eq_false_iff_not] at h9; omega) | (have h9 := hb1; simp only [kd_box, kd_glue, kd_pen, kd_hyp, kd_forced, kd_note, kd_label, kd_page, Bool.or_eq_true, Bool.and_eq_true, decide_eq_true_eq, Bool.not_eq_true', Bool.not_eq_false', Bool.or_eq_false_iff, decide_eq_false_iff_not] at h9; omega) | (have h9 := hb2; simp only [kd_box, kd_glue, kd_pen, kd_hyp, kd_forced, kd_note, kd_label, kd_page, Bool.or_eq_true, Bool.and_eq_true, decide_eq_true_eq, Bool.not_eq_true', Bool.not_eq_false', Bool.or_eq_false_iff, decide_eq_false_iff_not] at h9; omega)))) (fun hi2 => (hv_int 0))) fun v H' e d => q v H' e (by rw [hF1]; exact d)
def m_sums_of_l0  (s_ : (List Int)) (x_ : Int) : (List Int) :=
  let sums_ : (List Int) := s_
  let number_ : Int := x_
  let sums_ : (List Int) := sums_ ++ [((sums_.getD ((sums_).length - 1) 0) + number_)]
  sums_
def m_sums_of (numbers_ : (List Int)) : (List Int) :=
  let sums_ : (List Int) := [(0 : Int)]
  let r0_ : (List Int) := List.foldl m_sums_of_l0 sums_ numbers_
  let sums_ : (List Int) := r0_
  sums_
abbrev s_sums_of : Stmt := (topS 10)
theorem sc_sums_of : FnScope ["numbers", "sums", "number"] ["numbers"] (defScope s_sums_of) := ⟨rfl, rfl, rfl, by decide +kernel, rfl, by decide +kernel, by decide +kernel⟩
abbrev sp_sums_of (K : PySem.W.Frag) : Sp := PrD K (fun c : (List Int) => [Dx.toX c]) (fun c => c.length ≤ 1000) (fun c => (m_sums_of c : (List Int)))
theorem ok_sums_of (T : Txt K mg) : FnOk P w K mg base CX0 1 T.f_sums_of T.d_sums_of ["numbers"] (sp_sums_of K) := by
  refine T.u_sums_of.ok sc_sums_of (fun vs H Q E h => ?_) (fun cdv A outer s H vs Q E hr h => ?_)
  · obtain ⟨Mc, c, mok, da, pre, q⟩ := h
    exact (dpa_len da)
  · obtain ⟨Mc, c, mok, da, pre, q⟩ := h
    obtain ⟨numbers_, rfl⟩ : ∃ z, z = c := ⟨c, rfl⟩
    dsimp only at da pre q
    obtain ⟨v0, w0, rfl, d0, da0⟩ := dpa_inv da
    cases dpa_inv0 da0
    have s0 : Sg K Mc H H [(v0, Dx.toX numbers_)] [] := Sg.enter mok ⟨d0, True.intro⟩
    refine ⟨_, (pss_cons (ps_set (i := 1) sc_sums_of.nd rfl (.inl rfl) (pe_lst (pa_cons pe_int pa_nil))) (pss_cons (ps_for PassesOwn.never rfl (pi_list (pv 0)) (pg_name (i := 2) sc_sums_of.nd rfl (.inl rfl)) (pss_cons (ps_expr (pe_bm PySem.F.plainAttrs_list PySem.F.slot_list_append PySem.F.type_list_append mt_append (pv 1) (pa_cons (pe_op op_add (pe_ix ix_list (pv 1) (pe_un un_neg pe_int) (fun _ _ => rfl)) (pv 2)) pa_nil))) pss_nil)) (pss_cons (ps_ret (pv 1)) pss_nil))), ?_⟩
    refine z_freshG s0 (hf_lst (has_cons (hv_int 0) has_nil) (Nat.le_of_ble_eq_true rfl)) fun sums_2 hsums_2 ps1 Hs1 s1 => ?_
    try dsimp only at hsums_2
    have lsums_2 := congrArg List.length hsums_2
    try simp only [List.length_map, irng_len, List.length_flatten, List.map_replicate, List.sum_replicate_nat, List.length_cons, List.length_nil] at lsums_2
    refine zq_forG s1 (hv_var (x := numbers_) rfl s1.im.1) (fun vsrc0 i σ' H' => ∃ (sums_3 : (List Int)) (o4 : Option V), (List.foldl m_sums_of_l0 sums_2 numbers_ : (List Int)) = (List.foldl m_sums_of_l0 sums_3 (List.drop i numbers_) : (List Int)) ∧ (sums_3.length = (i) + 1) ∧ σ' = [some v0, some (.ref ps1), o4] ∧ Sg K Mc H H' [(vsrc0, Dx.toX numbers_), (v0, Dx.toX numbers_)] [(ps1, .lst (List.map Dx.toX sums_3))]) (fun vsrc0 Hs5 s5 => ⟨sums_2, _, rfl, (by first | trivial | omega | (simp; done) | simp_all), rfl, s5.keep fun _ h => ⟨h.1, ⟨h.2.1, True.intro⟩⟩⟩) (fun vsrc0 i σ' H' hP => by obtain ⟨sums_3, o4, he, hg, hs, hS⟩ := hP; exact hS.im.1) (fun vsrc0 i9 x10 wx10 σ' Hs8 hi12 hP hx11 => ?_) (fun vsrc0 σ' Hs8 hP => ?_)
    · obtain ⟨sums_3, o4, he6, hg7, rfl, s8⟩ := hP
      have qx10 := (List.getElem?_eq_some_iff.mp hi12).1
      cases (Dt.int hx11)
      refine zq_appG s8 (kk := 0) rfl (ev_var rfl) (hv_add (hv_last 0 (hs_mut s8 (k := 0) rfl rfl) (by first | omega | decide +kernel | (simp only [List.length_cons, List.length_nil]; omega) | (have h9 := hb0; simp only [kd_box, kd_glue, kd_pen, kd_hyp, kd_forced, kd_note, kd_label, kd_page, Bool.or_eq_true, Bool.and_eq_true, decide_eq_true_eq, Bool.not_eq_true', Bool.not_eq_false', Bool.or_eq_false_iff, decide_eq_false_iff_not] at h9; omega) | (have h9 := hb1; simp only [kd_box, kd_glue, kd_pen, kd_hyp, kd_forced, kd_note, kd_label, kd_page, Bool.or_eq_true, Bool.and_eq_true, decide_eq_true_eq, Bool.not_eq_true', Bool.not_eq_false', Bool.or_eq_false_iff, decide_eq_false_iff_not] at h9; omega) | (have h9 := hb2; simp only [kd_box, kd_glue, kd_pen, kd_hyp, kd_forced, kd_note, kd_label, kd_page, Bool.or_eq_true, Bool.and_eq_true, decide_eq_true_eq, Bool.not_eq_true', Bool.not_eq_false', Bool.or_eq_false_iff, decide_eq_false_iff_not] at h9; omega) | (have h9 := hi1; simp only [kd_box, kd_glue, kd_pen, kd_hyp, kd_forced, kd_note, kd_label, kd_page, Bool.or_eq_true, Bool.and_eq_true, decide_eq_true_eq, Bool.not_eq_true', Bool.not_eq_false', Bool.or_eq_false_iff, decide_eq_false_iff_not] at h9; omega) | (have h9 := hi2; simp only [kd_box, kd_glue, kd_pen, kd_hyp, kd_forced, kd_note, kd_label, kd_page, Bool.or_eq_true, Bool.and_eq_true, decide_eq_true_eq, Bool.not_eq_true', Bool.not_eq_false', Bool.or_eq_false_iff, decide_eq_false_iff_not] at h9; omega))) (hv_vI rfl)) (by first | omega | decide +kernel | (simp only [List.length_cons, List.length_nil]; omega) | (have h9 := hb0; simp only [kd_box, kd_glue, kd_pen, kd_hyp, kd_forced, kd_note, kd_label, kd_page, Bool.or_eq_true, Bool.and_eq_true, decide_eq_true_eq, Bool.not_eq_true', Bool.not_eq_false', Bool.or_eq_false_iff, decide_eq_false_iff_not] at h9; omega) | (have h9 := hb1; simp only [kd_box, kd_glue, kd_pen, kd_hyp, kd_forced, kd_note, kd_label, kd_page, Bool.or_eq_true, Bool.and_eq_true, decide_eq_true_eq, Bool.not_eq_true', Bool.not_eq_false', Bool.or_eq_false_iff, decide_eq_false_iff_not] at h9; omega) | (have h9 := hb2; simp only [kd_box, kd_glue, kd_pen, kd_hyp, kd_forced, kd_note, kd_label, kd_page, Bool.or_eq_true, Bool.and_eq_true, decide_eq_true_eq, Bool.not_eq_true', Bool.not_eq_false', Bool.or_eq_false_iff, decide_eq_false_iff_not] at h9; omega) | (have h9 := hi1; simp only [kd_box, kd_glue, kd_pen, kd_hyp, kd_forced, kd_note, kd_label, kd_page, Bool.or_eq_true, Bool.and_eq_true, decide_eq_true_eq, Bool.not_eq_true', Bool.not_eq_false', Bool.or_eq_false_iff, decide_eq_false_iff_not] at h9; omega) | (have h9 := hi2; simp only [kd_box, kd_glue, kd_pen, kd_hyp, kd_forced, kd_note, kd_label, kd_page, Bool.or_eq_true, Bool.and_eq_true, decide_eq_true_eq, Bool.not_eq_true', Bool.not_eq_false', Bool.or_eq_false_iff, decide_eq_false_iff_not] at h9; omega)) fun sums_15 hsums_15 Hs14 s14 => ?_
      have lsums_15 : sums_15.length = sums_3.length + 1 := by rw [hsums_15, List.length_append]; rfl
      have s14 : Sg K Mc _ _ _ [(ps1, .lst (List.map Dx.toX sums_15))] := s14
      have hf16 : m_sums_of_l0 sums_3 x10 = sums_15 := (by subst hsums_15; subst hsums_2; first | (simp only [m_sums_of_l0, if_true, if_false, Bool.false_eq_true, decide_true, decide_false, Option.getD_some, Option.isNone_none, Option.isNone_some, Bool.not_true, Bool.not_false, ↓reduceIte]; done) | (rfl; done) | ((unfold m_sums_of_l0); (dsimp only); first | done | rfl))
      exact ⟨sums_15, _, he6.trans ((foldl_step hi12).trans (by rw [hf16])), (by first | trivial | omega | (simp_all; done) | (simp_all; omega)), rfl, s14.keep fun _ h => ⟨h.1, ⟨h.2.1, True.intro⟩⟩⟩
    · obtain ⟨sums_17, o18, he20, hg21, rfl, s19⟩ := hP
      rw [foldl_end] at he20
      have s22 := Sg.frz (xs := sums_17) s19
      have hF23 : m_sums_of numbers_ = sums_17 := (by subst hsums_2; first | (simp only [m_sums_of, he20, if_true, if_false, Bool.false_eq_true, decide_true, decide_false, Option.getD_some, Option.isNone_none, Option.isNone_some, Bool.not_true, Bool.not_false, ↓reduceIte]; done) | (rfl; done) | ((unfold m_sums_of); (dsimp only); (first | rw [he20] | skip); (try dsimp only); first | done | rfl))
      exact zq_ret s22 (hv_var (x := sums_17) rfl s22.im.1) fun v H' e d => q v H' e (by rw [hF23]; exact d)
def m_first_from_l0 (marks_ : (List Bool)) (s_ : (List Int)) (x_ : Int) : (List Int) :=
  let found_ : (List Int) := s_
  let index_ : Int := x_
  let found_ : (List Int) := found_ ++ [(if (marks_.getD (Int.toNat index_) false) = true then index_ else (found_.getD ((found_).length - 1) 0))]
  found_
def m_first_from (marks_ : (List Bool)) (beyond_ : Int) : (List Int) :=
  let found_ : (List Int) := [beyond_]
  let r0_ : (List Int) := loopN (fun (s_ : (List Int)) (i_ : Int) => (m_first_from_l0 marks_) s_ (((marks_).length : Int) - 1 - i_)) (Int.toNat ((marks_).length : Int)) (0 : Int) found_
  let found_ : (List Int) := r0_
  (List.reverse found_)
abbrev s_first_from : Stmt := (topS 11)
theorem sc_first_from : FnScope ["marks", "beyond", "found", "index"] ["marks", "beyond"] (defScope s_first_from) := ⟨rfl, rfl, rfl, by decide +kernel, rfl, by decide +kernel, by decide +kernel⟩
abbrev sp_first_from (K : PySem.W.Frag) : Sp := PrD K (fun c : (List Bool) × Int => [Dx.toX c.1, Dx.toX c.2]) (fun c => c.1.length ≤ 1001) (fun c => (m_first_from c.1 c.2 : (List Int)))
theorem ok_first_from (T : Txt K mg) : FnOk P w K mg base CX0 1 T.f_first_from T.d_first_from ["marks", "beyond"] (sp_first_from K) := by
  refine T.u_first_from.ok sc_first_from (fun vs H Q E h => ?_) (fun cdv A outer s H vs Q E hr h => ?_)
  · obtain ⟨Mc, c, mok, da, pre, q⟩ := h
    exact (dpa_len da)
  · obtain ⟨Mc, c, mok, da, pre, q⟩ := h
    obtain ⟨marks_, beyond_⟩ := c
    dsimp only at da pre q
    obtain ⟨v0, w0, rfl, d0, da0⟩ := dpa_inv da
    obtain ⟨v1, w1, rfl, d1, da1⟩ := dpa_inv da0
    cases dpa_inv0 da1
    cases (Dt.int d1)
    have s0 : Sg K Mc H H [(v0, Dx.toX marks_)] [] := Sg.enter mok ⟨d0, True.intro⟩
    refine ⟨_, (pss_cons (ps_set (i := 2) sc_first_from.nd rfl (.inl rfl) (pe_lst (pa_cons (pv 1) pa_nil))) (pss_cons (ps_for PassesOwn.never rfl (pi_revR (by rfl) T.n_reversed (prg_1 (by rfl) T.n_range (pe_callB call_len (by rfl) T.n_len (by decide +kernel) (pa_cons (pv 0) pa_nil)))) (pg_name (i := 3) sc_first_from.nd rfl (.inl rfl)) (pss_cons (ps_expr (pe_bm PySem.F.plainAttrs_list PySem.F.slot_list_append PySem.F.type_list_append mt_append (pv 2) (pa_cons (pe_ifExp (pt_val (pe_ix ix_list (pv 0) (pv 3) (fun _ _ => rfl))) (pv 3) (pe_ix ix_list (pv 2) (pe_un un_neg pe_int) (fun _ _ => rfl))) pa_nil))) pss_nil)) (pss_cons (ps_ret (pe_revL (pv 2))) pss_nil))), ?_⟩
    refine z_freshG s0 (hf_lst (has_cons (hv_vI rfl) has_nil) (Nat.le_of_ble_eq_true rfl)) fun found_2 hfound_2 ps1 Hs1 s1 => ?_
    try dsimp only at hfound_2
    have lfound_2 := congrArg List.length hfound_2
    try simp only [List.length_map, irng_len, List.length_flatten, List.map_replicate, List.sum_replicate_nat, List.length_cons, List.length_nil] at lfound_2
    refine zq_forRR s1 (hv_len (hs_of (hv_var (x := marks_) rfl s1.im.1))) (by first | omega | decide +kernel | (simp only [List.length_cons, List.length_nil]; omega) | (have h9 := hb0; simp only [kd_box, kd_glue, kd_pen, kd_hyp, kd_forced, kd_note, kd_label, kd_page, Bool.or_eq_true, Bool.and_eq_true, decide_eq_true_eq, Bool.not_eq_true', Bool.not_eq_false', Bool.or_eq_false_iff, decide_eq_false_iff_not] at h9; omega) | (have h9 := hb1; simp only [kd_box, kd_glue, kd_pen, kd_hyp, kd_forced, kd_note, kd_label, kd_page, Bool.or_eq_true, Bool.and_eq_true, decide_eq_true_eq, Bool.not_eq_true', Bool.not_eq_false', Bool.or_eq_false_iff, decide_eq_false_iff_not] at h9; omega) | (have h9 := hb2; simp only [kd_box, kd_glue, kd_pen, kd_hyp, kd_forced, kd_note, kd_label, kd_page, Bool.or_eq_true, Bool.and_eq_true, decide_eq_true_eq, Bool.not_eq_true', Bool.not_eq_false', Bool.or_eq_false_iff, decide_eq_false_iff_not] at h9; omega) | (have h9 := hi1; simp only [kd_box, kd_glue, kd_pen, kd_hyp, kd_forced, kd_note, kd_label, kd_page, Bool.or_eq_true, Bool.and_eq_true, decide_eq_true_eq, Bool.not_eq_true', Bool.not_eq_false', Bool.or_eq_false_iff, decide_eq_false_iff_not] at h9; omega) | (have h9 := hi2; simp only [kd_box, kd_glue, kd_pen, kd_hyp, kd_forced, kd_note, kd_label, kd_page, Bool.or_eq_true, Bool.and_eq_true, decide_eq_true_eq, Bool.not_eq_true', Bool.not_eq_false', Bool.or_eq_false_iff, decide_eq_false_iff_not] at h9; omega)) (fun i σ' H' => ∃ (found_3 : (List Int)) (o4 : Option V), (loopN (fun (s_ : (List Int)) (i_ : Int) => (m_first_from_l0 marks_) s_ (((marks_).length : Int) - 1 - i_)) (Int.toNat ((marks_).length : Int)) (0 : Int) found_2 : (List Int)) = (loopN (fun (s_ : (List Int)) (i_ : Int) => (m_first_from_l0 marks_) s_ (((marks_).length : Int) - 1 - i_)) ((Int.toNat ((marks_).length : Int)) - i) ((0 : Int) + (i : Int)) found_3 : (List Int)) ∧ (found_3.length = (i) + 1) ∧ σ' = [some v0, some (V.int beyond_), some (.ref ps1), o4] ∧ Sg K Mc H H' [(v0, Dx.toX marks_)] [(ps1, .lst (List.map Dx.toX found_3))]) (fun Hs5 s5 => ⟨found_2, _, (by simp), (by first | trivial | omega | (simp; done) | simp_all), rfl, s5.keep fun _ h => ⟨h.1, True.intro⟩⟩) (fun i9 x10 σ' Hs8 hx11 hi12 hP => ?_) (fun σ' Hs8 hP => ?_)
    · obtain ⟨found_3, o4, he6, hg7, rfl, s8⟩ := hP
      refine zq_appG s8 (kk := 0) rfl (ev_var rfl) (hv_ite (ht_B (K := K) (hv_at false (hs_of (hv_var (x := marks_) rfl s8.im.1)) (hv_vI rfl) (by first | omega | decide +kernel | (simp only [List.length_cons, List.length_nil]; omega) | (have h9 := hb0; simp only [kd_box, kd_glue, kd_pen, kd_hyp, kd_forced, kd_note, kd_label, kd_page, Bool.or_eq_true, Bool.and_eq_true, decide_eq_true_eq, Bool.not_eq_true', Bool.not_eq_false', Bool.or_eq_false_iff, decide_eq_false_iff_not] at h9; omega) | (have h9 := hb1; simp only [kd_box, kd_glue, kd_pen, kd_hyp, kd_forced, kd_note, kd_label, kd_page, Bool.or_eq_true, Bool.and_eq_true, decide_eq_true_eq, Bool.not_eq_true', Bool.not_eq_false', Bool.or_eq_false_iff, decide_eq_false_iff_not] at h9; omega) | (have h9 := hb2; simp only [kd_box, kd_glue, kd_pen, kd_hyp, kd_forced, kd_note, kd_label, kd_page, Bool.or_eq_true, Bool.and_eq_true, decide_eq_true_eq, Bool.not_eq_true', Bool.not_eq_false', Bool.or_eq_false_iff, decide_eq_false_iff_not] at h9; omega) | (have h9 := hi1; simp only [kd_box, kd_glue, kd_pen, kd_hyp, kd_forced, kd_note, kd_label, kd_page, Bool.or_eq_true, Bool.and_eq_true, decide_eq_true_eq, Bool.not_eq_true', Bool.not_eq_false', Bool.or_eq_false_iff, decide_eq_false_iff_not] at h9; omega) | (have h9 := hi2; simp only [kd_box, kd_glue, kd_pen, kd_hyp, kd_forced, kd_note, kd_label, kd_page, Bool.or_eq_true, Bool.and_eq_true, decide_eq_true_eq, Bool.not_eq_true', Bool.not_eq_false', Bool.or_eq_false_iff, decide_eq_false_iff_not] at h9; omega)) (by first | omega | decide +kernel | (simp only [List.length_cons, List.length_nil]; omega) | (have h9 := hb0; simp only [kd_box, kd_glue, kd_pen, kd_hyp, kd_forced, kd_note, kd_label, kd_page, Bool.or_eq_true, Bool.and_eq_true, decide_eq_true_eq, Bool.not_eq_true', Bool.not_eq_false', Bool.or_eq_false_iff, decide_eq_false_iff_not] at h9; omega) | (have h9 := hb1; simp only [kd_box, kd_glue, kd_pen, kd_hyp, kd_forced, kd_note, kd_label, kd_page, Bool.or_eq_true, Bool.and_eq_true, decide_eq_true_eq, Bool.not_eq_true', Bool.not_eq_false', Bool.or_eq_false_iff, decide_eq_false_iff_not] at h9; omega) | (have h9 := hb2; simp only [kd_box, kd_glue, kd_pen, kd_hyp, kd_forced, kd_note, kd_label, kd_page, Bool.or_eq_true, Bool.and_eq_true, decide_eq_true_eq, Bool.not_eq_true', Bool.not_eq_false', Bool.or_eq_false_iff, decide_eq_false_iff_not] at h9; omega) | (have h9 := hi1; simp only [kd_box, kd_glue, kd_pen, kd_hyp, kd_forced, kd_note, kd_label, kd_page, Bool.or_eq_true, Bool.and_eq_true, decide_eq_true_eq, Bool.not_eq_true', Bool.not_eq_false', Bool.or_eq_false_iff, decide_eq_false_iff_not] at h9; omega) | (have h9 := hi2; simp only [kd_box, kd_glue, kd_pen, kd_hyp, kd_forced, kd_note, kd_label, kd_page, Bool.or_eq_true, Bool.and_eq_true, decide_eq_true_eq, Bool.not_eq_true', Bool.not_eq_false', Bool.or_eq_false_iff, decide_eq_false_iff_not] at h9; omega)))) (fun hi1 => (hv_vI rfl)) (fun hi2 => (hv_last 0 (hs_mut s8 (k := 0) rfl rfl) (by first | omega | decide +kernel | (simp only [List.length_cons, List.length_nil]; omega) | (have h9 := hb0; simp only [kd_box, kd_glue, kd_pen, kd_hyp, kd_forced, kd_note, kd_label, kd_page, Bool.or_eq_true, Bool.and_eq_true, decide_eq_true_eq, Bool.not_eq_true', Bool.not_eq_false', Bool.or_eq_false_iff, decide_eq_false_iff_not] at h9; omega) | (have h9 := hb1; simp only [kd_box, kd_glue, kd_pen, kd_hyp, kd_forced, kd_note, kd_label, kd_page, Bool.or_eq_true, Bool.and_eq_true, decide_eq_true_eq, Bool.not_eq_true', Bool.not_eq_false', Bool.or_eq_false_iff, decide_eq_false_iff_not] at h9; omega) | (have h9 := hb2; simp only [kd_box, kd_glue, kd_pen, kd_hyp, kd_forced, kd_note, kd_label, kd_page, Bool.or_eq_true, Bool.and_eq_true, decide_eq_true_eq, Bool.not_eq_true', Bool.not_eq_false', Bool.or_eq_false_iff, decide_eq_false_iff_not] at h9; omega) | (have h9 := hi1; simp only [kd_box, kd_glue, kd_pen, kd_hyp, kd_forced, kd_note, kd_label, kd_page, Bool.or_eq_true, Bool.and_eq_true, decide_eq_true_eq, Bool.not_eq_true', Bool.not_eq_false', Bool.or_eq_false_iff, decide_eq_false_iff_not] at h9; omega) | (have h9 := hi2; simp only [kd_box, kd_glue, kd_pen, kd_hyp, kd_forced, kd_note, kd_label, kd_page, Bool.or_eq_true, Bool.and_eq_true, decide_eq_true_eq, Bool.not_eq_true', Bool.not_eq_false', Bool.or_eq_false_iff, decide_eq_false_iff_not] at h9; omega))))) (by first | omega | decide +kernel | (simp only [List.length_cons, List.length_nil]; omega) | (have h9 := hb0; simp only [kd_box, kd_glue, kd_pen, kd_hyp, kd_forced, kd_note, kd_label, kd_page, Bool.or_eq_true, Bool.and_eq_true, decide_eq_true_eq, Bool.not_eq_true', Bool.not_eq_false', Bool.or_eq_false_iff, decide_eq_false_iff_not] at h9; omega) | (have h9 := hb1; simp only [kd_box, kd_glue, kd_pen, kd_hyp, kd_forced, kd_note, kd_label, kd_page, Bool.or_eq_true, Bool.and_eq_true, decide_eq_true_eq, Bool.not_eq_true', Bool.not_eq_false', Bool.or_eq_false_iff, decide_eq_false_iff_not] at h9; omega) | (have h9 := hb2; simp only [kd_box, kd_glue, kd_pen, kd_hyp, kd_forced, kd_note, kd_label, kd_page, Bool.or_eq_true, Bool.and_eq_true, decide_eq_true_eq, Bool.not_eq_true', Bool.not_eq_false', Bool.or_eq_false_iff, decide_eq_false_iff_not] at h9; omega) | (have h9 := hi1; simp only [kd_box, kd_glue, kd_pen, kd_hyp, kd_forced, kd_note, kd_label, kd_page, Bool.or_eq_true, Bool.and_eq_true, decide_eq_true_eq, Bool.not_eq_true', Bool.not_eq_false', Bool.or_eq_false_iff, decide_eq_false_iff_not] at h9; omega) | (have h9 := hi2; simp only [kd_box, kd_glue, kd_pen, kd_hyp, kd_forced, kd_note, kd_label, kd_page, Bool.or_eq_true, Bool.and_eq_true, decide_eq_true_eq, Bool.not_eq_true', Bool.not_eq_false', Bool.or_eq_false_iff, decide_eq_false_iff_not] at h9; omega)) fun found_15 hfound_15 Hs14 s14 => ?_
      have lfound_15 : found_15.length = found_3.length + 1 := by rw [hfound_15, List.length_append]; rfl
      have s14 : Sg K Mc _ _ _ [(ps1, .lst (List.map Dx.toX found_15))] := s14
      have hf16 : (m_first_from_l0 marks_) found_3 x10 = found_15 := (by subst hfound_15; subst hfound_2; first | (simp only [m_first_from_l0, if_true, if_false, Bool.false_eq_true, decide_true, decide_false, Option.getD_some, Option.isNone_none, Option.isNone_some, Bool.not_true, Bool.not_false, ↓reduceIte]; done) | (rfl; done) | ((unfold m_first_from_l0); (dsimp only); first | done | rfl))
      exact ⟨found_15, _, he6.trans ((loopN_step hi12).trans (by (try dsimp only); rw [← hx11, hf16])), (by first | trivial | omega | (simp_all; done) | (simp_all; omega)), rfl, s14.keep fun _ h => ⟨h.1, True.intro⟩⟩
    · obtain ⟨found_17, o18, he20, hg21, rfl, s19⟩ := hP
      rw [loopN_end] at he20
      have s22 := Sg.frz (xs := found_17) s19
      have hF23 : m_first_from marks_ beyond_ = (List.reverse found_17) := (by subst hfound_2; first | (simp only [m_first_from, he20, if_true, if_false, Bool.false_eq_true, decide_true, decide_false, Option.getD_some, Option.isNone_none, Option.isNone_some, Bool.not_true, Bool.not_false, ↓reduceIte]; done) | (rfl; done) | ((unfold m_first_from); (dsimp only); (first | rw [he20] | skip); (try dsimp only); first | done | rfl))
      exact zq_ret s22 (hv_revL (hs_of (hv_var (x := found_17) rfl s22.im.1))) fun v H' e d => q v H' e (by rw [hF23]; exact d)
def m_Measures_ends_behind (self_ : Cl_Measures) (start_ : Int) : (List Int) :=
  let last_ : Int := (min (self_.f_count) (((self_.f__next_forced).getD (Int.toNat start_) 0) + (1 : Int)))
  (List.map (fun (c_ : Int) => c_) (List.filter (fun (c_ : Int) => ((self_.f__ends).getD (Int.toNat c_) false)) (irng (start_ + (1 : Int)) (Int.toNat ((last_ + (1 : Int)) - (start_ + (1 : Int)))))))
abbrev s_Measures_ends_behind : Stmt := (inClass (topS 12) 2)
theorem sc_Measures_ends_behind : FnScope ["self", "start", "last", "end"] ["self", "start"] (defScope s_Measures_ends_behind) := ⟨rfl, rfl, rfl, by decide +kernel, rfl, by decide +kernel, by decide +kernel⟩
abbrev sp_Measures_ends_behind (K : PySem.W.Frag) : Sp := PrD K (fun c : Cl_Measures × Int => [Dx.toX c.1, Dx.toX c.2]) (fun c => MsOk c.1 ∧ 0 ≤ c.2 ∧ c.2 < c.1.f_count ∧ c.1.f_count ≤ 1000) (fun c => (m_Measures_ends_behind c.1 c.2 : (List Int)))
theorem ok_Measures_ends_behind (T : Txt K mg) : FnOk P w K mg base CX0 1 T.f_Measures_ends_behind T.d_Measures_ends_behind ["self", "start"] (sp_Measures_ends_behind K) := by
  refine T.u_Measures_ends_behind.ok sc_Measures_ends_behind (fun vs H Q E h => ?_) (fun cdv A outer s H vs Q E hr h => ?_)
  · obtain ⟨Mc, c, mok, da, pre, q⟩ := h
    exact (dpa_len da)
  · obtain ⟨Mc, c, mok, da, pre, q⟩ := h
    obtain ⟨self_, start_⟩ := c
    dsimp only at da pre q
    obtain ⟨v0, w0, rfl, d0, da0⟩ := dpa_inv da
    obtain ⟨v1, w1, rfl, d1, da1⟩ := dpa_inv da0
    cases dpa_inv0 da1
    cases (Dt.int d1)
    have s0 : Sg K Mc H H [(v0, Dx.toX self_)] [] := Sg.enter mok ⟨d0, True.intro⟩
    have ok := pre.1
    have ok0 := ok.cnt
    have ok1 := ok.prt
    have ok2 := ok.wid
    have ok3 := ok.str
    have ok4 := ok.shr
    have ok5 := ok.eds
    have ok6 := ok.nen
    have ok7 := ok.nfo
    have ok8 := ok.nso
    have ok9 := ok.fke
    have oka := ok.kbe
    refine ⟨_, (pss_cons (ps_set (i := 2) sc_Measures_ends_behind.nd rfl (.inl rfl) (pe_callB (call_min2 rfl) (by rfl) T.n_min (by decide +kernel) (pa_cons (pe_fld (pv 0) rfl) (pa_cons (pe_op op_add (pe_ix ix_list (pe_fld (pv 0) rfl) (pv 1) (fun _ _ => rfl)) pe_int) pa_nil)))) (pss_cons (ps_ret (pe_lc (own := [("end", 3)]) (g := gName 3) rfl sc_Measures_ends_behind.nd (pi_range2 (by rfl) T.n_range (pa_cons (pe_op op_add (pv 1) pe_int) (pa_cons (pe_op op_add (pv 2) pe_int) pa_nil))) (blkOk_by (own := [("end", 3)]) (N := ["self", "start", "last", "end"]) (sc := defScope s_Measures_ends_behind) (by decide +kernel)) (fun _ _ _ _ _ => (pg_name (i := 3) sc_Measures_ends_behind.nd rfl (Or.inl rfl) (.inr (by rfl)))) (fun _ _ _ _ _ => pts_one (pt_val (pe_ix (show IxR _ (rIxL K) from ix_list) (show PE _ _ (tFld K _ _) from (pe_fld (pv 0) rfl)) (pv 3) (fun _ _ => rfl)))) (fun _ _ _ _ _ => (pv 3)))) pss_nil)), ?_⟩
    refine z_asgIG s0 (hv_min2 (hv_fld (x := (self_.f_count)) 1 (hv_var (x := self_) rfl s0.im.1) T.c_Measures T.na_Measures_count rfl nd_Measures rfl rfl) (hv_add (hv_at 0 (hs_of (hv_fld (x := (self_.f__next_forced)) 7 (hv_var (x := self_) rfl s0.im.1) T.c_Measures T.na_Measures__next_forced rfl nd_Measures rfl rfl)) (hv_vI rfl) (by first | omega | decide +kernel | (simp only [List.length_cons, List.length_nil]; omega) | (have h9 := hb0; simp only [kd_box, kd_glue, kd_pen, kd_hyp, kd_forced, kd_note, kd_label, kd_page, Bool.or_eq_true, Bool.and_eq_true, decide_eq_true_eq, Bool.not_eq_true', Bool.not_eq_false', Bool.or_eq_false_iff, decide_eq_false_iff_not] at h9; omega) | (have h9 := hb1; simp only [kd_box, kd_glue, kd_pen, kd_hyp, kd_forced, kd_note, kd_label, kd_page, Bool.or_eq_true, Bool.and_eq_true, decide_eq_true_eq, Bool.not_eq_true', Bool.not_eq_false', Bool.or_eq_false_iff, decide_eq_false_iff_not] at h9; omega) | (have h9 := hb2; simp only [kd_box, kd_glue, kd_pen, kd_hyp, kd_forced, kd_note, kd_label, kd_page, Bool.or_eq_true, Bool.and_eq_true, decide_eq_true_eq, Bool.not_eq_true', Bool.not_eq_false', Bool.or_eq_false_iff, decide_eq_false_iff_not] at h9; omega) | (have h9 := hi1; simp only [kd_box, kd_glue, kd_pen, kd_hyp, kd_forced, kd_note, kd_label, kd_page, Bool.or_eq_true, Bool.and_eq_true, decide_eq_true_eq, Bool.not_eq_true', Bool.not_eq_false', Bool.or_eq_false_iff, decide_eq_false_iff_not] at h9; omega) | (have h9 := hi2; simp only [kd_box, kd_glue, kd_pen, kd_hyp, kd_forced, kd_note, kd_label, kd_page, Bool.or_eq_true, Bool.and_eq_true, decide_eq_true_eq, Bool.not_eq_true', Bool.not_eq_false', Bool.or_eq_false_iff, decide_eq_false_iff_not] at h9; omega)) (by first | omega | decide +kernel | (simp only [List.length_cons, List.length_nil]; omega) | (have h9 := hb0; simp only [kd_box, kd_glue, kd_pen, kd_hyp, kd_forced, kd_note, kd_label, kd_page, Bool.or_eq_true, Bool.and_eq_true, decide_eq_true_eq, Bool.not_eq_true', Bool.not_eq_false', Bool.or_eq_false_iff, decide_eq_false_iff_not] at h9; omega) | (have h9 := hb1; simp only [kd_box, kd_glue, kd_pen, kd_hyp, kd_forced, kd_note, kd_label, kd_page, Bool.or_eq_true, Bool.and_eq_true, decide_eq_true_eq, Bool.not_eq_true', Bool.not_eq_false', Bool.or_eq_false_iff, decide_eq_false_iff_not] at h9; omega) | (have h9 := hb2; simp only [kd_box, kd_glue, kd_pen, kd_hyp, kd_forced, kd_note, kd_label, kd_page, Bool.or_eq_true, Bool.and_eq_true, decide_eq_true_eq, Bool.not_eq_true', Bool.not_eq_false', Bool.or_eq_false_iff, decide_eq_false_iff_not] at h9; omega) | (have h9 := hi1; simp only [kd_box, kd_glue, kd_pen, kd_hyp, kd_forced, kd_note, kd_label, kd_page, Bool.or_eq_true, Bool.and_eq_true, decide_eq_true_eq, Bool.not_eq_true', Bool.not_eq_false', Bool.or_eq_false_iff, decide_eq_false_iff_not] at h9; omega) | (have h9 := hi2; simp only [kd_box, kd_glue, kd_pen, kd_hyp, kd_forced, kd_note, kd_label, kd_page, Bool.or_eq_true, Bool.and_eq_true, decide_eq_true_eq, Bool.not_eq_true', Bool.not_eq_false', Bool.or_eq_false_iff, decide_eq_false_iff_not] at h9; omega))) (hv_int 1))) fun last_2 hlast_2 Hs1 s1 => ?_
    try dsimp only at hlast_2
    have z9 := getD_P (P := fun z => (0 : Int) ≤ z) pre.1.zfo (Int.le_refl 0) (Int.toNat start_)
    have blast_2 : 0 ≤ last_2 ∧ last_2 ≤ self_.f_count := by rw [hlast_2]; omega
    have hF3 : m_Measures_ends_behind self_ start_ = (List.map (fun (c_ : Int) => c_) (List.filter (fun (c_ : Int) => ((self_.f__ends).getD (Int.toNat c_) false)) (irng (start_ + (1 : Int)) (Int.toNat ((last_2 + (1 : Int)) - (start_ + (1 : Int))))))) := (by subst hlast_2; first | (simp only [m_Measures_ends_behind, if_true, if_false, Bool.false_eq_true, decide_true, decide_false, Option.getD_some, Option.isNone_none, Option.isNone_some, Bool.not_true, Bool.not_false, ↓reduceIte]; done) | (rfl; done) | ((unfold m_Measures_ends_behind); (dsimp only); first | done | rfl))
    exact zq_ret s1 (hv_lcR2 s1 (fun (c_ : Int) => ((self_.f__ends).getD (Int.toNat c_) false)) (fun (c_ : Int) => c_) (hv_add (hv_vI rfl) (hv_int 1)) (hv_add (hv_vI rfl) (hv_int 1)) (by first | omega | decide +kernel | (simp only [List.length_cons, List.length_nil]; omega) | (have h9 := hb0; simp only [kd_box, kd_glue, kd_pen, kd_hyp, kd_forced, kd_note, kd_label, kd_page, Bool.or_eq_true, Bool.and_eq_true, decide_eq_true_eq, Bool.not_eq_true', Bool.not_eq_false', Bool.or_eq_false_iff, decide_eq_false_iff_not] at h9; omega) | (have h9 := hb1; simp only [kd_box, kd_glue, kd_pen, kd_hyp, kd_forced, kd_note, kd_label, kd_page, Bool.or_eq_true, Bool.and_eq_true, decide_eq_true_eq, Bool.not_eq_true', Bool.not_eq_false', Bool.or_eq_false_iff, decide_eq_false_iff_not] at h9; omega) | (have h9 := hb2; simp only [kd_box, kd_glue, kd_pen, kd_hyp, kd_forced, kd_note, kd_label, kd_page, Bool.or_eq_true, Bool.and_eq_true, decide_eq_true_eq, Bool.not_eq_true', Bool.not_eq_false', Bool.or_eq_false_iff, decide_eq_false_iff_not] at h9; omega) | (have h9 := hi1; simp only [kd_box, kd_glue, kd_pen, kd_hyp, kd_forced, kd_note, kd_label, kd_page, Bool.or_eq_true, Bool.and_eq_true, decide_eq_true_eq, Bool.not_eq_true', Bool.not_eq_false', Bool.or_eq_false_iff, decide_eq_false_iff_not] at h9; omega) | (have h9 := hi2; simp only [kd_box, kd_glue, kd_pen, kd_hyp, kd_forced, kd_note, kd_label, kd_page, Bool.or_eq_true, Bool.and_eq_true, decide_eq_true_eq, Bool.not_eq_true', Bool.not_eq_false', Bool.or_eq_false_iff, decide_eq_false_iff_not] at h9; omega)) (fun D5 c6 ys8 Hs4 s4 hx10 Q k => by exact k _ rfl (ht_B (K := K) (hv_at false (hs_of (hv_fld (x := (self_.f__ends)) 5 (hv_var (x := self_) rfl s4.im.1) T.c_Measures T.na_Measures__ends rfl nd_Measures rfl rfl)) (hv_vI rfl) (by first | omega | decide +kernel | (simp only [List.length_cons, List.length_nil]; omega) | (have h9 := hb0; simp only [kd_box, kd_glue, kd_pen, kd_hyp, kd_forced, kd_note, kd_label, kd_page, Bool.or_eq_true, Bool.and_eq_true, decide_eq_true_eq, Bool.not_eq_true', Bool.not_eq_false', Bool.or_eq_false_iff, decide_eq_false_iff_not] at h9; omega) | (have h9 := hb1; simp only [kd_box, kd_glue, kd_pen, kd_hyp, kd_forced, kd_note, kd_label, kd_page, Bool.or_eq_true, Bool.and_eq_true, decide_eq_true_eq, Bool.not_eq_true', Bool.not_eq_false', Bool.or_eq_false_iff, decide_eq_false_iff_not] at h9; omega) | (have h9 := hb2; simp only [kd_box, kd_glue, kd_pen, kd_hyp, kd_forced, kd_note, kd_label, kd_page, Bool.or_eq_true, Bool.and_eq_true, decide_eq_true_eq, Bool.not_eq_true', Bool.not_eq_false', Bool.or_eq_false_iff, decide_eq_false_iff_not] at h9; omega) | (have h9 := hi1; simp only [kd_box, kd_glue, kd_pen, kd_hyp, kd_forced, kd_note, kd_label, kd_page, Bool.or_eq_true, Bool.and_eq_true, decide_eq_true_eq, Bool.not_eq_true', Bool.not_eq_false', Bool.or_eq_false_iff, decide_eq_false_iff_not] at h9; omega) | (have h9 := hi2; simp only [kd_box, kd_glue, kd_pen, kd_hyp, kd_forced, kd_note, kd_label, kd_page, Bool.or_eq_true, Bool.and_eq_true, decide_eq_true_eq, Bool.not_eq_true', Bool.not_eq_false', Bool.or_eq_false_iff, decide_eq_false_iff_not] at h9; omega)) (by first | omega | decide +kernel | (simp only [List.length_cons, List.length_nil]; omega) | (have h9 := hb0; simp only [kd_box, kd_glue, kd_pen, kd_hyp, kd_forced, kd_note, kd_label, kd_page, Bool.or_eq_true, Bool.and_eq_true, decide_eq_true_eq, Bool.not_eq_true', Bool.not_eq_false', Bool.or_eq_false_iff, decide_eq_false_iff_not] at h9; omega) | (have h9 := hb1; simp only [kd_box, kd_glue, kd_pen, kd_hyp, kd_forced, kd_note, kd_label, kd_page, Bool.or_eq_true, Bool.and_eq_true, decide_eq_true_eq, Bool.not_eq_true', Bool.not_eq_false', Bool.or_eq_false_iff, decide_eq_false_iff_not] at h9; omega) | (have h9 := hb2; simp only [kd_box, kd_glue, kd_pen, kd_hyp, kd_forced, kd_note, kd_label, kd_page, Bool.or_eq_true, Bool.and_eq_true, decide_eq_true_eq, Bool.not_eq_true', Bool.not_eq_false', Bool.or_eq_false_iff, decide_eq_false_iff_not] at h9; omega) | (have h9 := hi1; simp only [kd_box, kd_glue, kd_pen, kd_hyp, kd_forced, kd_note, kd_label, kd_page, Bool.or_eq_true, Bool.and_eq_true, decide_eq_true_eq, Bool.not_eq_true', Bool.not_eq_false', Bool.or_eq_false_iff, decide_eq_false_iff_not] at h9; omega) | (have h9 := hi2; simp only [kd_box, kd_glue, kd_pen, kd_hyp, kd_forced, kd_note, kd_label, kd_page, Bool.or_eq_true, Bool.and_eq_true, decide_eq_true_eq, Bool.not_eq_true', Bool.not_eq_false', Bool.or_eq_false_iff, decide_eq_false_iff_not] at h9; omega)))) (fun hf => (hv_vI rfl)))) fun v H' e d => q v H' e (by rw [hF3]; exact d)

theorem ends_in (o : Cl_Measures) (s : Int) (h : 0 ≤ s) : ∀ e ∈ m_Measures_ends_behind o s, s < e ∧ e ≤ o.f_count := fun e he => by
  unfold m_Measures_ends_behind at he
  dsimp only at he
  obtain ⟨c, hc, rfl⟩ := List.mem_map.mp he
  have := (List.mem_filter.mp hc).1
  have := irng_mem.mp this
  omega

def m_Measures_bounds (self_ : Cl_Measures) (start_ : Int) (end_ : Int) : (Int × Int) :=
  let first_ : Int := ((self_.f__first_kept).getD (Int.toNat start_) 0)
  (first_, (max first_ ((self_.f__kept_before).getD (Int.toNat end_) 0)))
abbrev s_Measures_bounds : Stmt := (inClass (topS 12) 3)
theorem sc_Measures_bounds : FnScope ["self", "start", "end", "first"] ["self", "start", "end"] (defScope s_Measures_bounds) := ⟨rfl, rfl, rfl, by decide +kernel, rfl, by decide +kernel, by decide +kernel⟩
abbrev sp_Measures_bounds (K : PySem.W.Frag) : Sp := PrD K (fun c : Cl_Measures × Int × Int => [Dx.toX c.1, Dx.toX c.2.1, Dx.toX c.2.2]) (fun c => MsOk c.1 ∧ 0 ≤ c.2.1 ∧ c.2.1 ≤ c.2.2 ∧ c.2.2 ≤ c.1.f_count) (fun c => (m_Measures_bounds c.1 c.2.1 c.2.2 : (Int × Int)))
theorem ok_Measures_bounds (T : Txt K mg) : FnOk P w K mg base CX0 1 T.f_Measures_bounds T.d_Measures_bounds ["self", "start", "end"] (sp_Measures_bounds K) := by
  refine T.u_Measures_bounds.ok sc_Measures_bounds (fun vs H Q E h => ?_) (fun cdv A outer s H vs Q E hr h => ?_)
  · obtain ⟨Mc, c, mok, da, pre, q⟩ := h
    exact (dpa_len da)
  · obtain ⟨Mc, c, mok, da, pre, q⟩ := h
    obtain ⟨self_, start_, end_⟩ := c
    dsimp only at da pre q
    obtain ⟨v0, w0, rfl, d0, da0⟩ := dpa_inv da
    obtain ⟨v1, w1, rfl, d1, da1⟩ := dpa_inv da0
    obtain ⟨v2, w2, rfl, d2, da2⟩ := dpa_inv da1
    cases dpa_inv0 da2
    cases (Dt.int d1)
    cases (Dt.int d2)
    have s0 : Sg K Mc H H [(v0, Dx.toX self_)] [] := Sg.enter mok ⟨d0, True.intro⟩
    have ok := pre.1
    have ok0 := ok.cnt
    have ok1 := ok.prt
    have ok2 := ok.wid
    have ok3 := ok.str
    have ok4 := ok.shr
    have ok5 := ok.eds
    have ok6 := ok.nen
    have ok7 := ok.nfo
    have ok8 := ok.nso
    have ok9 := ok.fke
    have oka := ok.kbe
    refine ⟨_, (pss_cons (ps_set (i := 3) sc_Measures_bounds.nd rfl (.inl rfl) (pe_ix ix_list (pe_fld (pv 0) rfl) (pv 1) (fun _ _ => rfl))) (pss_cons (ps_ret (pe_tup (pa_cons (pv 3) (pa_cons (pe_callB (call_max2 rfl) (by rfl) T.n_max (by decide +kernel) (pa_cons (pv 3) (pa_cons (pe_ix ix_list (pe_fld (pv 0) rfl) (pv 2) (fun _ _ => rfl)) pa_nil))) pa_nil)))) pss_nil)), ?_⟩
    refine z_asgIG s0 (hv_at 0 (hs_of (hv_fld (x := (self_.f__first_kept)) 9 (hv_var (x := self_) rfl s0.im.1) T.c_Measures T.na_Measures__first_kept rfl nd_Measures rfl rfl)) (hv_vI rfl) (by first | omega | decide +kernel | (simp only [List.length_cons, List.length_nil]; omega) | (have h9 := hb0; simp only [kd_box, kd_glue, kd_pen, kd_hyp, kd_forced, kd_note, kd_label, kd_page, Bool.or_eq_true, Bool.and_eq_true, decide_eq_true_eq, Bool.not_eq_true', Bool.not_eq_false', Bool.or_eq_false_iff, decide_eq_false_iff_not] at h9; omega) | (have h9 := hb1; simp only [kd_box, kd_glue, kd_pen, kd_hyp, kd_forced, kd_note, kd_label, kd_page, Bool.or_eq_true, Bool.and_eq_true, decide_eq_true_eq, Bool.not_eq_true', Bool.not_eq_false', Bool.or_eq_false_iff, decide_eq_false_iff_not] at h9; omega) | (have h9 := hb2; simp only [kd_box, kd_glue, kd_pen, kd_hyp, kd_forced, kd_note, kd_label, kd_page, Bool.or_eq_true, Bool.and_eq_true, decide_eq_true_eq, Bool.not_eq_true', Bool.not_eq_false', Bool.or_eq_false_iff, decide_eq_false_iff_not] at h9; omega) | (have h9 := hi1; simp only [kd_box, kd_glue, kd_pen, kd_hyp, kd_forced, kd_note, kd_label, kd_page, Bool.or_eq_true, Bool.and_eq_true, decide_eq_true_eq, Bool.not_eq_true', Bool.not_eq_false', Bool.or_eq_false_iff, decide_eq_false_iff_not] at h9; omega) | (have h9 := hi2; simp only [kd_box, kd_glue, kd_pen, kd_hyp, kd_forced, kd_note, kd_label, kd_page, Bool.or_eq_true, Bool.and_eq_true, decide_eq_true_eq, Bool.not_eq_true', Bool.not_eq_false', Bool.or_eq_false_iff, decide_eq_false_iff_not] at h9; omega)) (by first | omega | decide +kernel | (simp only [List.length_cons, List.length_nil]; omega) | (have h9 := hb0; simp only [kd_box, kd_glue, kd_pen, kd_hyp, kd_forced, kd_note, kd_label, kd_page, Bool.or_eq_true, Bool.and_eq_true, decide_eq_true_eq, Bool.not_eq_true', Bool.not_eq_false', Bool.or_eq_false_iff, decide_eq_false_iff_not] at h9; omega) | (have h9 := hb1; simp only [kd_box, kd_glue, kd_pen, kd_hyp, kd_forced, kd_note, kd_label, kd_page, Bool.or_eq_true, Bool.and_eq_true, decide_eq_true_eq, Bool.not_eq_true', Bool.not_eq_false', Bool.or_eq_false_iff, decide_eq_false_iff_not] at h9; omega) | (have h9 := hb2; simp only [kd_box, kd_glue, kd_pen, kd_hyp, kd_forced, kd_note, kd_label, kd_page, Bool.or_eq_true, Bool.and_eq_true, decide_eq_true_eq, Bool.not_eq_true', Bool.not_eq_false', Bool.or_eq_false_iff, decide_eq_false_iff_not] at h9; omega) | (have h9 := hi1; simp only [kd_box, kd_glue, kd_pen, kd_hyp, kd_forced, kd_note, kd_label, kd_page, Bool.or_eq_true, Bool.and_eq_true, decide_eq_true_eq, Bool.not_eq_true', Bool.not_eq_false', Bool.or_eq_false_iff, decide_eq_false_iff_not] at h9; omega) | (have h9 := hi2; simp only [kd_box, kd_glue, kd_pen, kd_hyp, kd_forced, kd_note, kd_label, kd_page, Bool.or_eq_true, Bool.and_eq_true, decide_eq_true_eq, Bool.not_eq_true', Bool.not_eq_false', Bool.or_eq_false_iff, decide_eq_false_iff_not] at h9; omega))) fun first_2 hfirst_2 Hs1 s1 => ?_
    try dsimp only at hfirst_2
    have hF3 : m_Measures_bounds self_ start_ end_ = (first_2, (max first_2 ((self_.f__kept_before).getD (Int.toNat end_) 0))) := (by subst hfirst_2; first | (simp only [m_Measures_bounds, if_true, if_false, Bool.false_eq_true, decide_true, decide_false, Option.getD_some, Option.isNone_none, Option.isNone_some, Bool.not_true, Bool.not_false, ↓reduceIte]; done) | (rfl; done) | ((unfold m_Measures_bounds); (dsimp only); first | done | rfl))
    exact zq_ret s1 (hv_tup2 (hv_vI rfl) (hv_max2 (hv_vI rfl) (hv_at 0 (hs_of (hv_fld (x := (self_.f__kept_before)) 10 (hv_var (x := self_) rfl s1.im.1) T.c_Measures T.na_Measures__kept_before rfl nd_Measures rfl rfl)) (hv_vI rfl) (by first | omega | decide +kernel | (simp only [List.length_cons, List.length_nil]; omega) | (have h9 := hb0; simp only [kd_box, kd_glue, kd_pen, kd_hyp, kd_forced, kd_note, kd_label, kd_page, Bool.or_eq_true, Bool.and_eq_true, decide_eq_true_eq, Bool.not_eq_true', Bool.not_eq_false', Bool.or_eq_false_iff, decide_eq_false_iff_not] at h9; omega) | (have h9 := hb1; simp only [kd_box, kd_glue, kd_pen, kd_hyp, kd_forced, kd_note, kd_label, kd_page, Bool.or_eq_true, Bool.and_eq_true, decide_eq_true_eq, Bool.not_eq_true', Bool.not_eq_false', Bool.or_eq_false_iff, decide_eq_false_iff_not] at h9; omega) | (have h9 := hb2; simp only [kd_box, kd_glue, kd_pen, kd_hyp, kd_forced, kd_note, kd_label, kd_page, Bool.or_eq_true, Bool.and_eq_true, decide_eq_true_eq, Bool.not_eq_true', Bool.not_eq_false', Bool.or_eq_false_iff, decide_eq_false_iff_not] at h9; omega) | (have h9 := hi1; simp only [kd_box, kd_glue, kd_pen, kd_hyp, kd_forced, kd_note, kd_label, kd_page, Bool.or_eq_true, Bool.and_eq_true, decide_eq_true_eq, Bool.not_eq_true', Bool.not_eq_false', Bool.or_eq_false_iff, decide_eq_false_iff_not] at h9; omega) | (have h9 := hi2; simp only [kd_box, kd_glue, kd_pen, kd_hyp, kd_forced, kd_note, kd_label, kd_page, Bool.or_eq_true, Bool.and_eq_true, decide_eq_true_eq, Bool.not_eq_true', Bool.not_eq_false', Bool.or_eq_false_iff, decide_eq_false_iff_not] at h9; omega)) (by first | omega | decide +kernel | (simp only [List.length_cons, List.length_nil]; omega) | (have h9 := hb0; simp only [kd_box, kd_glue, kd_pen, kd_hyp, kd_forced, kd_note, kd_label, kd_page, Bool.or_eq_true, Bool.and_eq_true, decide_eq_true_eq, Bool.not_eq_true', Bool.not_eq_false', Bool.or_eq_false_iff, decide_eq_false_iff_not] at h9; omega) | (have h9 := hb1; simp only [kd_box, kd_glue, kd_pen, kd_hyp, kd_forced, kd_note, kd_label, kd_page, Bool.or_eq_true, Bool.and_eq_true, decide_eq_true_eq, Bool.not_eq_true', Bool.not_eq_false', Bool.or_eq_false_iff, decide_eq_false_iff_not] at h9; omega) | (have h9 := hb2; simp only [kd_box, kd_glue, kd_pen, kd_hyp, kd_forced, kd_note, kd_label, kd_page, Bool.or_eq_true, Bool.and_eq_true, decide_eq_true_eq, Bool.not_eq_true', Bool.not_eq_false', Bool.or_eq_false_iff, decide_eq_false_iff_not] at h9; omega) | (have h9 := hi1; simp only [kd_box, kd_glue, kd_pen, kd_hyp, kd_forced, kd_note, kd_label, kd_page, Bool.or_eq_true, Bool.and_eq_true, decide_eq_true_eq, Bool.not_eq_true', Bool.not_eq_false', Bool.or_eq_false_iff, decide_eq_false_iff_not] at h9; omega) | (have h9 := hi2; simp only [kd_box, kd_glue, kd_pen, kd_hyp, kd_forced, kd_note, kd_label, kd_page, Bool.or_eq_true, Bool.and_eq_true, decide_eq_true_eq, Bool.not_eq_true', Bool.not_eq_false', Bool.or_eq_false_iff, decide_eq_false_iff_not] at h9; omega))))) fun v H' e d => q v H' e (by rw [hF3]; exact d)

theorem bounds_ok {o : Cl_Measures} (ok : MsOk o) {s e : Int} (h0 : 0 ≤ s) (h1 : s ≤ e) (h2 : e ≤ o.f_count) : 0 ≤ (m_Measures_bounds o s e).1 ∧ (m_Measures_bounds o s e).1 ≤ (m_Measures_bounds o s e).2 ∧ (m_Measures_bounds o s e).2 ≤ o.f_count := by
  have c := ok.cnt
  have a := getD_P (P := fun x => (0 : Int) ≤ x ∧ x ≤ o.f_count) ok.zfk ⟨Int.le_refl 0, c⟩ s.toNat
  have b := getD_P (P := fun x => (0 : Int) ≤ x ∧ x ≤ o.f_count) ok.zkb ⟨Int.le_refl 0, c⟩ e.toNat
  unfold m_Measures_bounds
  dsimp only
  omega

def m_Measures_has_hyphen (self_ : Cl_Measures) (end_ : Int) : Bool :=
  ((decide ((0 : Int) < end_)) && (decide ((Itm.kind ((self_.f_parts).items.getD (Int.toNat (end_ - (1 : Int))) Itm.forced)) = (PySem.Str.ofString "hyphen"))))
abbrev s_Measures_has_hyphen : Stmt := (inClass (topS 12) 6)
theorem sc_Measures_has_hyphen : FnScope ["self", "end"] ["self", "end"] (defScope s_Measures_has_hyphen) := ⟨rfl, rfl, rfl, by decide +kernel, rfl, by decide +kernel, by decide +kernel⟩
abbrev sp_Measures_has_hyphen (K : PySem.W.Frag) : Sp := PrD K (fun c : Cl_Measures × Int => [Dx.toX c.1, Dx.toX c.2]) (fun c => MsOk c.1 ∧ 0 ≤ c.2 ∧ c.2 ≤ c.1.f_count) (fun c => (m_Measures_has_hyphen c.1 c.2 : Bool))
theorem ok_Measures_has_hyphen (T : Txt K mg) : FnOk P w K mg base CX0 1 T.f_Measures_has_hyphen T.d_Measures_has_hyphen ["self", "end"] (sp_Measures_has_hyphen K) := by
  refine T.u_Measures_has_hyphen.ok sc_Measures_has_hyphen (fun vs H Q E h => ?_) (fun cdv A outer s H vs Q E hr h => ?_)
  · obtain ⟨Mc, c, mok, da, pre, q⟩ := h
    exact (dpa_len da)
  · obtain ⟨Mc, c, mok, da, pre, q⟩ := h
    obtain ⟨self_, end_⟩ := c
    dsimp only at da pre q
    obtain ⟨v0, w0, rfl, d0, da0⟩ := dpa_inv da
    obtain ⟨v1, w1, rfl, d1, da1⟩ := dpa_inv da0
    cases dpa_inv0 da1
    cases (Dt.int d1)
    have s0 : Sg K Mc H H [(v0, Dx.toX self_)] [] := Sg.enter mok ⟨d0, True.intro⟩
    have ok := pre.1
    have ok0 := ok.cnt
    have ok1 := ok.prt
    have ok2 := ok.wid
    have ok3 := ok.str
    have ok4 := ok.shr
    have ok5 := ok.eds
    have ok6 := ok.nen
    have ok7 := ok.nfo
    have ok8 := ok.nso
    have ok9 := ok.fke
    have oka := ok.kbe
    refine ⟨_, (pss_cons (ps_ret (pe_and (pe_cmpR op_gt (pv 1) pe_int (nomark _)) (pe_one (pe_cmpR op_eq (pe_ix ix_tup (pe_ix ix_tup (pe_fld (pv 0) rfl) (pe_op op_sub (pv 1) pe_int) (fun _ _ => rfl)) pe_int (fun _ _ => rfl)) pe_str (nomark _))))) pss_nil), ?_⟩
    have hF1 : m_Measures_has_hyphen self_ end_ = ((decide ((0 : Int) < end_)) && (decide ((Itm.kind ((self_.f_parts).items.getD (Int.toNat (end_ - (1 : Int))) Itm.forced)) = (PySem.Str.ofString "hyphen")))) := (by  first | (simp only [m_Measures_has_hyphen, if_true, if_false, Bool.false_eq_true, decide_true, decide_false, Option.getD_some, Option.isNone_none, Option.isNone_some, Bool.not_true, Bool.not_false, ↓reduceIte]; done) | (rfl; done) | ((unfold m_Measures_has_hyphen); (dsimp only); first | done | rfl))
    exact zq_ret s0 (hv_and (hv_gt (hv_vI rfl) (hv_int 0)) (fun hb0 => (hv_eqS (hv_it0 (hv_atV Itm.forced (hv_fld (x := (self_.f_parts)) 0 (hv_var (x := self_) rfl s0.im.1) T.c_Measures T.na_Measures_parts rfl nd_Measures rfl rfl) (hv_sub (hv_vI rfl) (hv_int 1)) (by first | omega | decide +kernel | (simp only [List.length_cons, List.length_nil]; omega) | (have h9 := hb0; simp only [kd_box, kd_glue, kd_pen, kd_hyp, kd_forced, kd_note, kd_label, kd_page, Bool.or_eq_true, Bool.and_eq_true, decide_eq_true_eq, Bool.not_eq_true', Bool.not_eq_false', Bool.or_eq_false_iff, decide_eq_false_iff_not] at h9; omega) | (have h9 := hb1; simp only [kd_box, kd_glue, kd_pen, kd_hyp, kd_forced, kd_note, kd_label, kd_page, Bool.or_eq_true, Bool.and_eq_true, decide_eq_true_eq, Bool.not_eq_true', Bool.not_eq_false', Bool.or_eq_false_iff, decide_eq_false_iff_not] at h9; omega) | (have h9 := hb2; simp only [kd_box, kd_glue, kd_pen, kd_hyp, kd_forced, kd_note, kd_label, kd_page, Bool.or_eq_true, Bool.and_eq_true, decide_eq_true_eq, Bool.not_eq_true', Bool.not_eq_false', Bool.or_eq_false_iff, decide_eq_false_iff_not] at h9; omega) | (have h9 := hi1; simp only [kd_box, kd_glue, kd_pen, kd_hyp, kd_forced, kd_note, kd_label, kd_page, Bool.or_eq_true, Bool.and_eq_true, decide_eq_true_eq, Bool.not_eq_true', Bool.not_eq_false', Bool.or_eq_false_iff, decide_eq_false_iff_not] at h9; omega) | (have h9 := hi2; simp only [kd_box, kd_glue, kd_pen, kd_hyp, kd_forced, kd_note, kd_label, kd_page, Bool.or_eq_true, Bool.and_eq_true, decide_eq_true_eq, Bool.not_eq_true', Bool.not_eq_false', Bool.or_eq_false_iff, decide_eq_false_iff_not] at h9; omega)) (by first | omega | decide +kernel | (simp only [List.length_cons, List.length_nil]; omega) | (have h9 := hb0; simp only [kd_box, kd_glue, kd_pen, kd_hyp, kd_forced, kd_note, kd_label, kd_page, Bool.or_eq_true, Bool.and_eq_true, decide_eq_true_eq, Bool.not_eq_true', Bool.not_eq_false', Bool.or_eq_false_iff, decide_eq_false_iff_not] at h9; omega) | (have h9 := hb1; simp only [kd_box, kd_glue, kd_pen, kd_hyp, kd_forced, kd_note, kd_label, kd_page, Bool.or_eq_true, Bool.and_eq_true, decide_eq_true_eq, Bool.not_eq_true', Bool.not_eq_false', Bool.or_eq_false_iff, decide_eq_false_iff_not] at h9; omega) | (have h9 := hb2; simp only [kd_box, kd_glue, kd_pen, kd_hyp, kd_forced, kd_note, kd_label, kd_page, Bool.or_eq_true, Bool.and_eq_true, decide_eq_true_eq, Bool.not_eq_true', Bool.not_eq_false', Bool.or_eq_false_iff, decide_eq_false_iff_not] at h9; omega) | (have h9 := hi1; simp only [kd_box, kd_glue, kd_pen, kd_hyp, kd_forced, kd_note, kd_label, kd_page, Bool.or_eq_true, Bool.and_eq_true, decide_eq_true_eq, Bool.not_eq_true', Bool.not_eq_false', Bool.or_eq_false_iff, decide_eq_false_iff_not] at h9; omega) | (have h9 := hi2; simp only [kd_box, kd_glue, kd_pen, kd_hyp, kd_forced, kd_note, kd_label, kd_page, Bool.or_eq_true, Bool.and_eq_true, decide_eq_true_eq, Bool.not_eq_true', Bool.not_eq_false', Bool.or_eq_false_iff, decide_eq_false_iff_not] at h9; omega)))) (hv_str _)))) fun v H' e d => q v H' e (by rw [hF1]; exact d)

theorem hh_ok {o : Cl_Measures} {e : Int} (h : m_Measures_has_hyphen o e = true) : 0 < e ∧ (o.f_parts.items.getD (e - 1).toNat Itm.forced).tag = 3 := by
  unfold m_Measures_has_hyphen at h
  simp only [Bool.and_eq_true, decide_eq_true_eq, kd_hyp] at h
  exact h

def m_Measures_is_loose (self_ : Cl_Measures) (end_ : Int) : Bool :=
  ((decide (end_ = (self_.f_count))) || (decide ((Itm.kind ((self_.f_parts).items.getD (Int.toNat (end_ - (1 : Int))) Itm.forced)) = (PySem.Str.ofString "forced"))))
abbrev s_Measures_is_loose : Stmt := (inClass (topS 12) 9)
theorem sc_Measures_is_loose : FnScope ["self", "end"] ["self", "end"] (defScope s_Measures_is_loose) := ⟨rfl, rfl, rfl, by decide +kernel, rfl, by decide +kernel, by decide +kernel⟩
abbrev sp_Measures_is_loose (K : PySem.W.Frag) : Sp := PrD K (fun c : Cl_Measures × Int => [Dx.toX c.1, Dx.toX c.2]) (fun c => MsOk c.1 ∧ 1 ≤ c.2 ∧ c.2 ≤ c.1.f_count) (fun c => (m_Measures_is_loose c.1 c.2 : Bool))
theorem ok_Measures_is_loose (T : Txt K mg) : FnOk P w K mg base CX0 1 T.f_Measures_is_loose T.d_Measures_is_loose ["self", "end"] (sp_Measures_is_loose K) := by
  refine T.u_Measures_is_loose.ok sc_Measures_is_loose (fun vs H Q E h => ?_) (fun cdv A outer s H vs Q E hr h => ?_)
  · obtain ⟨Mc, c, mok, da, pre, q⟩ := h
    exact (dpa_len da)
  · obtain ⟨Mc, c, mok, da, pre, q⟩ := h
    obtain ⟨self_, end_⟩ := c
    dsimp only at da pre q
    obtain ⟨v0, w0, rfl, d0, da0⟩ := dpa_inv da
    obtain ⟨v1, w1, rfl, d1, da1⟩ := dpa_inv da0
    cases dpa_inv0 da1
    cases (Dt.int d1)
    have s0 : Sg K Mc H H [(v0, Dx.toX self_)] [] := Sg.enter mok ⟨d0, True.intro⟩
    have ok := pre.1
    have ok0 := ok.cnt
    have ok1 := ok.prt
    have ok2 := ok.wid
    have ok3 := ok.str
    have ok4 := ok.shr
    have ok5 := ok.eds
    have ok6 := ok.nen
    have ok7 := ok.nfo
    have ok8 := ok.nso
    have ok9 := ok.fke
    have oka := ok.kbe
    refine ⟨_, (pss_cons (ps_ret (pe_or (pe_cmpR op_eq (pv 1) (pe_fld (pv 0) rfl) (nomark _)) (pe_one (pe_cmpR op_eq (pe_ix ix_tup (pe_ix ix_tup (pe_fld (pv 0) rfl) (pe_op op_sub (pv 1) pe_int) (fun _ _ => rfl)) pe_int (fun _ _ => rfl)) pe_str (nomark _))))) pss_nil), ?_⟩
    have hF1 : m_Measures_is_loose self_ end_ = ((decide (end_ = (self_.f_count))) || (decide ((Itm.kind ((self_.f_parts).items.getD (Int.toNat (end_ - (1 : Int))) Itm.forced)) = (PySem.Str.ofString "forced")))) := (by  first | (simp only [m_Measures_is_loose, if_true, if_false, Bool.false_eq_true, decide_true, decide_false, Option.getD_some, Option.isNone_none, Option.isNone_some, Bool.not_true, Bool.not_false, ↓reduceIte]; done) | (rfl; done) | ((unfold m_Measures_is_loose); (dsimp only); first | done | rfl))
    exact zq_ret s0 (hv_or (hv_eqI (hv_vI rfl) (hv_fld (x := (self_.f_count)) 1 (hv_var (x := self_) rfl s0.im.1) T.c_Measures T.na_Measures_count rfl nd_Measures rfl rfl)) (fun hb0 => (hv_eqS (hv_it0 (hv_atV Itm.forced (hv_fld (x := (self_.f_parts)) 0 (hv_var (x := self_) rfl s0.im.1) T.c_Measures T.na_Measures_parts rfl nd_Measures rfl rfl) (hv_sub (hv_vI rfl) (hv_int 1)) (by first | omega | decide +kernel | (simp only [List.length_cons, List.length_nil]; omega) | (have h9 := hb0; simp only [kd_box, kd_glue, kd_pen, kd_hyp, kd_forced, kd_note, kd_label, kd_page, Bool.or_eq_true, Bool.and_eq_true, decide_eq_true_eq, Bool.not_eq_true', Bool.not_eq_false', Bool.or_eq_false_iff, decide_eq_false_iff_not] at h9; omega) | (have h9 := hb1; simp only [kd_box, kd_glue, kd_pen, kd_hyp, kd_forced, kd_note, kd_label, kd_page, Bool.or_eq_true, Bool.and_eq_true, decide_eq_true_eq, Bool.not_eq_true', Bool.not_eq_false', Bool.or_eq_false_iff, decide_eq_false_iff_not] at h9; omega) | (have h9 := hb2; simp only [kd_box, kd_glue, kd_pen, kd_hyp, kd_forced, kd_note, kd_label, kd_page, Bool.or_eq_true, Bool.and_eq_true, decide_eq_true_eq, Bool.not_eq_true', Bool.not_eq_false', Bool.or_eq_false_iff, decide_eq_false_iff_not] at h9; omega) | (have h9 := hi1; simp only [kd_box, kd_glue, kd_pen, kd_hyp, kd_forced, kd_note, kd_label, kd_page, Bool.or_eq_true, Bool.and_eq_true, decide_eq_true_eq, Bool.not_eq_true', Bool.not_eq_false', Bool.or_eq_false_iff, decide_eq_false_iff_not] at h9; omega) | (have h9 := hi2; simp only [kd_box, kd_glue, kd_pen, kd_hyp, kd_forced, kd_note, kd_label, kd_page, Bool.or_eq_true, Bool.and_eq_true, decide_eq_true_eq, Bool.not_eq_true', Bool.not_eq_false', Bool.or_eq_false_iff, decide_eq_false_iff_not] at h9; omega)) (by first | omega | decide +kernel | (simp only [List.length_cons, List.length_nil]; omega) | (have h9 := hb0; simp only [kd_box, kd_glue, kd_pen, kd_hyp, kd_forced, kd_note, kd_label, kd_page, Bool.or_eq_true, Bool.and_eq_true, decide_eq_true_eq, Bool.not_eq_true', Bool.not_eq_false', Bool.or_eq_false_iff, decide_eq_false_iff_not] at h9; omega) | (have h9 := hb1; simp only [kd_box, kd_glue, kd_pen, kd_hyp, kd_forced, kd_note, kd_label, kd_page, Bool.or_eq_true, Bool.and_eq_true, decide_eq_true_eq, Bool.not_eq_true', Bool.not_eq_false', Bool.or_eq_false_iff, decide_eq_false_iff_not] at h9; omega) | (have h9 := hb2; simp only [kd_box, kd_glue, kd_pen, kd_hyp, kd_forced, kd_note, kd_label, kd_page, Bool.or_eq_true, Bool.and_eq_true, decide_eq_true_eq, Bool.not_eq_true', Bool.not_eq_false', Bool.or_eq_false_iff, decide_eq_false_iff_not] at h9; omega) | (have h9 := hi1; simp only [kd_box, kd_glue, kd_pen, kd_hyp, kd_forced, kd_note, kd_label, kd_page, Bool.or_eq_true, Bool.and_eq_true, decide_eq_true_eq, Bool.not_eq_true', Bool.not_eq_false', Bool.or_eq_false_iff, decide_eq_false_iff_not] at h9; omega) | (have h9 := hi2; simp only [kd_box, kd_glue, kd_pen, kd_hyp, kd_forced, kd_note, kd_label, kd_page, Bool.or_eq_true, Bool.and_eq_true, decide_eq_true_eq, Bool.not_eq_true', Bool.not_eq_false', Bool.or_eq_false_iff, decide_eq_false_iff_not] at h9; omega)))) (hv_str _)))) fun v H' e d => q v H' e (by rw [hF1]; exact d)
def m_law_cell (script_ : (List Int)) (k_ : Int) : Int :=
  if (decide (k_ < ((script_).length : Int))) = true then
    (script_.getD (Int.toNat k_) 0)
  else
    (0 : Int)
abbrev s_law_cell : Stmt := (topS 19)
theorem sc_law_cell : FnScope ["script", "k"] ["script", "k"] (defScope s_law_cell) := ⟨rfl, rfl, rfl, by decide +kernel, rfl, by decide +kernel, by decide +kernel⟩
abbrev sp_law_cell (K : PySem.W.Frag) : Sp := PrD K (fun c : (List Int) × Int => [Dx.toX c.1, Dx.toX c.2]) (fun c => 0 ≤ c.2) (fun c => (m_law_cell c.1 c.2 : Int))
theorem ok_law_cell (T : Txt K mg) : FnOk P w K mg base CX0 1 T.f_law_cell T.d_law_cell ["script", "k"] (sp_law_cell K) := by
  refine T.u_law_cell.ok sc_law_cell (fun vs H Q E h => ?_) (fun cdv A outer s H vs Q E hr h => ?_)
  · obtain ⟨Mc, c, mok, da, pre, q⟩ := h
    exact (dpa_len da)
  · obtain ⟨Mc, c, mok, da, pre, q⟩ := h
    obtain ⟨script_, k_⟩ := c
    dsimp only at da pre q
    obtain ⟨v0, w0, rfl, d0, da0⟩ := dpa_inv da
    obtain ⟨v1, w1, rfl, d1, da1⟩ := dpa_inv da0
    cases dpa_inv0 da1
    cases (Dt.int d1)
    have s0 : Sg K Mc H H [(v0, Dx.toX script_)] [] := Sg.enter mok ⟨d0, True.intro⟩
    refine ⟨_, (pss_cons (ps_if (pt_cmpR op_lt (pv 1) (pe_callB call_len (by rfl) T.n_len (by decide +kernel) (pa_cons (pv 0) pa_nil)) (nomark _)) (pss_cons (ps_ret (pe_ix ix_list (pv 0) (pv 1) (fun _ _ => rfl))) pss_nil) pss_nil) (pss_cons (ps_ret pe_int) pss_nil)), ?_⟩
    refine z_ifx (b := (decide (k_ < ((script_).length : Int)))) s0 (ht_val (K := K) (hv_lt (hv_vI rfl) (hv_len (hs_of (hv_var (x := script_) rfl s0.im.1))))) (fun hb1 Hs2 s2 => ?_) (fun hb1 Hs3 s3 => ?_)
    · have hb1P := hb1
      try simp only [kd_box, kd_glue, kd_pen, kd_hyp, kd_forced, kd_note, kd_label, kd_page, decide_eq_true_eq, decide_eq_false_iff_not, Bool.not_eq_true', Bool.not_eq_false', Bool.and_eq_true, Bool.or_eq_true, Bool.or_eq_false_iff] at hb1P
      have hF4 : m_law_cell script_ k_ = (script_.getD (Int.toNat k_) 0) := (by  first | (simp only [m_law_cell, hb1, if_true, if_false, Bool.false_eq_true, decide_true, decide_false, Option.getD_some, Option.isNone_none, Option.isNone_some, Bool.not_true, Bool.not_false, ↓reduceIte]; done) | (rfl; done) | ((unfold m_law_cell); (dsimp only); (first | rw [ifT hb1] | rw [ifF hb1] | skip); (try dsimp only); first | done | rfl) | (exfalso; simp at hb1; done))
      exact zq_ret s2 (hv_at 0 (hs_of (hv_var (x := script_) rfl s2.im.1)) (hv_vI rfl) (by first | omega | decide +kernel | (simp only [List.length_cons, List.length_nil]; omega) | (have h9 := hb0; simp only [kd_box, kd_glue, kd_pen, kd_hyp, kd_forced, kd_note, kd_label, kd_page, Bool.or_eq_true, Bool.and_eq_true, decide_eq_true_eq, Bool.not_eq_true', Bool.not_eq_false', Bool.or_eq_false_iff, decide_eq_false_iff_not] at h9; omega) | (have h9 := hb1; simp only [kd_box, kd_glue, kd_pen, kd_hyp, kd_forced, kd_note, kd_label, kd_page, Bool.or_eq_true, Bool.and_eq_true, decide_eq_true_eq, Bool.not_eq_true', Bool.not_eq_false', Bool.or_eq_false_iff, decide_eq_false_iff_not] at h9; omega) | (have h9 := hb2; simp only [kd_box, kd_glue, kd_pen, kd_hyp, kd_forced, kd_note, kd_label, kd_page, Bool.or_eq_true, Bool.and_eq_true, decide_eq_true_eq, Bool.not_eq_true', Bool.not_eq_false', Bool.or_eq_false_iff, decide_eq_false_iff_not] at h9; omega) | (have h9 := hi1; simp only [kd_box, kd_glue, kd_pen, kd_hyp, kd_forced, kd_note, kd_label, kd_page, Bool.or_eq_true, Bool.and_eq_true, decide_eq_true_eq, Bool.not_eq_true', Bool.not_eq_false', Bool.or_eq_false_iff, decide_eq_false_iff_not] at h9; omega) | (have h9 := hi2; simp only [kd_box, kd_glue, kd_pen, kd_hyp, kd_forced, kd_note, kd_label, kd_page, Bool.or_eq_true, Bool.and_eq_true, decide_eq_true_eq, Bool.not_eq_true', Bool.not_eq_false', Bool.or_eq_false_iff, decide_eq_false_iff_not] at h9; omega)) (by first | omega | decide +kernel | (simp only [List.length_cons, List.length_nil]; omega) | (have h9 := hb0; simp only [kd_box, kd_glue, kd_pen, kd_hyp, kd_forced, kd_note, kd_label, kd_page, Bool.or_eq_true, Bool.and_eq_true, decide_eq_true_eq, Bool.not_eq_true', Bool.not_eq_false', Bool.or_eq_false_iff, decide_eq_false_iff_not] at h9; omega) | (have h9 := hb1; simp only [kd_box, kd_glue, kd_pen, kd_hyp, kd_forced, kd_note, kd_label, kd_page, Bool.or_eq_true, Bool.and_eq_true, decide_eq_true_eq, Bool.not_eq_true', Bool.not_eq_false', Bool.or_eq_false_iff, decide_eq_false_iff_not] at h9; omega) | (have h9 := hb2; simp only [kd_box, kd_glue, kd_pen, kd_hyp, kd_forced, kd_note, kd_label, kd_page, Bool.or_eq_true, Bool.and_eq_true, decide_eq_true_eq, Bool.not_eq_true', Bool.not_eq_false', Bool.or_eq_false_iff, decide_eq_false_iff_not] at h9; omega) | (have h9 := hi1; simp only [kd_box, kd_glue, kd_pen, kd_hyp, kd_forced, kd_note, kd_label, kd_page, Bool.or_eq_true, Bool.and_eq_true, decide_eq_true_eq, Bool.not_eq_true', Bool.not_eq_false', Bool.or_eq_false_iff, decide_eq_false_iff_not] at h9; omega) | (have h9 := hi2; simp only [kd_box, kd_glue, kd_pen, kd_hyp, kd_forced, kd_note, kd_label, kd_page, Bool.or_eq_true, Bool.and_eq_true, decide_eq_true_eq, Bool.not_eq_true', Bool.not_eq_false', Bool.or_eq_false_iff, decide_eq_false_iff_not] at h9; omega))) fun v H' e d => q v H' e (by rw [hF4]; exact d)
    · have hb1P := hb1
      try simp only [kd_box, kd_glue, kd_pen, kd_hyp, kd_forced, kd_note, kd_label, kd_page, decide_eq_true_eq, decide_eq_false_iff_not, Bool.not_eq_true', Bool.not_eq_false', Bool.and_eq_true, Bool.or_eq_true, Bool.or_eq_false_iff] at hb1P
      have hF5 : m_law_cell script_ k_ = (0 : Int) := (by  first | (simp only [m_law_cell, hb1, if_true, if_false, Bool.false_eq_true, decide_true, decide_false, Option.getD_some, Option.isNone_none, Option.isNone_some, Bool.not_true, Bool.not_false, ↓reduceIte]; done) | (rfl; done) | ((unfold m_law_cell); (dsimp only); (first | rw [ifT hb1] | rw [ifF hb1] | skip); (try dsimp only); first | done | rfl) | (exfalso; simp at hb1; done))
      exact zq_ret s3 (hv_int 0) fun v H' e d => q v H' e (by rw [hF5]; exact d)
def m_law_draws_l0 (is_wide_ : Bool) (s_ : (List Int) × Int) (x_ : Int) : (List Int) × Int :=
  let found_ : (List Int) := s_.1
  let cell_ : Int := s_.2
  let k_ : Int := x_
  if is_wide_ = true then
    let found_ : (List Int) := found_ ++ [(cell_ % (1009 : Int))]
    let cell_ : Int := (cell_ / (1009 : Int))
    (found_, cell_)
  else
    let mixed_ : Int := (((cell_ * (48271 : Int)) + (k_ * (69621 : Int))) % (2147483647 : Int))
    let found_ : (List Int) := found_ ++ [((((mixed_ * mixed_) + (cell_ * (31 : Int))) + k_) % (1000003 : Int))]
    (found_, cell_)
def m_law_draws (cell_ : Int) (count_ : Int) : (List Int) :=
  let found_ : (List Int) := []
  let is_wide_ : Bool := (decide ((1000000000000000000 : Int) ≤ cell_))
  let r0_ : (List Int) × Int := loopN (m_law_draws_l0 is_wide_) (Int.toNat count_) (0 : Int) (found_, cell_)
  let found_ : (List Int) := r0_.1
  let cell_ : Int := r0_.2
  found_
abbrev s_law_draws : Stmt := (topS 20)
theorem sc_law_draws : FnScope ["cell", "count", "found", "is_wide", "k", "mixed"] ["cell", "count"] (defScope s_law_draws) := ⟨rfl, rfl, rfl, by decide +kernel, rfl, by decide +kernel, by decide +kernel⟩
abbrev sp_law_draws (K : PySem.W.Frag) : Sp := PrD K (fun c : Int × Int => [Dx.toX c.1, Dx.toX c.2]) (fun c => 0 ≤ c.2 ∧ c.2 ≤ 1000) (fun c => (m_law_draws c.1 c.2 : (List Int)))
theorem ok_law_draws (T : Txt K mg) : FnOk P w K mg base CX0 1 T.f_law_draws T.d_law_draws ["cell", "count"] (sp_law_draws K) := by
  refine T.u_law_draws.ok sc_law_draws (fun vs H Q E h => ?_) (fun cdv A outer s H vs Q E hr h => ?_)
  · obtain ⟨Mc, c, mok, da, pre, q⟩ := h
    exact (dpa_len da)
  · obtain ⟨Mc, c, mok, da, pre, q⟩ := h
    obtain ⟨cell_, count_⟩ := c
    dsimp only at da pre q
    obtain ⟨v0, w0, rfl, d0, da0⟩ := dpa_inv da
    obtain ⟨v1, w1, rfl, d1, da1⟩ := dpa_inv da0
    cases dpa_inv0 da1
    cases (Dt.int d0)
    cases (Dt.int d1)
    have s0 : Sg K Mc H H [] [] := Sg.enter mok True.intro
    refine ⟨_, (pss_cons (ps_set (i := 2) sc_law_draws.nd rfl (.inl rfl) (pe_lst pa_nil)) (pss_cons (ps_set (i := 3) sc_law_draws.nd rfl (.inl rfl) (pe_cmpR op_ge (pv 0) (pe_op op_pow pe_int pe_int) (nomark _))) (pss_cons (ps_for PassesOwn.never rfl (pi_range1 (by rfl) T.n_range (pa_cons (pv 1) pa_nil)) (pg_name (i := 4) sc_law_draws.nd rfl (.inl rfl)) (pss_cons (ps_if (pt_val (pv 3)) (pss_cons (ps_expr (pe_bm PySem.F.plainAttrs_list PySem.F.slot_list_append PySem.F.type_list_append mt_append (pv 2) (pa_cons (pe_op op_mod (pv 0) pe_int) pa_nil))) (pss_cons (ps_set (i := 0) sc_law_draws.nd rfl (.inl rfl) (pe_op op_fdivW (pv 0) pe_int)) pss_nil)) (pss_cons (ps_set (i := 5) sc_law_draws.nd rfl (.inl rfl) (pe_op op_mod (pe_op op_add (pe_op op_mul (pv 0) pe_int) (pe_op op_mul (pv 4) pe_int)) pe_int)) (pss_cons (ps_expr (pe_bm PySem.F.plainAttrs_list PySem.F.slot_list_append PySem.F.type_list_append mt_append (pv 2) (pa_cons (pe_op op_mod (pe_op op_add (pe_op op_add (pe_op op_mul (pv 5) (pv 5)) (pe_op op_mul (pv 0) pe_int)) (pv 4)) pe_int) pa_nil))) pss_nil))) pss_nil)) (pss_cons (ps_ret (pv 2)) pss_nil)))), ?_⟩
    refine z_nilG Int s0 fun found_2 hfound_2 ps1 Hs1 s1 => ?_
    have lfound_2 : found_2.length = 0 := by rw [hfound_2]; rfl
    refine z_asgBG s1 (hv_ge (hv_vI rfl) ((hv_pow (hv_int 10) (hv_int 18) ⟨by decide +kernel, by decide +kernel, by decide +kernel⟩).is (show _ = (1000000000000000000 : Int) by decide +kernel))) fun is_wide_4 his_wide_4 Hs3 s3 => ?_
    try dsimp only at his_wide_4
    refine zq_forR1G s3 (hv_vI rfl) (by first | omega | decide +kernel | (simp only [List.length_cons, List.length_nil]; omega) | (have h9 := hb0; simp only [kd_box, kd_glue, kd_pen, kd_hyp, kd_forced, kd_note, kd_label, kd_page, Bool.or_eq_true, Bool.and_eq_true, decide_eq_true_eq, Bool.not_eq_true', Bool.not_eq_false', Bool.or_eq_false_iff, decide_eq_false_iff_not] at h9; omega) | (have h9 := hb1; simp only [kd_box, kd_glue, kd_pen, kd_hyp, kd_forced, kd_note, kd_label, kd_page, Bool.or_eq_true, Bool.and_eq_true, decide_eq_true_eq, Bool.not_eq_true', Bool.not_eq_false', Bool.or_eq_false_iff, decide_eq_false_iff_not] at h9; omega) | (have h9 := hb2; simp only [kd_box, kd_glue, kd_pen, kd_hyp, kd_forced, kd_note, kd_label, kd_page, Bool.or_eq_true, Bool.and_eq_true, decide_eq_true_eq, Bool.not_eq_true', Bool.not_eq_false', Bool.or_eq_false_iff, decide_eq_false_iff_not] at h9; omega) | (have h9 := hi1; simp only [kd_box, kd_glue, kd_pen, kd_hyp, kd_forced, kd_note, kd_label, kd_page, Bool.or_eq_true, Bool.and_eq_true, decide_eq_true_eq, Bool.not_eq_true', Bool.not_eq_false', Bool.or_eq_false_iff, decide_eq_false_iff_not] at h9; omega) | (have h9 := hi2; simp only [kd_box, kd_glue, kd_pen, kd_hyp, kd_forced, kd_note, kd_label, kd_page, Bool.or_eq_true, Bool.and_eq_true, decide_eq_true_eq, Bool.not_eq_true', Bool.not_eq_false', Bool.or_eq_false_iff, decide_eq_false_iff_not] at h9; omega)) (fun i σ' H' => ∃ (found_5 : (List Int)) (cell_6 : Int) (o7 : Option V) (o8 : Option V), (loopN (m_law_draws_l0 is_wide_4) (Int.toNat count_) (0 : Int) (found_2, cell_) : (List Int) × Int) = (loopN (m_law_draws_l0 is_wide_4) ((Int.toNat count_) - i) ((0 : Int) + (i : Int)) (found_5, cell_6) : (List Int) × Int) ∧ (found_5.length = (i)) ∧ σ' = [some (V.int cell_6), some (V.int count_), some (.ref ps1), some (V.bl is_wide_4), o7, o8] ∧ Sg K Mc H H' [] [(ps1, .lst (List.map Dx.toX found_5))]) (fun Hs9 s9 => ⟨found_2, cell_, _, _, (by simp), (by first | trivial | omega | (simp; done) | simp_all), rfl, s9.keep fun _ h => True.intro⟩) (fun i13 x14 σ' Hs12 hx15 hi16 hP => ?_) (fun σ' Hs12 hP => ?_)
    · obtain ⟨found_5, cell_6, o7, o8, he10, hg11, rfl, s12⟩ := hP
      refine z_if (b := is_wide_4) s12 (ht_B (K := K) (hv_vB rfl)) (fun hb18 Hs19 s19 => ?_) (fun hb18 Hs20 s20 => ?_)
      · have hb18P := hb18
        try simp only [kd_box, kd_glue, kd_pen, kd_hyp, kd_forced, kd_note, kd_label, kd_page, decide_eq_true_eq, decide_eq_false_iff_not, Bool.not_eq_true', Bool.not_eq_false', Bool.and_eq_true, Bool.or_eq_true, Bool.or_eq_false_iff] at hb18P
        refine zq_appG s19 (kk := 0) rfl (ev_var rfl) (hv_mod (hv_vI rfl) (hv_int 1009) (by first | omega | decide +kernel | (simp only [List.length_cons, List.length_nil]; omega) | (have h9 := hb0; simp only [kd_box, kd_glue, kd_pen, kd_hyp, kd_forced, kd_note, kd_label, kd_page, Bool.or_eq_true, Bool.and_eq_true, decide_eq_true_eq, Bool.not_eq_true', Bool.not_eq_false', Bool.or_eq_false_iff, decide_eq_false_iff_not] at h9; omega) | (have h9 := hb1; simp only [kd_box, kd_glue, kd_pen, kd_hyp, kd_forced, kd_note, kd_label, kd_page, Bool.or_eq_true, Bool.and_eq_true, decide_eq_true_eq, Bool.not_eq_true', Bool.not_eq_false', Bool.or_eq_false_iff, decide_eq_false_iff_not] at h9; omega) | (have h9 := hb2; simp only [kd_box, kd_glue, kd_pen, kd_hyp, kd_forced, kd_note, kd_label, kd_page, Bool.or_eq_true, Bool.and_eq_true, decide_eq_true_eq, Bool.not_eq_true', Bool.not_eq_false', Bool.or_eq_false_iff, decide_eq_false_iff_not] at h9; omega) | (have h9 := hi1; simp only [kd_box, kd_glue, kd_pen, kd_hyp, kd_forced, kd_note, kd_label, kd_page, Bool.or_eq_true, Bool.and_eq_true, decide_eq_true_eq, Bool.not_eq_true', Bool.not_eq_false', Bool.or_eq_false_iff, decide_eq_false_iff_not] at h9; omega) | (have h9 := hi2; simp only [kd_box, kd_glue, kd_pen, kd_hyp, kd_forced, kd_note, kd_label, kd_page, Bool.or_eq_true, Bool.and_eq_true, decide_eq_true_eq, Bool.not_eq_true', Bool.not_eq_false', Bool.or_eq_false_iff, decide_eq_false_iff_not] at h9; omega))) (by first | omega | decide +kernel | (simp only [List.length_cons, List.length_nil]; omega) | (have h9 := hb0; simp only [kd_box, kd_glue, kd_pen, kd_hyp, kd_forced, kd_note, kd_label, kd_page, Bool.or_eq_true, Bool.and_eq_true, decide_eq_true_eq, Bool.not_eq_true', Bool.not_eq_false', Bool.or_eq_false_iff, decide_eq_false_iff_not] at h9; omega) | (have h9 := hb1; simp only [kd_box, kd_glue, kd_pen, kd_hyp, kd_forced, kd_note, kd_label, kd_page, Bool.or_eq_true, Bool.and_eq_true, decide_eq_true_eq, Bool.not_eq_true', Bool.not_eq_false', Bool.or_eq_false_iff, decide_eq_false_iff_not] at h9; omega) | (have h9 := hb2; simp only [kd_box, kd_glue, kd_pen, kd_hyp, kd_forced, kd_note, kd_label, kd_page, Bool.or_eq_true, Bool.and_eq_true, decide_eq_true_eq, Bool.not_eq_true', Bool.not_eq_false', Bool.or_eq_false_iff, decide_eq_false_iff_not] at h9; omega) | (have h9 := hi1; simp only [kd_box, kd_glue, kd_pen, kd_hyp, kd_forced, kd_note, kd_label, kd_page, Bool.or_eq_true, Bool.and_eq_true, decide_eq_true_eq, Bool.not_eq_true', Bool.not_eq_false', Bool.or_eq_false_iff, decide_eq_false_iff_not] at h9; omega) | (have h9 := hi2; simp only [kd_box, kd_glue, kd_pen, kd_hyp, kd_forced, kd_note, kd_label, kd_page, Bool.or_eq_true, Bool.and_eq_true, decide_eq_true_eq, Bool.not_eq_true', Bool.not_eq_false', Bool.or_eq_false_iff, decide_eq_false_iff_not] at h9; omega)) fun found_22 hfound_22 Hs21 s21 => ?_
        have lfound_22 : found_22.length = found_5.length + 1 := by rw [hfound_22, List.length_append]; rfl
        have s21 : Sg K Mc _ _ _ [(ps1, .lst (List.map Dx.toX found_22))] := s21
        refine z_asgIG s21 (hv_div (hv_vI rfl) (hv_int 1009) (by first | exact ⟨by decide +kernel, by decide +kernel⟩ | (refine log_small ?_ ?_ <;> omega))) fun cell_24 hcell_24 Hs23 s23 => ?_
        try dsimp only at hcell_24
        have hf25 : (m_law_draws_l0 is_wide_4) (found_5, cell_6) x14 = (found_22, cell_24) := (by subst hcell_24; subst hfound_22; subst his_wide_4; subst hfound_2; first | (simp only [m_law_draws_l0, hb18, if_true, if_false, Bool.false_eq_true, decide_true, decide_false, Option.getD_some, Option.isNone_none, Option.isNone_some, Bool.not_true, Bool.not_false, ↓reduceIte]; done) | (rfl; done) | ((unfold m_law_draws_l0); (dsimp only); (first | rw [ifT hb18] | rw [ifF hb18] | skip); (try dsimp only); first | done | rfl) | (exfalso; simp at hb18; done))
        exact ⟨found_22, cell_24, _, _, he10.trans ((loopN_step hi16).trans (by rw [← hx15, hf25])), (by first | trivial | omega | (simp_all; done) | (simp_all; omega)), rfl, s23.keep fun _ h => True.intro⟩
      · have hb18P := hb18
        try simp only [kd_box, kd_glue, kd_pen, kd_hyp, kd_forced, kd_note, kd_label, kd_page, decide_eq_true_eq, decide_eq_false_iff_not, Bool.not_eq_true', Bool.not_eq_false', Bool.and_eq_true, Bool.or_eq_true, Bool.or_eq_false_iff] at hb18P
        refine z_asgIG s20 (hv_mod (hv_add (hv_mul (hv_vI rfl) (hv_int 48271) (by first | exact Or.inr ⟨by omega, by omega⟩ | exact Or.inl ⟨by omega, by omega⟩ | (dsimp only; first | exact Or.inr ⟨by omega, by omega⟩ | exact Or.inl ⟨by omega, by omega⟩))) (hv_mul (hv_vI rfl) (hv_int 69621) (by first | exact Or.inr ⟨by omega, by omega⟩ | exact Or.inl ⟨by omega, by omega⟩ | (dsimp only; first | exact Or.inr ⟨by omega, by omega⟩ | exact Or.inl ⟨by omega, by omega⟩)))) (hv_int 2147483647) (by first | omega | decide +kernel | (simp only [List.length_cons, List.length_nil]; omega) | (have h9 := hb0; simp only [kd_box, kd_glue, kd_pen, kd_hyp, kd_forced, kd_note, kd_label, kd_page, Bool.or_eq_true, Bool.and_eq_true, decide_eq_true_eq, Bool.not_eq_true', Bool.not_eq_false', Bool.or_eq_false_iff, decide_eq_false_iff_not] at h9; omega) | (have h9 := hb1; simp only [kd_box, kd_glue, kd_pen, kd_hyp, kd_forced, kd_note, kd_label, kd_page, Bool.or_eq_true, Bool.and_eq_true, decide_eq_true_eq, Bool.not_eq_true', Bool.not_eq_false', Bool.or_eq_false_iff, decide_eq_false_iff_not] at h9; omega) | (have h9 := hb2; simp only [kd_box, kd_glue, kd_pen, kd_hyp, kd_forced, kd_note, kd_label, kd_page, Bool.or_eq_true, Bool.and_eq_true, decide_eq_true_eq, Bool.not_eq_true', Bool.not_eq_false', Bool.or_eq_false_iff, decide_eq_false_iff_not] at h9; omega) | (have h9 := hi1; simp only [kd_box, kd_glue, kd_pen, kd_hyp, kd_forced, kd_note, kd_label, kd_page, Bool.or_eq_true, Bool.and_eq_true, decide_eq_true_eq, Bool.not_eq_true', Bool.not_eq_false', Bool.or_eq_false_iff, decide_eq_false_iff_not] at h9; omega) | (have h9 := hi2; simp only [kd_box, kd_glue, kd_pen, kd_hyp, kd_forced, kd_note, kd_label, kd_page, Bool.or_eq_true, Bool.and_eq_true, decide_eq_true_eq, Bool.not_eq_true', Bool.not_eq_false', Bool.or_eq_false_iff, decide_eq_false_iff_not] at h9; omega))) fun mixed_27 hmixed_27 Hs26 s26 => ?_
        try dsimp only at hmixed_27
        refine zq_appG s26 (kk := 0) rfl (ev_var rfl) (hv_mod (hv_add (hv_add (hv_mul (hv_vI rfl) (hv_vI rfl) (by first | exact Or.inr ⟨by omega, by omega⟩ | exact Or.inl ⟨by omega, by omega⟩ | (dsimp only; first | exact Or.inr ⟨by omega, by omega⟩ | exact Or.inl ⟨by omega, by omega⟩))) (hv_mul (hv_vI rfl) (hv_int 31) (by first | exact Or.inr ⟨by omega, by omega⟩ | exact Or.inl ⟨by omega, by omega⟩ | (dsimp only; first | exact Or.inr ⟨by omega, by omega⟩ | exact Or.inl ⟨by omega, by omega⟩)))) (hv_vI rfl)) (hv_int 1000003) (by first | omega | decide +kernel | (simp only [List.length_cons, List.length_nil]; omega) | (have h9 := hb0; simp only [kd_box, kd_glue, kd_pen, kd_hyp, kd_forced, kd_note, kd_label, kd_page, Bool.or_eq_true, Bool.and_eq_true, decide_eq_true_eq, Bool.not_eq_true', Bool.not_eq_false', Bool.or_eq_false_iff, decide_eq_false_iff_not] at h9; omega) | (have h9 := hb1; simp only [kd_box, kd_glue, kd_pen, kd_hyp, kd_forced, kd_note, kd_label, kd_page, Bool.or_eq_true, Bool.and_eq_true, decide_eq_true_eq, Bool.not_eq_true', Bool.not_eq_false', Bool.or_eq_false_iff, decide_eq_false_iff_not] at h9; omega) | (have h9 := hb2; simp only [kd_box, kd_glue, kd_pen, kd_hyp, kd_forced, kd_note, kd_label, kd_page, Bool.or_eq_true, Bool.and_eq_true, decide_eq_true_eq, Bool.not_eq_true', Bool.not_eq_false', Bool.or_eq_false_iff, decide_eq_false_iff_not] at h9; omega) | (have h9 := hi1; simp only [kd_box, kd_glue, kd_pen, kd_hyp, kd_forced, kd_note, kd_label, kd_page, Bool.or_eq_true, Bool.and_eq_true, decide_eq_true_eq, Bool.not_eq_true', Bool.not_eq_false', Bool.or_eq_false_iff, decide_eq_false_iff_not] at h9; omega) | (have h9 := hi2; simp only [kd_box, kd_glue, kd_pen, kd_hyp, kd_forced, kd_note, kd_label, kd_page, Bool.or_eq_true, Bool.and_eq_true, decide_eq_true_eq, Bool.not_eq_true', Bool.not_eq_false', Bool.or_eq_false_iff, decide_eq_false_iff_not] at h9; omega))) (by first | omega | decide +kernel | (simp only [List.length_cons, List.length_nil]; omega) | (have h9 := hb0; simp only [kd_box, kd_glue, kd_pen, kd_hyp, kd_forced, kd_note, kd_label, kd_page, Bool.or_eq_true, Bool.and_eq_true, decide_eq_true_eq, Bool.not_eq_true', Bool.not_eq_false', Bool.or_eq_false_iff, decide_eq_false_iff_not] at h9; omega) | (have h9 := hb1; simp only [kd_box, kd_glue, kd_pen, kd_hyp, kd_forced, kd_note, kd_label, kd_page, Bool.or_eq_true, Bool.and_eq_true, decide_eq_true_eq, Bool.not_eq_true', Bool.not_eq_false', Bool.or_eq_false_iff, decide_eq_false_iff_not] at h9; omega) | (have h9 := hb2; simp only [kd_box, kd_glue, kd_pen, kd_hyp, kd_forced, kd_note, kd_label, kd_page, Bool.or_eq_true, Bool.and_eq_true, decide_eq_true_eq, Bool.not_eq_true', Bool.not_eq_false', Bool.or_eq_false_iff, decide_eq_false_iff_not] at h9; omega) | (have h9 := hi1; simp only [kd_box, kd_glue, kd_pen, kd_hyp, kd_forced, kd_note, kd_label, kd_page, Bool.or_eq_true, Bool.and_eq_true, decide_eq_true_eq, Bool.not_eq_true', Bool.not_eq_false', Bool.or_eq_false_iff, decide_eq_false_iff_not] at h9; omega) | (have h9 := hi2; simp only [kd_box, kd_glue, kd_pen, kd_hyp, kd_forced, kd_note, kd_label, kd_page, Bool.or_eq_true, Bool.and_eq_true, decide_eq_true_eq, Bool.not_eq_true', Bool.not_eq_false', Bool.or_eq_false_iff, decide_eq_false_iff_not] at h9; omega)) fun found_29 hfound_29 Hs28 s28 => ?_
        have lfound_29 : found_29.length = found_5.length + 1 := by rw [hfound_29, List.length_append]; rfl
        have s28 : Sg K Mc _ _ _ [(ps1, .lst (List.map Dx.toX found_29))] := s28
        have hf30 : (m_law_draws_l0 is_wide_4) (found_5, cell_6) x14 = (found_29, cell_6) := (by subst hfound_29; subst hmixed_27; subst his_wide_4; subst hfound_2; first | (simp only [m_law_draws_l0, hb18, if_true, if_false, Bool.false_eq_true, decide_true, decide_false, Option.getD_some, Option.isNone_none, Option.isNone_some, Bool.not_true, Bool.not_false, ↓reduceIte]; done) | (rfl; done) | ((unfold m_law_draws_l0); (dsimp only); (first | rw [ifT hb18] | rw [ifF hb18] | skip); (try dsimp only); first | done | rfl) | (exfalso; simp at hb18; done))
        exact ⟨found_29, cell_6, _, _, he10.trans ((loopN_step hi16).trans (by rw [← hx15, hf30])), (by first | trivial | omega | (simp_all; done) | (simp_all; omega)), rfl, s28.keep fun _ h => True.intro⟩
    · obtain ⟨found_31, cell_32, o33, o34, he36, hg37, rfl, s35⟩ := hP
      rw [loopN_end] at he36
      have s38 := Sg.frz (xs := found_31) s35
      have hF39 : m_law_draws cell_ count_ = found_31 := (by subst his_wide_4; subst hfound_2; first | (simp only [m_law_draws, he36, if_true, if_false, Bool.false_eq_true, decide_true, decide_false, Option.getD_some, Option.isNone_none, Option.isNone_some, Bool.not_true, Bool.not_false, ↓reduceIte]; done) | (rfl; done) | ((unfold m_law_draws); (dsimp only); (first | rw [he36] | skip); (try dsimp only); first | done | rfl))
      exact zq_ret s38 (hv_var (x := found_31) rfl s38.im.1) fun v H' e d => q v H' e (by rw [hF39]; exact d)

theorem draws_len (c n : Int) : (m_law_draws c n).length = n.toNat := by
  have key := loopN_keep (f := m_law_draws_l0 (decide ((1000000000000000000 : Int) ≤ c))) (fun s j => s.1.length = j) (fun s k j h => by
    unfold m_law_draws_l0
    dsimp only
    split <;> (rw [List.length_append, h]; rfl)) n.toNat 0 ([], c) 0 rfl
  simpa [m_law_draws] using key

def m_law_is_integer (actual_ : Int) : Bool :=
  true
abbrev s_law_is_integer : Stmt := (topS 21)
theorem sc_law_is_integer : FnScope ["actual"] ["actual"] (defScope s_law_is_integer) := ⟨rfl, rfl, rfl, by decide +kernel, rfl, by decide +kernel, by decide +kernel⟩
abbrev sp_law_is_integer (K : PySem.W.Frag) : Sp := PrD K (fun c : Int => [Dx.toX c]) (fun c => True) (fun c => (m_law_is_integer c : Bool))
theorem ok_law_is_integer (T : Txt K mg) : FnOk P w K mg base CX0 1 T.f_law_is_integer T.d_law_is_integer ["actual"] (sp_law_is_integer K) := by
  refine T.u_law_is_integer.ok sc_law_is_integer (fun vs H Q E h => ?_) (fun cdv A outer s H vs Q E hr h => ?_)
  · obtain ⟨Mc, c, mok, da, pre, q⟩ := h
    exact (dpa_len da)
  · obtain ⟨Mc, c, mok, da, pre, q⟩ := h
    obtain ⟨actual_, rfl⟩ : ∃ z, z = c := ⟨c, rfl⟩
    dsimp only at da pre q
    obtain ⟨v0, w0, rfl, d0, da0⟩ := dpa_inv da
    cases dpa_inv0 da0
    cases (Dt.int d0)
    have s0 : Sg K Mc H H [] [] := Sg.enter mok True.intro
    refine ⟨_, (pss_cons (ps_ret (pe_and (pe_callB call_isi (by rfl) T.n_isinstance (by decide +kernel) (pa_cons (pv 0) (pa_cons (pe_bltn (v := .ty "int") (by rfl) T.n_int (by decide +kernel) rfl) pa_nil))) (pe_one (pe_not (pe_callB call_isi (by rfl) T.n_isinstance (by decide +kernel) (pa_cons (pv 0) (pa_cons (pe_bltn (v := .ty "bool") (by rfl) T.n_bool (by decide +kernel) rfl) pa_nil))))))) pss_nil), ?_⟩
    have hF1 : m_law_is_integer actual_ = true := (by  first | (simp only [m_law_is_integer, if_true, if_false, Bool.false_eq_true, decide_true, decide_false, Option.getD_some, Option.isNone_none, Option.isNone_some, Bool.not_true, Bool.not_false, ↓reduceIte]; done) | (rfl; done) | ((unfold m_law_is_integer); (dsimp only); first | done | rfl))
    exact zq_ret s0 (Hv.is (hv_and (hv_isi (b := true) (hv_vI rfl) (by decide +kernel)) (fun hb0 => (Hv.is (hv_not (hv_isi (b := false) (hv_vI rfl) (by decide +kernel))) (show _ = true by first | rfl | decide | simp)))) (show _ = true by first | rfl | decide | simp)) fun v H' e d => q v H' e (by rw [hF1]; exact d)
def m_law_item (draw_ : Int) (small_ : Bool) : Itm :=
  let kind_ : Int := (draw_ % (10 : Int))
  let size_ : Int := (draw_ / (10 : Int))
  if (decide (kind_ < (4 : Int))) = true then
    (Itm.box (if small_ = true then ([(0 : Int), (3 : Int), (7 : Int), (10 : Int), (20 : Int), (33 : Int)].getD (Int.toNat (size_ % (6 : Int))) 0) else (size_ % (60 : Int))) (size_ % (3 : Int)) (Tup.items (Tup.mk [((97 : Int) + (size_ % (9 : Int)))])))
  else
    if (decide (kind_ < (7 : Int))) = true then
      let wide_ : Int := (size_ % (13 : Int))
      (Itm.glue wide_ ((size_ / (13 : Int)) % (12 : Int)) (min wide_ ((size_ / (156 : Int)) % (7 : Int))) (decide ((0 : Int) < (size_ % (5 : Int)))))
    else
      if (decide (kind_ = (7 : Int))) = true then
        (Itm.pen (size_ % (60 : Int)))
      else
        if (decide (kind_ = (8 : Int))) = true then
          (Itm.hyp (size_ % (9 : Int)) (size_ % (3 : Int)) (size_ % (50 : Int)))
        else
          ([Itm.forced, (Itm.note (0 : Int)), (Itm.label (PySem.Str.ofString "a")), (Itm.page (8 : Int) (1 : Int) (2 : Int) (PySem.Str.ofString "b"))].getD (Int.toNat (size_ % (4 : Int))) Itm.forced)
abbrev s_law_item : Stmt := (topS 23)
theorem sc_law_item : FnScope ["draw", "small", "kind", "size", "wide"] ["draw", "small"] (defScope s_law_item) := ⟨rfl, rfl, rfl, by decide +kernel, rfl, by decide +kernel, by decide +kernel⟩
abbrev sp_law_item (K : PySem.W.Frag) : Sp := PrD K (fun c : Int × Bool => [Dx.toX c.1, Dx.toX c.2]) (fun c => True) (fun c => (m_law_item c.1 c.2 : Itm))
theorem ok_law_item (T : Txt K mg) : FnOk P w K mg base CX0 1 T.f_law_item T.d_law_item ["draw", "small"] (sp_law_item K) := by
  refine T.u_law_item.ok sc_law_item (fun vs H Q E h => ?_) (fun cdv A outer s H vs Q E hr h => ?_)
  · obtain ⟨Mc, c, mok, da, pre, q⟩ := h
    exact (dpa_len da)
  · obtain ⟨Mc, c, mok, da, pre, q⟩ := h
    obtain ⟨draw_, small_⟩ := c
    dsimp only at da pre q
    obtain ⟨v0, w0, rfl, d0, da0⟩ := dpa_inv da
    obtain ⟨v1, w1, rfl, d1, da1⟩ := dpa_inv da0
    cases dpa_inv0 da1
    cases (Dt.int d0)
    cases (Dt.bool d1)
    have s0 : Sg K Mc H H [] [] := Sg.enter mok True.intro
    refine ⟨_, (pss_cons (ps_set (i := 2) sc_law_item.nd rfl (.inl rfl) (pe_op op_mod (pv 0) pe_int)) (pss_cons (ps_set (i := 3) sc_law_item.nd rfl (.inl rfl) (pe_op op_fdivW (pv 0) pe_int)) (pss_cons (ps_if (pt_cmpR op_lt (pv 2) pe_int (nomark _)) (pss_cons (ps_ret (pe_tup (pa_cons pe_str (pa_cons (pe_ifExp (pt_val (pv 1)) (pe_ix ix_list (pe_lst (pa_cons pe_int (pa_cons pe_int (pa_cons pe_int (pa_cons pe_int (pa_cons pe_int (pa_cons pe_int pa_nil))))))) (pe_op op_mod (pv 3) pe_int) (fun _ _ => rfl)) (pe_op op_mod (pv 3) pe_int)) (pa_cons (pe_op op_mod (pv 3) pe_int) (pa_cons (pe_tup (pa_cons (pe_op op_add pe_int (pe_op op_mod (pv 3) pe_int)) pa_nil)) pa_nil)))))) pss_nil) pss_nil) (pss_cons (ps_if (pt_cmpR op_lt (pv 2) pe_int (nomark _)) (pss_cons (ps_set (i := 4) sc_law_item.nd rfl (.inl rfl) (pe_op op_mod (pv 3) pe_int)) (pss_cons (ps_ret (pe_tup (pa_cons pe_str (pa_cons (pv 4) (pa_cons (pe_op op_mod (pe_op op_fdivW (pv 3) pe_int) pe_int) (pa_cons (pe_callB (call_min2 rfl) (by rfl) T.n_min (by decide +kernel) (pa_cons (pv 4) (pa_cons (pe_op op_mod (pe_op op_fdivW (pv 3) pe_int) pe_int) pa_nil))) (pa_cons (pe_cmpR op_gt (pe_op op_mod (pv 3) pe_int) pe_int (nomark _)) pa_nil))))))) pss_nil)) pss_nil) (pss_cons (ps_if (pt_cmpR op_eq (pv 2) pe_int (nomark _)) (pss_cons (ps_ret (pe_tup (pa_cons pe_str (pa_cons (pe_op op_mod (pv 3) pe_int) pa_nil)))) pss_nil) pss_nil) (pss_cons (ps_if (pt_cmpR op_eq (pv 2) pe_int (nomark _)) (pss_cons (ps_ret (pe_tup (pa_cons pe_str (pa_cons (pe_op op_mod (pv 3) pe_int) (pa_cons (pe_op op_mod (pv 3) pe_int) (pa_cons (pe_op op_mod (pv 3) pe_int) pa_nil)))))) pss_nil) pss_nil) (pss_cons (ps_ret (pe_ix ix_list (pe_lst (pa_cons (pe_tup (pa_cons pe_str pa_nil)) (pa_cons (pe_tup (pa_cons pe_str (pa_cons pe_int pa_nil))) (pa_cons (pe_tup (pa_cons pe_str (pa_cons pe_str pa_nil))) (pa_cons (pe_tup (pa_cons pe_str (pa_cons pe_int (pa_cons pe_int (pa_cons pe_int (pa_cons pe_str pa_nil)))))) pa_nil))))) (pe_op op_mod (pv 3) pe_int) (fun _ _ => rfl))) pss_nil))))))), ?_⟩
    refine z_asgIG s0 (hv_mod (hv_vI rfl) (hv_int 10) (by first | omega | decide +kernel | (simp only [List.length_cons, List.length_nil]; omega) | (have h9 := hb0; simp only [kd_box, kd_glue, kd_pen, kd_hyp, kd_forced, kd_note, kd_label, kd_page, Bool.or_eq_true, Bool.and_eq_true, decide_eq_true_eq, Bool.not_eq_true', Bool.not_eq_false', Bool.or_eq_false_iff, decide_eq_false_iff_not] at h9; omega) | (have h9 := hb1; simp only [kd_box, kd_glue, kd_pen, kd_hyp, kd_forced, kd_note, kd_label, kd_page, Bool.or_eq_true, Bool.and_eq_true, decide_eq_true_eq, Bool.not_eq_true', Bool.not_eq_false', Bool.or_eq_false_iff, decide_eq_false_iff_not] at h9; omega) | (have h9 := hb2; simp only [kd_box, kd_glue, kd_pen, kd_hyp, kd_forced, kd_note, kd_label, kd_page, Bool.or_eq_true, Bool.and_eq_true, decide_eq_true_eq, Bool.not_eq_true', Bool.not_eq_false', Bool.or_eq_false_iff, decide_eq_false_iff_not] at h9; omega) | (have h9 := hi1; simp only [kd_box, kd_glue, kd_pen, kd_hyp, kd_forced, kd_note, kd_label, kd_page, Bool.or_eq_true, Bool.and_eq_true, decide_eq_true_eq, Bool.not_eq_true', Bool.not_eq_false', Bool.or_eq_false_iff, decide_eq_false_iff_not] at h9; omega) | (have h9 := hi2; simp only [kd_box, kd_glue, kd_pen, kd_hyp, kd_forced, kd_note, kd_label, kd_page, Bool.or_eq_true, Bool.and_eq_true, decide_eq_true_eq, Bool.not_eq_true', Bool.not_eq_false', Bool.or_eq_false_iff, decide_eq_false_iff_not] at h9; omega))) fun kind_2 hkind_2 Hs1 s1 => ?_
    try dsimp only at hkind_2
    refine z_asgIG s1 (hv_div (hv_vI rfl) (hv_int 10) (by first | exact ⟨by decide +kernel, by decide +kernel⟩ | (refine log_small ?_ ?_ <;> omega))) fun size_4 hsize_4 Hs3 s3 => ?_
    try dsimp only at hsize_4
    refine z_ifx (b := (decide (kind_2 < (4 : Int)))) s3 (ht_val (K := K) (hv_lt (hv_vI rfl) (hv_int 4))) (fun hb5 Hs6 s6 => ?_) (fun hb5 Hs7 s7 => ?_)
    · have hb5P := hb5
      try simp only [kd_box, kd_glue, kd_pen, kd_hyp, kd_forced, kd_note, kd_label, kd_page, decide_eq_true_eq, decide_eq_false_iff_not, Bool.not_eq_true', Bool.not_eq_false', Bool.and_eq_true, Bool.or_eq_true, Bool.or_eq_false_iff] at hb5P
      have hF8 : m_law_item draw_ small_ = (Itm.box (if small_ = true then ([(0 : Int), (3 : Int), (7 : Int), (10 : Int), (20 : Int), (33 : Int)].getD (Int.toNat (size_4 % (6 : Int))) 0) else (size_4 % (60 : Int))) (size_4 % (3 : Int)) (Tup.items (Tup.mk [((97 : Int) + (size_4 % (9 : Int)))]))) := (by subst hsize_4; subst hkind_2; first | (simp only [m_law_item, hb5, if_true, if_false, Bool.false_eq_true, decide_true, decide_false, Option.getD_some, Option.isNone_none, Option.isNone_some, Bool.not_true, Bool.not_false, ↓reduceIte]; done) | (rfl; done) | ((unfold m_law_item); (dsimp only); (first | rw [ifT hb5] | rw [ifF hb5] | skip); (try dsimp only); first | done | rfl) | (exfalso; simp at hb5; done))
      exact zq_ret s6 (hv_tupX (Itm.box (if small_ = true then ([(0 : Int), (3 : Int), (7 : Int), (10 : Int), (20 : Int), (33 : Int)].getD (Int.toNat (size_4 % (6 : Int))) 0) else (size_4 % (60 : Int))) (size_4 % (3 : Int)) (Tup.items (Tup.mk [((97 : Int) + (size_4 % (9 : Int)))]))) (hd_cons (hv_str _) (hd_cons (hv_ite (ht_B (K := K) (hv_vB rfl)) (fun hi1 => (hv_at 0 (hs_of (hv_lst (has_cons (hv_int 0) (has_cons (hv_int 3) (has_cons (hv_int 7) (has_cons (hv_int 10) (has_cons (hv_int 20) (has_cons (hv_int 33) has_nil)))))) (Nat.le_of_ble_eq_true rfl))) (hv_mod (hv_vI rfl) (hv_int 6) (by first | omega | decide +kernel | (simp only [List.length_cons, List.length_nil]; omega) | (have h9 := hb0; simp only [kd_box, kd_glue, kd_pen, kd_hyp, kd_forced, kd_note, kd_label, kd_page, Bool.or_eq_true, Bool.and_eq_true, decide_eq_true_eq, Bool.not_eq_true', Bool.not_eq_false', Bool.or_eq_false_iff, decide_eq_false_iff_not] at h9; omega) | (have h9 := hb1; simp only [kd_box, kd_glue, kd_pen, kd_hyp, kd_forced, kd_note, kd_label, kd_page, Bool.or_eq_true, Bool.and_eq_true, decide_eq_true_eq, Bool.not_eq_true', Bool.not_eq_false', Bool.or_eq_false_iff, decide_eq_false_iff_not] at h9; omega) | (have h9 := hb2; simp only [kd_box, kd_glue, kd_pen, kd_hyp, kd_forced, kd_note, kd_label, kd_page, Bool.or_eq_true, Bool.and_eq_true, decide_eq_true_eq, Bool.not_eq_true', Bool.not_eq_false', Bool.or_eq_false_iff, decide_eq_false_iff_not] at h9; omega) | (have h9 := hi1; simp only [kd_box, kd_glue, kd_pen, kd_hyp, kd_forced, kd_note, kd_label, kd_page, Bool.or_eq_true, Bool.and_eq_true, decide_eq_true_eq, Bool.not_eq_true', Bool.not_eq_false', Bool.or_eq_false_iff, decide_eq_false_iff_not] at h9; omega) | (have h9 := hi2; simp only [kd_box, kd_glue, kd_pen, kd_hyp, kd_forced, kd_note, kd_label, kd_page, Bool.or_eq_true, Bool.and_eq_true, decide_eq_true_eq, Bool.not_eq_true', Bool.not_eq_false', Bool.or_eq_false_iff, decide_eq_false_iff_not] at h9; omega))) (by first | omega | decide +kernel | (simp only [List.length_cons, List.length_nil]; omega) | (have h9 := hb0; simp only [kd_box, kd_glue, kd_pen, kd_hyp, kd_forced, kd_note, kd_label, kd_page, Bool.or_eq_true, Bool.and_eq_true, decide_eq_true_eq, Bool.not_eq_true', Bool.not_eq_false', Bool.or_eq_false_iff, decide_eq_false_iff_not] at h9; omega) | (have h9 := hb1; simp only [kd_box, kd_glue, kd_pen, kd_hyp, kd_forced, kd_note, kd_label, kd_page, Bool.or_eq_true, Bool.and_eq_true, decide_eq_true_eq, Bool.not_eq_true', Bool.not_eq_false', Bool.or_eq_false_iff, decide_eq_false_iff_not] at h9; omega) | (have h9 := hb2; simp only [kd_box, kd_glue, kd_pen, kd_hyp, kd_forced, kd_note, kd_label, kd_page, Bool.or_eq_true, Bool.and_eq_true, decide_eq_true_eq, Bool.not_eq_true', Bool.not_eq_false', Bool.or_eq_false_iff, decide_eq_false_iff_not] at h9; omega) | (have h9 := hi1; simp only [kd_box, kd_glue, kd_pen, kd_hyp, kd_forced, kd_note, kd_label, kd_page, Bool.or_eq_true, Bool.and_eq_true, decide_eq_true_eq, Bool.not_eq_true', Bool.not_eq_false', Bool.or_eq_false_iff, decide_eq_false_iff_not] at h9; omega) | (have h9 := hi2; simp only [kd_box, kd_glue, kd_pen, kd_hyp, kd_forced, kd_note, kd_label, kd_page, Bool.or_eq_true, Bool.and_eq_true, decide_eq_true_eq, Bool.not_eq_true', Bool.not_eq_false', Bool.or_eq_false_iff, decide_eq_false_iff_not] at h9; omega)) (by first | omega | decide +kernel | (simp only [List.length_cons, List.length_nil]; omega) | (have h9 := hb0; simp only [kd_box, kd_glue, kd_pen, kd_hyp, kd_forced, kd_note, kd_label, kd_page, Bool.or_eq_true, Bool.and_eq_true, decide_eq_true_eq, Bool.not_eq_true', Bool.not_eq_false', Bool.or_eq_false_iff, decide_eq_false_iff_not] at h9; omega) | (have h9 := hb1; simp only [kd_box, kd_glue, kd_pen, kd_hyp, kd_forced, kd_note, kd_label, kd_page, Bool.or_eq_true, Bool.and_eq_true, decide_eq_true_eq, Bool.not_eq_true', Bool.not_eq_false', Bool.or_eq_false_iff, decide_eq_false_iff_not] at h9; omega) | (have h9 := hb2; simp only [kd_box, kd_glue, kd_pen, kd_hyp, kd_forced, kd_note, kd_label, kd_page, Bool.or_eq_true, Bool.and_eq_true, decide_eq_true_eq, Bool.not_eq_true', Bool.not_eq_false', Bool.or_eq_false_iff, decide_eq_false_iff_not] at h9; omega) | (have h9 := hi1; simp only [kd_box, kd_glue, kd_pen, kd_hyp, kd_forced, kd_note, kd_label, kd_page, Bool.or_eq_true, Bool.and_eq_true, decide_eq_true_eq, Bool.not_eq_true', Bool.not_eq_false', Bool.or_eq_false_iff, decide_eq_false_iff_not] at h9; omega) | (have h9 := hi2; simp only [kd_box, kd_glue, kd_pen, kd_hyp, kd_forced, kd_note, kd_label, kd_page, Bool.or_eq_true, Bool.and_eq_true, decide_eq_true_eq, Bool.not_eq_true', Bool.not_eq_false', Bool.or_eq_false_iff, decide_eq_false_iff_not] at h9; omega)))) (fun hi2 => (hv_mod (hv_vI rfl) (hv_int 60) (by first | omega | decide +kernel | (simp only [List.length_cons, List.length_nil]; omega) | (have h9 := hb0; simp only [kd_box, kd_glue, kd_pen, kd_hyp, kd_forced, kd_note, kd_label, kd_page, Bool.or_eq_true, Bool.and_eq_true, decide_eq_true_eq, Bool.not_eq_true', Bool.not_eq_false', Bool.or_eq_false_iff, decide_eq_false_iff_not] at h9; omega) | (have h9 := hb1; simp only [kd_box, kd_glue, kd_pen, kd_hyp, kd_forced, kd_note, kd_label, kd_page, Bool.or_eq_true, Bool.and_eq_true, decide_eq_true_eq, Bool.not_eq_true', Bool.not_eq_false', Bool.or_eq_false_iff, decide_eq_false_iff_not] at h9; omega) | (have h9 := hb2; simp only [kd_box, kd_glue, kd_pen, kd_hyp, kd_forced, kd_note, kd_label, kd_page, Bool.or_eq_true, Bool.and_eq_true, decide_eq_true_eq, Bool.not_eq_true', Bool.not_eq_false', Bool.or_eq_false_iff, decide_eq_false_iff_not] at h9; omega) | (have h9 := hi1; simp only [kd_box, kd_glue, kd_pen, kd_hyp, kd_forced, kd_note, kd_label, kd_page, Bool.or_eq_true, Bool.and_eq_true, decide_eq_true_eq, Bool.not_eq_true', Bool.not_eq_false', Bool.or_eq_false_iff, decide_eq_false_iff_not] at h9; omega) | (have h9 := hi2; simp only [kd_box, kd_glue, kd_pen, kd_hyp, kd_forced, kd_note, kd_label, kd_page, Bool.or_eq_true, Bool.and_eq_true, decide_eq_true_eq, Bool.not_eq_true', Bool.not_eq_false', Bool.or_eq_false_iff, decide_eq_false_iff_not] at h9; omega))))) (hd_cons (hv_mod (hv_vI rfl) (hv_int 3) (by first | omega | decide +kernel | (simp only [List.length_cons, List.length_nil]; omega) | (have h9 := hb0; simp only [kd_box, kd_glue, kd_pen, kd_hyp, kd_forced, kd_note, kd_label, kd_page, Bool.or_eq_true, Bool.and_eq_true, decide_eq_true_eq, Bool.not_eq_true', Bool.not_eq_false', Bool.or_eq_false_iff, decide_eq_false_iff_not] at h9; omega) | (have h9 := hb1; simp only [kd_box, kd_glue, kd_pen, kd_hyp, kd_forced, kd_note, kd_label, kd_page, Bool.or_eq_true, Bool.and_eq_true, decide_eq_true_eq, Bool.not_eq_true', Bool.not_eq_false', Bool.or_eq_false_iff, decide_eq_false_iff_not] at h9; omega) | (have h9 := hb2; simp only [kd_box, kd_glue, kd_pen, kd_hyp, kd_forced, kd_note, kd_label, kd_page, Bool.or_eq_true, Bool.and_eq_true, decide_eq_true_eq, Bool.not_eq_true', Bool.not_eq_false', Bool.or_eq_false_iff, decide_eq_false_iff_not] at h9; omega) | (have h9 := hi1; simp only [kd_box, kd_glue, kd_pen, kd_hyp, kd_forced, kd_note, kd_label, kd_page, Bool.or_eq_true, Bool.and_eq_true, decide_eq_true_eq, Bool.not_eq_true', Bool.not_eq_false', Bool.or_eq_false_iff, decide_eq_false_iff_not] at h9; omega) | (have h9 := hi2; simp only [kd_box, kd_glue, kd_pen, kd_hyp, kd_forced, kd_note, kd_label, kd_page, Bool.or_eq_true, Bool.and_eq_true, decide_eq_true_eq, Bool.not_eq_true', Bool.not_eq_false', Bool.or_eq_false_iff, decide_eq_false_iff_not] at h9; omega))) (hd_cons (hv_tupv (has_cons (hv_add (hv_int 97) (hv_mod (hv_vI rfl) (hv_int 9) (by first | omega | decide +kernel | (simp only [List.length_cons, List.length_nil]; omega) | (have h9 := hb0; simp only [kd_box, kd_glue, kd_pen, kd_hyp, kd_forced, kd_note, kd_label, kd_page, Bool.or_eq_true, Bool.and_eq_true, decide_eq_true_eq, Bool.not_eq_true', Bool.not_eq_false', Bool.or_eq_false_iff, decide_eq_false_iff_not] at h9; omega) | (have h9 := hb1; simp only [kd_box, kd_glue, kd_pen, kd_hyp, kd_forced, kd_note, kd_label, kd_page, Bool.or_eq_true, Bool.and_eq_true, decide_eq_true_eq, Bool.not_eq_true', Bool.not_eq_false', Bool.or_eq_false_iff, decide_eq_false_iff_not] at h9; omega) | (have h9 := hb2; simp only [kd_box, kd_glue, kd_pen, kd_hyp, kd_forced, kd_note, kd_label, kd_page, Bool.or_eq_true, Bool.and_eq_true, decide_eq_true_eq, Bool.not_eq_true', Bool.not_eq_false', Bool.or_eq_false_iff, decide_eq_false_iff_not] at h9; omega) | (have h9 := hi1; simp only [kd_box, kd_glue, kd_pen, kd_hyp, kd_forced, kd_note, kd_label, kd_page, Bool.or_eq_true, Bool.and_eq_true, decide_eq_true_eq, Bool.not_eq_true', Bool.not_eq_false', Bool.or_eq_false_iff, decide_eq_false_iff_not] at h9; omega) | (have h9 := hi2; simp only [kd_box, kd_glue, kd_pen, kd_hyp, kd_forced, kd_note, kd_label, kd_page, Bool.or_eq_true, Bool.and_eq_true, decide_eq_true_eq, Bool.not_eq_true', Bool.not_eq_false', Bool.or_eq_false_iff, decide_eq_false_iff_not] at h9; omega)))) has_nil) (Nat.le_of_ble_eq_true rfl)) hd_nil)))) (Nat.le_of_ble_eq_true rfl) rfl) fun v H' e d => q v H' e (by rw [hF8]; exact d)
    · have hb5P := hb5
      try simp only [kd_box, kd_glue, kd_pen, kd_hyp, kd_forced, kd_note, kd_label, kd_page, decide_eq_true_eq, decide_eq_false_iff_not, Bool.not_eq_true', Bool.not_eq_false', Bool.and_eq_true, Bool.or_eq_true, Bool.or_eq_false_iff] at hb5P
      refine z_ifx (b := (decide (kind_2 < (7 : Int)))) s7 (ht_val (K := K) (hv_lt (hv_vI rfl) (hv_int 7))) (fun hb9 Hs10 s10 => ?_) (fun hb9 Hs11 s11 => ?_)
      · have hb9P := hb9
        try simp only [kd_box, kd_glue, kd_pen, kd_hyp, kd_forced, kd_note, kd_label, kd_page, decide_eq_true_eq, decide_eq_false_iff_not, Bool.not_eq_true', Bool.not_eq_false', Bool.and_eq_true, Bool.or_eq_true, Bool.or_eq_false_iff] at hb9P
        refine z_asgIG s10 (hv_mod (hv_vI rfl) (hv_int 13) (by first | omega | decide +kernel | (simp only [List.length_cons, List.length_nil]; omega) | (have h9 := hb0; simp only [kd_box, kd_glue, kd_pen, kd_hyp, kd_forced, kd_note, kd_label, kd_page, Bool.or_eq_true, Bool.and_eq_true, decide_eq_true_eq, Bool.not_eq_true', Bool.not_eq_false', Bool.or_eq_false_iff, decide_eq_false_iff_not] at h9; omega) | (have h9 := hb1; simp only [kd_box, kd_glue, kd_pen, kd_hyp, kd_forced, kd_note, kd_label, kd_page, Bool.or_eq_true, Bool.and_eq_true, decide_eq_true_eq, Bool.not_eq_true', Bool.not_eq_false', Bool.or_eq_false_iff, decide_eq_false_iff_not] at h9; omega) | (have h9 := hb2; simp only [kd_box, kd_glue, kd_pen, kd_hyp, kd_forced, kd_note, kd_label, kd_page, Bool.or_eq_true, Bool.and_eq_true, decide_eq_true_eq, Bool.not_eq_true', Bool.not_eq_false', Bool.or_eq_false_iff, decide_eq_false_iff_not] at h9; omega) | (have h9 := hi1; simp only [kd_box, kd_glue, kd_pen, kd_hyp, kd_forced, kd_note, kd_label, kd_page, Bool.or_eq_true, Bool.and_eq_true, decide_eq_true_eq, Bool.not_eq_true', Bool.not_eq_false', Bool.or_eq_false_iff, decide_eq_false_iff_not] at h9; omega) | (have h9 := hi2; simp only [kd_box, kd_glue, kd_pen, kd_hyp, kd_forced, kd_note, kd_label, kd_page, Bool.or_eq_true, Bool.and_eq_true, decide_eq_true_eq, Bool.not_eq_true', Bool.not_eq_false', Bool.or_eq_false_iff, decide_eq_false_iff_not] at h9; omega))) fun wide_13 hwide_13 Hs12 s12 => ?_
        try dsimp only at hwide_13
        have hF14 : m_law_item draw_ small_ = (Itm.glue wide_13 ((size_4 / (13 : Int)) % (12 : Int)) (min wide_13 ((size_4 / (156 : Int)) % (7 : Int))) (decide ((0 : Int) < (size_4 % (5 : Int))))) := (by subst hwide_13; subst hsize_4; subst hkind_2; first | (simp only [m_law_item, hb5, hb9, if_true, if_false, Bool.false_eq_true, decide_true, decide_false, Option.getD_some, Option.isNone_none, Option.isNone_some, Bool.not_true, Bool.not_false, ↓reduceIte]; done) | (rfl; done) | ((unfold m_law_item); (dsimp only); (first | rw [ifT hb5] | rw [ifF hb5] | skip); (try dsimp only); (first | rw [ifT hb9] | rw [ifF hb9] | skip); (try dsimp only); first | done | rfl) | (exfalso; simp at hb9; done) | (exfalso; simp at hb5; done))
        exact zq_ret s12 (hv_tupX (Itm.glue wide_13 ((size_4 / (13 : Int)) % (12 : Int)) (min wide_13 ((size_4 / (156 : Int)) % (7 : Int))) (decide ((0 : Int) < (size_4 % (5 : Int))))) (hd_cons (hv_str _) (hd_cons (hv_vI rfl) (hd_cons (hv_mod (hv_div (hv_vI rfl) (hv_int 13) (by first | exact ⟨by decide +kernel, by decide +kernel⟩ | (refine log_small ?_ ?_ <;> omega))) (hv_int 12) (by first | omega | decide +kernel | (simp only [List.length_cons, List.length_nil]; omega) | (have h9 := hb0; simp only [kd_box, kd_glue, kd_pen, kd_hyp, kd_forced, kd_note, kd_label, kd_page, Bool.or_eq_true, Bool.and_eq_true, decide_eq_true_eq, Bool.not_eq_true', Bool.not_eq_false', Bool.or_eq_false_iff, decide_eq_false_iff_not] at h9; omega) | (have h9 := hb1; simp only [kd_box, kd_glue, kd_pen, kd_hyp, kd_forced, kd_note, kd_label, kd_page, Bool.or_eq_true, Bool.and_eq_true, decide_eq_true_eq, Bool.not_eq_true', Bool.not_eq_false', Bool.or_eq_false_iff, decide_eq_false_iff_not] at h9; omega) | (have h9 := hb2; simp only [kd_box, kd_glue, kd_pen, kd_hyp, kd_forced, kd_note, kd_label, kd_page, Bool.or_eq_true, Bool.and_eq_true, decide_eq_true_eq, Bool.not_eq_true', Bool.not_eq_false', Bool.or_eq_false_iff, decide_eq_false_iff_not] at h9; omega) | (have h9 := hi1; simp only [kd_box, kd_glue, kd_pen, kd_hyp, kd_forced, kd_note, kd_label, kd_page, Bool.or_eq_true, Bool.and_eq_true, decide_eq_true_eq, Bool.not_eq_true', Bool.not_eq_false', Bool.or_eq_false_iff, decide_eq_false_iff_not] at h9; omega) | (have h9 := hi2; simp only [kd_box, kd_glue, kd_pen, kd_hyp, kd_forced, kd_note, kd_label, kd_page, Bool.or_eq_true, Bool.and_eq_true, decide_eq_true_eq, Bool.not_eq_true', Bool.not_eq_false', Bool.or_eq_false_iff, decide_eq_false_iff_not] at h9; omega))) (hd_cons (hv_min2 (hv_vI rfl) (hv_mod (hv_div (hv_vI rfl) (hv_int 156) (by first | exact ⟨by decide +kernel, by decide +kernel⟩ | (refine log_small ?_ ?_ <;> omega))) (hv_int 7) (by first | omega | decide +kernel | (simp only [List.length_cons, List.length_nil]; omega) | (have h9 := hb0; simp only [kd_box, kd_glue, kd_pen, kd_hyp, kd_forced, kd_note, kd_label, kd_page, Bool.or_eq_true, Bool.and_eq_true, decide_eq_true_eq, Bool.not_eq_true', Bool.not_eq_false', Bool.or_eq_false_iff, decide_eq_false_iff_not] at h9; omega) | (have h9 := hb1; simp only [kd_box, kd_glue, kd_pen, kd_hyp, kd_forced, kd_note, kd_label, kd_page, Bool.or_eq_true, Bool.and_eq_true, decide_eq_true_eq, Bool.not_eq_true', Bool.not_eq_false', Bool.or_eq_false_iff, decide_eq_false_iff_not] at h9; omega) | (have h9 := hb2; simp only [kd_box, kd_glue, kd_pen, kd_hyp, kd_forced, kd_note, kd_label, kd_page, Bool.or_eq_true, Bool.and_eq_true, decide_eq_true_eq, Bool.not_eq_true', Bool.not_eq_false', Bool.or_eq_false_iff, decide_eq_false_iff_not] at h9; omega) | (have h9 := hi1; simp only [kd_box, kd_glue, kd_pen, kd_hyp, kd_forced, kd_note, kd_label, kd_page, Bool.or_eq_true, Bool.and_eq_true, decide_eq_true_eq, Bool.not_eq_true', Bool.not_eq_false', Bool.or_eq_false_iff, decide_eq_false_iff_not] at h9; omega) | (have h9 := hi2; simp only [kd_box, kd_glue, kd_pen, kd_hyp, kd_forced, kd_note, kd_label, kd_page, Bool.or_eq_true, Bool.and_eq_true, decide_eq_true_eq, Bool.not_eq_true', Bool.not_eq_false', Bool.or_eq_false_iff, decide_eq_false_iff_not] at h9; omega)))) (hd_cons (hv_gt (hv_mod (hv_vI rfl) (hv_int 5) (by first | omega | decide +kernel | (simp only [List.length_cons, List.length_nil]; omega) | (have h9 := hb0; simp only [kd_box, kd_glue, kd_pen, kd_hyp, kd_forced, kd_note, kd_label, kd_page, Bool.or_eq_true, Bool.and_eq_true, decide_eq_true_eq, Bool.not_eq_true', Bool.not_eq_false', Bool.or_eq_false_iff, decide_eq_false_iff_not] at h9; omega) | (have h9 := hb1; simp only [kd_box, kd_glue, kd_pen, kd_hyp, kd_forced, kd_note, kd_label, kd_page, Bool.or_eq_true, Bool.and_eq_true, decide_eq_true_eq, Bool.not_eq_true', Bool.not_eq_false', Bool.or_eq_false_iff, decide_eq_false_iff_not] at h9; omega) | (have h9 := hb2; simp only [kd_box, kd_glue, kd_pen, kd_hyp, kd_forced, kd_note, kd_label, kd_page, Bool.or_eq_true, Bool.and_eq_true, decide_eq_true_eq, Bool.not_eq_true', Bool.not_eq_false', Bool.or_eq_false_iff, decide_eq_false_iff_not] at h9; omega) | (have h9 := hi1; simp only [kd_box, kd_glue, kd_pen, kd_hyp, kd_forced, kd_note, kd_label, kd_page, Bool.or_eq_true, Bool.and_eq_true, decide_eq_true_eq, Bool.not_eq_true', Bool.not_eq_false', Bool.or_eq_false_iff, decide_eq_false_iff_not] at h9; omega) | (have h9 := hi2; simp only [kd_box, kd_glue, kd_pen, kd_hyp, kd_forced, kd_note, kd_label, kd_page, Bool.or_eq_true, Bool.and_eq_true, decide_eq_true_eq, Bool.not_eq_true', Bool.not_eq_false', Bool.or_eq_false_iff, decide_eq_false_iff_not] at h9; omega))) (hv_int 0)) hd_nil))))) (Nat.le_of_ble_eq_true rfl) rfl) fun v H' e d => q v H' e (by rw [hF14]; exact d)
      · have hb9P := hb9
        try simp only [kd_box, kd_glue, kd_pen, kd_hyp, kd_forced, kd_note, kd_label, kd_page, decide_eq_true_eq, decide_eq_false_iff_not, Bool.not_eq_true', Bool.not_eq_false', Bool.and_eq_true, Bool.or_eq_true, Bool.or_eq_false_iff] at hb9P
        refine z_ifx (b := (decide (kind_2 = (7 : Int)))) s11 (ht_val (K := K) (hv_eqI (hv_vI rfl) (hv_int 7))) (fun hb15 Hs16 s16 => ?_) (fun hb15 Hs17 s17 => ?_)
        · have hb15P := hb15
          try simp only [kd_box, kd_glue, kd_pen, kd_hyp, kd_forced, kd_note, kd_label, kd_page, decide_eq_true_eq, decide_eq_false_iff_not, Bool.not_eq_true', Bool.not_eq_false', Bool.and_eq_true, Bool.or_eq_true, Bool.or_eq_false_iff] at hb15P
          have hF18 : m_law_item draw_ small_ = (Itm.pen (size_4 % (60 : Int))) := (by subst hsize_4; subst hkind_2; first | (simp only [m_law_item, hb5, hb9, hb15, if_true, if_false, Bool.false_eq_true, decide_true, decide_false, Option.getD_some, Option.isNone_none, Option.isNone_some, Bool.not_true, Bool.not_false, ↓reduceIte]; done) | (rfl; done) | ((unfold m_law_item); (dsimp only); (first | rw [ifT hb5] | rw [ifF hb5] | skip); (try dsimp only); (first | rw [ifT hb9] | rw [ifF hb9] | skip); (try dsimp only); (first | rw [ifT hb15] | rw [ifF hb15] | skip); (try dsimp only); first | done | rfl) | (exfalso; simp at hb15; done) | (exfalso; simp at hb9; done) | (exfalso; simp at hb5; done))
          exact zq_ret s16 (hv_tupX (Itm.pen (size_4 % (60 : Int))) (hd_cons (hv_str _) (hd_cons (hv_mod (hv_vI rfl) (hv_int 60) (by first | omega | decide +kernel | (simp only [List.length_cons, List.length_nil]; omega) | (have h9 := hb0; simp only [kd_box, kd_glue, kd_pen, kd_hyp, kd_forced, kd_note, kd_label, kd_page, Bool.or_eq_true, Bool.and_eq_true, decide_eq_true_eq, Bool.not_eq_true', Bool.not_eq_false', Bool.or_eq_false_iff, decide_eq_false_iff_not] at h9; omega) | (have h9 := hb1; simp only [kd_box, kd_glue, kd_pen, kd_hyp, kd_forced, kd_note, kd_label, kd_page, Bool.or_eq_true, Bool.and_eq_true, decide_eq_true_eq, Bool.not_eq_true', Bool.not_eq_false', Bool.or_eq_false_iff, decide_eq_false_iff_not] at h9; omega) | (have h9 := hb2; simp only [kd_box, kd_glue, kd_pen, kd_hyp, kd_forced, kd_note, kd_label, kd_page, Bool.or_eq_true, Bool.and_eq_true, decide_eq_true_eq, Bool.not_eq_true', Bool.not_eq_false', Bool.or_eq_false_iff, decide_eq_false_iff_not] at h9; omega) | (have h9 := hi1; simp only [kd_box, kd_glue, kd_pen, kd_hyp, kd_forced, kd_note, kd_label, kd_page, Bool.or_eq_true, Bool.and_eq_true, decide_eq_true_eq, Bool.not_eq_true', Bool.not_eq_false', Bool.or_eq_false_iff, decide_eq_false_iff_not] at h9; omega) | (have h9 := hi2; simp only [kd_box, kd_glue, kd_pen, kd_hyp, kd_forced, kd_note, kd_label, kd_page, Bool.or_eq_true, Bool.and_eq_true, decide_eq_true_eq, Bool.not_eq_true', Bool.not_eq_false', Bool.or_eq_false_iff, decide_eq_false_iff_not] at h9; omega))) hd_nil)) (Nat.le_of_ble_eq_true rfl) rfl) fun v H' e d => q v H' e (by rw [hF18]; exact d)
        · have hb15P := hb15
          try simp only [kd_box, kd_glue, kd_pen, kd_hyp, kd_forced, kd_note, kd_label, kd_page, decide_eq_true_eq, decide_eq_false_iff_not, Bool.not_eq_true', Bool.not_eq_false', Bool.and_eq_true, Bool.or_eq_true, Bool.or_eq_false_iff] at hb15P
          refine z_ifx (b := (decide (kind_2 = (8 : Int)))) s17 (ht_val (K := K) (hv_eqI (hv_vI rfl) (hv_int 8))) (fun hb19 Hs20 s20 => ?_) (fun hb19 Hs21 s21 => ?_)
          · have hb19P := hb19
            try simp only [kd_box, kd_glue, kd_pen, kd_hyp, kd_forced, kd_note, kd_label, kd_page, decide_eq_true_eq, decide_eq_false_iff_not, Bool.not_eq_true', Bool.not_eq_false', Bool.and_eq_true, Bool.or_eq_true, Bool.or_eq_false_iff] at hb19P
            have hF22 : m_law_item draw_ small_ = (Itm.hyp (size_4 % (9 : Int)) (size_4 % (3 : Int)) (size_4 % (50 : Int))) := (by subst hsize_4; subst hkind_2; first | (simp only [m_law_item, hb5, hb9, hb15, hb19, if_true, if_false, Bool.false_eq_true, decide_true, decide_false, Option.getD_some, Option.isNone_none, Option.isNone_some, Bool.not_true, Bool.not_false, ↓reduceIte]; done) | (rfl; done) | ((unfold m_law_item); (dsimp only); (first | rw [ifT hb5] | rw [ifF hb5] | skip); (try dsimp only); (first | rw [ifT hb9] | rw [ifF hb9] | skip); (try dsimp only); (first | rw [ifT hb15] | rw [ifF hb15] | skip); (try dsimp only); (first | rw [ifT hb19] | rw [ifF hb19] | skip); (try dsimp only); first | done | rfl) | (exfalso; simp at hb19; done) | (exfalso; simp at hb15; done) | (exfalso; simp at hb9; done) | (exfalso; simp at hb5; done))
            exact zq_ret s20 (hv_tupX (Itm.hyp (size_4 % (9 : Int)) (size_4 % (3 : Int)) (size_4 % (50 : Int))) (hd_cons (hv_str _) (hd_cons (hv_mod (hv_vI rfl) (hv_int 9) (by first | omega | decide +kernel | (simp only [List.length_cons, List.length_nil]; omega) | (have h9 := hb0; simp only [kd_box, kd_glue, kd_pen, kd_hyp, kd_forced, kd_note, kd_label, kd_page, Bool.or_eq_true, Bool.and_eq_true, decide_eq_true_eq, Bool.not_eq_true', Bool.not_eq_false', Bool.or_eq_false_iff, decide_eq_false_iff_not] at h9; omega) | (have h9 := hb1; simp only [kd_box, kd_glue, kd_pen, kd_hyp, kd_forced, kd_note, kd_label, kd_page, Bool.or_eq_true, Bool.and_eq_true, decide_eq_true_eq, Bool.not_eq_true', Bool.not_eq_false', Bool.or_eq_false_iff, decide_eq_false_iff_not] at h9; omega) | (have h9 := hb2; simp only [kd_box, kd_glue, kd_pen, kd_hyp, kd_forced, kd_note, kd_label, kd_page, Bool.or_eq_true, Bool.and_eq_true, decide_eq_true_eq, Bool.not_eq_true', Bool.not_eq_false', Bool.or_eq_false_iff, decide_eq_false_iff_not] at h9; omega) | (have h9 := hi1; simp only [kd_box, kd_glue, kd_pen, kd_hyp, kd_forced, kd_note, kd_label, kd_page, Bool.or_eq_true, Bool.and_eq_true, decide_eq_true_eq, Bool.not_eq_true', Bool.not_eq_false', Bool.or_eq_false_iff, decide_eq_false_iff_not] at h9; omega) | (have h9 := hi2; simp only [kd_box, kd_glue, kd_pen, kd_hyp, kd_forced, kd_note, kd_label, kd_page, Bool.or_eq_true, Bool.and_eq_true, decide_eq_true_eq, Bool.not_eq_true', Bool.not_eq_false', Bool.or_eq_false_iff, decide_eq_false_iff_not] at h9; omega))) (hd_cons (hv_mod (hv_vI rfl) (hv_int 3) (by first | omega | decide +kernel | (simp only [List.length_cons, List.length_nil]; omega) | (have h9 := hb0; simp only [kd_box, kd_glue, kd_pen, kd_hyp, kd_forced, kd_note, kd_label, kd_page, Bool.or_eq_true, Bool.and_eq_true, decide_eq_true_eq, Bool.not_eq_true', Bool.not_eq_false', Bool.or_eq_false_iff, decide_eq_false_iff_not] at h9; omega) | (have h9 := hb1; simp only [kd_box, kd_glue, kd_pen, kd_hyp, kd_forced, kd_note, kd_label, kd_page, Bool.or_eq_true, Bool.and_eq_true, decide_eq_true_eq, Bool.not_eq_true', Bool.not_eq_false', Bool.or_eq_false_iff, decide_eq_false_iff_not] at h9; omega) | (have h9 := hb2; simp only [kd_box, kd_glue, kd_pen, kd_hyp, kd_forced, kd_note, kd_label, kd_page, Bool.or_eq_true, Bool.and_eq_true, decide_eq_true_eq, Bool.not_eq_true', Bool.not_eq_false', Bool.or_eq_false_iff, decide_eq_false_iff_not] at h9; omega) | (have h9 := hi1; simp only [kd_box, kd_glue, kd_pen, kd_hyp, kd_forced, kd_note, kd_label, kd_page, Bool.or_eq_true, Bool.and_eq_true, decide_eq_true_eq, Bool.not_eq_true', Bool.not_eq_false', Bool.or_eq_false_iff, decide_eq_false_iff_not] at h9; omega) | (have h9 := hi2; simp only [kd_box, kd_glue, kd_pen, kd_hyp, kd_forced, kd_note, kd_label, kd_page, Bool.or_eq_true, Bool.and_eq_true, decide_eq_true_eq, Bool.not_eq_true', Bool.not_eq_false', Bool.or_eq_false_iff, decide_eq_false_iff_not] at h9; omega))) (hd_cons (hv_mod (hv_vI rfl) (hv_int 50) (by first | omega | decide +kernel | (simp only [List.length_cons, List.length_nil]; omega) | (have h9 := hb0; simp only [kd_box, kd_glue, kd_pen, kd_hyp, kd_forced, kd_note, kd_label, kd_page, Bool.or_eq_true, Bool.and_eq_true, decide_eq_true_eq, Bool.not_eq_true', Bool.not_eq_false', Bool.or_eq_false_iff, decide_eq_false_iff_not] at h9; omega) | (have h9 := hb1; simp only [kd_box, kd_glue, kd_pen, kd_hyp, kd_forced, kd_note, kd_label, kd_page, Bool.or_eq_true, Bool.and_eq_true, decide_eq_true_eq, Bool.not_eq_true', Bool.not_eq_false', Bool.or_eq_false_iff, decide_eq_false_iff_not] at h9; omega) | (have h9 := hb2; simp only [kd_box, kd_glue, kd_pen, kd_hyp, kd_forced, kd_note, kd_label, kd_page, Bool.or_eq_true, Bool.and_eq_true, decide_eq_true_eq, Bool.not_eq_true', Bool.not_eq_false', Bool.or_eq_false_iff, decide_eq_false_iff_not] at h9; omega) | (have h9 := hi1; simp only [kd_box, kd_glue, kd_pen, kd_hyp, kd_forced, kd_note, kd_label, kd_page, Bool.or_eq_true, Bool.and_eq_true, decide_eq_true_eq, Bool.not_eq_true', Bool.not_eq_false', Bool.or_eq_false_iff, decide_eq_false_iff_not] at h9; omega) | (have h9 := hi2; simp only [kd_box, kd_glue, kd_pen, kd_hyp, kd_forced, kd_note, kd_label, kd_page, Bool.or_eq_true, Bool.and_eq_true, decide_eq_true_eq, Bool.not_eq_true', Bool.not_eq_false', Bool.or_eq_false_iff, decide_eq_false_iff_not] at h9; omega))) hd_nil)))) (Nat.le_of_ble_eq_true rfl) rfl) fun v H' e d => q v H' e (by rw [hF22]; exact d)
          · have hb19P := hb19
            try simp only [kd_box, kd_glue, kd_pen, kd_hyp, kd_forced, kd_note, kd_label, kd_page, decide_eq_true_eq, decide_eq_false_iff_not, Bool.not_eq_true', Bool.not_eq_false', Bool.and_eq_true, Bool.or_eq_true, Bool.or_eq_false_iff] at hb19P
            have hF23 : m_law_item draw_ small_ = ([Itm.forced, (Itm.note (0 : Int)), (Itm.label (PySem.Str.ofString "a")), (Itm.page (8 : Int) (1 : Int) (2 : Int) (PySem.Str.ofString "b"))].getD (Int.toNat (size_4 % (4 : Int))) Itm.forced) := (by subst hsize_4; subst hkind_2; first | (simp only [m_law_item, hb5, hb9, hb15, hb19, if_true, if_false, Bool.false_eq_true, decide_true, decide_false, Option.getD_some, Option.isNone_none, Option.isNone_some, Bool.not_true, Bool.not_false, ↓reduceIte]; done) | (rfl; done) | ((unfold m_law_item); (dsimp only); (first | rw [ifT hb5] | rw [ifF hb5] | skip); (try dsimp only); (first | rw [ifT hb9] | rw [ifF hb9] | skip); (try dsimp only); (first | rw [ifT hb15] | rw [ifF hb15] | skip); (try dsimp only); (first | rw [ifT hb19] | rw [ifF hb19] | skip); (try dsimp only); first | done | rfl) | (exfalso; simp at hb19; done) | (exfalso; simp at hb15; done) | (exfalso; simp at hb9; done) | (exfalso; simp at hb5; done))
            exact zq_ret s21 (hv_at Itm.forced (hs_of (hv_lst (has_cons (hv_tupX Itm.forced (hd_cons (hv_str _) hd_nil) (Nat.le_of_ble_eq_true rfl) rfl) (has_cons (hv_tupX (Itm.note (0 : Int)) (hd_cons (hv_str _) (hd_cons (hv_int 0) hd_nil)) (Nat.le_of_ble_eq_true rfl) rfl) (has_cons (hv_tupX (Itm.label (PySem.Str.ofString "a")) (hd_cons (hv_str _) (hd_cons (hv_str _) hd_nil)) (Nat.le_of_ble_eq_true rfl) rfl) (has_cons (hv_tupX (Itm.page (8 : Int) (1 : Int) (2 : Int) (PySem.Str.ofString "b")) (hd_cons (hv_str _) (hd_cons (hv_int 8) (hd_cons (hv_int 1) (hd_cons (hv_int 2) (hd_cons (hv_str _) hd_nil))))) (Nat.le_of_ble_eq_true rfl) rfl) has_nil)))) (Nat.le_of_ble_eq_true rfl))) (hv_mod (hv_vI rfl) (hv_int 4) (by first | omega | decide +kernel | (simp only [List.length_cons, List.length_nil]; omega) | (have h9 := hb0; simp only [kd_box, kd_glue, kd_pen, kd_hyp, kd_forced, kd_note, kd_label, kd_page, Bool.or_eq_true, Bool.and_eq_true, decide_eq_true_eq, Bool.not_eq_true', Bool.not_eq_false', Bool.or_eq_false_iff, decide_eq_false_iff_not] at h9; omega) | (have h9 := hb1; simp only [kd_box, kd_glue, kd_pen, kd_hyp, kd_forced, kd_note, kd_label, kd_page, Bool.or_eq_true, Bool.and_eq_true, decide_eq_true_eq, Bool.not_eq_true', Bool.not_eq_false', Bool.or_eq_false_iff, decide_eq_false_iff_not] at h9; omega) | (have h9 := hb2; simp only [kd_box, kd_glue, kd_pen, kd_hyp, kd_forced, kd_note, kd_label, kd_page, Bool.or_eq_true, Bool.and_eq_true, decide_eq_true_eq, Bool.not_eq_true', Bool.not_eq_false', Bool.or_eq_false_iff, decide_eq_false_iff_not] at h9; omega) | (have h9 := hi1; simp only [kd_box, kd_glue, kd_pen, kd_hyp, kd_forced, kd_note, kd_label, kd_page, Bool.or_eq_true, Bool.and_eq_true, decide_eq_true_eq, Bool.not_eq_true', Bool.not_eq_false', Bool.or_eq_false_iff, decide_eq_false_iff_not] at h9; omega) | (have h9 := hi2; simp only [kd_box, kd_glue, kd_pen, kd_hyp, kd_forced, kd_note, kd_label, kd_page, Bool.or_eq_true, Bool.and_eq_true, decide_eq_true_eq, Bool.not_eq_true', Bool.not_eq_false', Bool.or_eq_false_iff, decide_eq_false_iff_not] at h9; omega))) (by first | omega | decide +kernel | (simp only [List.length_cons, List.length_nil]; omega) | (have h9 := hb0; simp only [kd_box, kd_glue, kd_pen, kd_hyp, kd_forced, kd_note, kd_label, kd_page, Bool.or_eq_true, Bool.and_eq_true, decide_eq_true_eq, Bool.not_eq_true', Bool.not_eq_false', Bool.or_eq_false_iff, decide_eq_false_iff_not] at h9; omega) | (have h9 := hb1; simp only [kd_box, kd_glue, kd_pen, kd_hyp, kd_forced, kd_note, kd_label, kd_page, Bool.or_eq_true, Bool.and_eq_true, decide_eq_true_eq, Bool.not_eq_true', Bool.not_eq_false', Bool.or_eq_false_iff, decide_eq_false_iff_not] at h9; omega) | (have h9 := hb2; simp only [kd_box, kd_glue, kd_pen, kd_hyp, kd_forced, kd_note, kd_label, kd_page, Bool.or_eq_true, Bool.and_eq_true, decide_eq_true_eq, Bool.not_eq_true', Bool.not_eq_false', Bool.or_eq_false_iff, decide_eq_false_iff_not] at h9; omega) | (have h9 := hi1; simp only [kd_box, kd_glue, kd_pen, kd_hyp, kd_forced, kd_note, kd_label, kd_page, Bool.or_eq_true, Bool.and_eq_true, decide_eq_true_eq, Bool.not_eq_true', Bool.not_eq_false', Bool.or_eq_false_iff, decide_eq_false_iff_not] at h9; omega) | (have h9 := hi2; simp only [kd_box, kd_glue, kd_pen, kd_hyp, kd_forced, kd_note, kd_label, kd_page, Bool.or_eq_true, Bool.and_eq_true, decide_eq_true_eq, Bool.not_eq_true', Bool.not_eq_false', Bool.or_eq_false_iff, decide_eq_false_iff_not] at h9; omega)) (by first | omega | decide +kernel | (simp only [List.length_cons, List.length_nil]; omega) | (have h9 := hb0; simp only [kd_box, kd_glue, kd_pen, kd_hyp, kd_forced, kd_note, kd_label, kd_page, Bool.or_eq_true, Bool.and_eq_true, decide_eq_true_eq, Bool.not_eq_true', Bool.not_eq_false', Bool.or_eq_false_iff, decide_eq_false_iff_not] at h9; omega) | (have h9 := hb1; simp only [kd_box, kd_glue, kd_pen, kd_hyp, kd_forced, kd_note, kd_label, kd_page, Bool.or_eq_true, Bool.and_eq_true, decide_eq_true_eq, Bool.not_eq_true', Bool.not_eq_false', Bool.or_eq_false_iff, decide_eq_false_iff_not] at h9; omega) | (have h9 := hb2; simp only [kd_box, kd_glue, kd_pen, kd_hyp, kd_forced, kd_note, kd_label, kd_page, Bool.or_eq_true, Bool.and_eq_true, decide_eq_true_eq, Bool.not_eq_true', Bool.not_eq_false', Bool.or_eq_false_iff, decide_eq_false_iff_not] at h9; omega) | (have h9 := hi1; simp only [kd_box, kd_glue, kd_pen, kd_hyp, kd_forced, kd_note, kd_label, kd_page, Bool.or_eq_true, Bool.and_eq_true, decide_eq_true_eq, Bool.not_eq_true', Bool.not_eq_false', Bool.or_eq_false_iff, decide_eq_false_iff_not] at h9; omega) | (have h9 := hi2; simp only [kd_box, kd_glue, kd_pen, kd_hyp, kd_forced, kd_note, kd_label, kd_page, Bool.or_eq_true, Bool.and_eq_true, decide_eq_true_eq, Bool.not_eq_true', Bool.not_eq_false', Bool.or_eq_false_iff, decide_eq_false_iff_not] at h9; omega))) fun v H' e d => q v H' e (by rw [hF23]; exact d)
def m_law_is_blank (item_ : Itm) : Bool :=
  (decide ((Itm.kind item_) = (PySem.Str.ofString "glue")) || decide ((Itm.kind item_) = (PySem.Str.ofString "penalty")) || decide ((Itm.kind item_) = (PySem.Str.ofString "forced")))
abbrev s_law_is_blank : Stmt := (topS 25)
theorem sc_law_is_blank : FnScope ["item"] ["item"] (defScope s_law_is_blank) := ⟨rfl, rfl, rfl, by decide +kernel, rfl, by decide +kernel, by decide +kernel⟩
abbrev sp_law_is_blank (K : PySem.W.Frag) : Sp := PrD K (fun c : Itm => [Dx.toX c]) (fun c => True) (fun c => (m_law_is_blank c : Bool))
theorem ok_law_is_blank (T : Txt K mg) : FnOk P w K mg base CX0 1 T.f_law_is_blank T.d_law_is_blank ["item"] (sp_law_is_blank K) := by
  refine T.u_law_is_blank.ok sc_law_is_blank (fun vs H Q E h => ?_) (fun cdv A outer s H vs Q E hr h => ?_)
  · obtain ⟨Mc, c, mok, da, pre, q⟩ := h
    exact (dpa_len da)
  · obtain ⟨Mc, c, mok, da, pre, q⟩ := h
    obtain ⟨item_, rfl⟩ : ∃ z, z = c := ⟨c, rfl⟩
    dsimp only at da pre q
    obtain ⟨v0, w0, rfl, d0, da0⟩ := dpa_inv da
    cases dpa_inv0 da0
    have s0 : Sg K Mc H H [(v0, Dx.toX item_)] [] := Sg.enter mok ⟨d0, True.intro⟩
    refine ⟨_, (pss_cons (ps_ret (pe_cmpR op_in_seq (pe_ix ix_tup (pv 0) pe_int (fun _ _ => rfl)) (pe_tup (pa_cons pe_str (pa_cons pe_str (pa_cons pe_str pa_nil)))) (by rfl))) pss_nil), ?_⟩
    have hF1 : m_law_is_blank item_ = (decide ((Itm.kind item_) = (PySem.Str.ofString "glue")) || decide ((Itm.kind item_) = (PySem.Str.ofString "penalty")) || decide ((Itm.kind item_) = (PySem.Str.ofString "forced"))) := (by  first | (simp only [m_law_is_blank, if_true, if_false, Bool.false_eq_true, decide_true, decide_false, Option.getD_some, Option.isNone_none, Option.isNone_some, Bool.not_true, Bool.not_false, ↓reduceIte]; done) | (rfl; done) | ((unfold m_law_is_blank); (dsimp only); first | done | rfl))
    exact zq_ret s0 ((hv_inTS (hv_it0 (hv_var (x := item_) rfl s0.im.1)) (has_cons (hv_str _) (has_cons (hv_str _) (has_cons (hv_str _) has_nil))) (Nat.le_of_ble_eq_true rfl)).is (show _ = (decide ((Itm.kind item_) = (PySem.Str.ofString "glue")) || decide ((Itm.kind item_) = (PySem.Str.ofString "penalty")) || decide ((Itm.kind item_) = (PySem.Str.ofString "forced"))) by simp [Bool.or_assoc])) fun v H' e d => q v H' e (by rw [hF1]; exact d)
def m_is_line_end (items_ : (List Itm)) (position_ : Int) : Bool :=
  if (!((decide ((1 : Int) ≤ position_)) && (decide (position_ ≤ ((items_).length : Int))))) = true then
    false
  else
    let last_ : Itm := (items_.getD (Int.toNat (position_ - (1 : Int))) Itm.forced)
    if ((decide (position_ = ((items_).length : Int))) || (decide ((Itm.kind last_) = (PySem.Str.ofString "penalty")) || decide ((Itm.kind last_) = (PySem.Str.ofString "hyphen")) || decide ((Itm.kind last_) = (PySem.Str.ofString "forced")))) = true then
      true
    else
      if ((!decide ((Itm.kind last_) = (PySem.Str.ofString "glue"))) || (!(Itm.fr last_))) = true then
        false
      else
        ((decide ((2 : Int) ≤ position_)) && (!(m_is_blank (items_.getD (Int.toNat (position_ - (2 : Int))) Itm.forced))))
abbrev s_is_line_end : Stmt := (topS 9)
theorem sc_is_line_end : FnScope ["items", "position", "last"] ["items", "position"] (defScope s_is_line_end) := ⟨rfl, rfl, rfl, by decide +kernel, rfl, by decide +kernel, by decide +kernel⟩
abbrev sp_is_line_end (K : PySem.W.Frag) : Sp := PrD K (fun c : (List Itm) × Int => [Dx.toX c.1, Dx.toX c.2]) (fun c => True) (fun c => (m_is_line_end c.1 c.2 : Bool))
theorem ok_is_line_end (T : Txt K mg) : FnOk P w K mg base CX0 2 T.f_is_line_end T.d_is_line_end ["items", "position"] (sp_is_line_end K) := by
  refine T.u_is_line_end.ok sc_is_line_end (fun vs H Q E h => ?_) (fun cdv A outer s H vs Q E hr h => ?_)
  · obtain ⟨Mc, c, mok, da, pre, q⟩ := h
    exact (dpa_len da)
  · obtain ⟨Mc, c, mok, da, pre, q⟩ := h
    obtain ⟨items_, position_⟩ := c
    dsimp only at da pre q
    obtain ⟨v0, w0, rfl, d0, da0⟩ := dpa_inv da
    obtain ⟨v1, w1, rfl, d1, da1⟩ := dpa_inv da0
    cases dpa_inv0 da1
    cases (Dt.int d1)
    have s0 : Sg K Mc H H [(v0, Dx.toX items_)] [] := Sg.enter mok ⟨d0, True.intro⟩
    refine ⟨_, (pss_cons (ps_if (pt_not (pt_chain op_le op_le pe_int (pv 1) (pe_callB call_len (by rfl) T.n_len (by decide +kernel) (pa_cons (pv 0) pa_nil)))) (pss_cons (ps_ret pe_bl) pss_nil) pss_nil) (pss_cons (ps_set (i := 2) sc_is_line_end.nd rfl (.inl rfl) (pe_ix ix_list (pv 0) (pe_op op_sub (pv 1) pe_int) (fun _ _ => rfl))) (pss_cons (ps_if (PW.pt (pw_or (pt_cmpR op_eq (pv 1) (pe_callB call_len (by rfl) T.n_len (by decide +kernel) (pa_cons (pv 0) pa_nil)) (nomark _)) (pw_or1 (pt_cmpR op_in_seq (pe_ix ix_tup (pv 2) pe_int (fun _ _ => rfl)) (pe_tup (pa_cons pe_str (pa_cons pe_str (pa_cons pe_str pa_nil)))) (by rfl))))) (pss_cons (ps_ret pe_bl) pss_nil) pss_nil) (pss_cons (ps_if (PW.pt (pw_or (pt_cmpR op_ne (pe_ix ix_tup (pv 2) pe_int (fun _ _ => rfl)) pe_str (nomark _)) (pw_or1 (pt_not (pt_val (pe_ix ix_tup (pv 2) pe_int (fun _ _ => rfl))))))) (pss_cons (ps_ret pe_bl) pss_nil) pss_nil) (pss_cons (ps_ret (pe_and (pe_cmpR op_ge (pv 1) pe_int (nomark _)) (pe_one (pe_not (pe_call (ok_is_blank T) hr (by rfl) T.g_is_blank T.u_is_blank.kp T.b_is_blank .nil pass0 (pa_cons (pe_ix ix_list (pv 0) (pe_op op_sub (pv 1) pe_int) (fun _ _ => rfl)) pa_nil)))))) pss_nil))))), ?_⟩
    refine z_ifx (b := (!((decide ((1 : Int) ≤ position_)) && (decide (position_ ≤ ((items_).length : Int)))))) s0 (ht_not (ht_val (K := K) (hv_chainI (g1 := fun i j => decide (i ≤ j)) (g2 := fun i j => decide (i ≤ j)) (hv_int 1) (hv_vI rfl) (hv_len (hs_of (hv_var (x := items_) rfl s0.im.1)))))) (fun hb1 Hs2 s2 => ?_) (fun hb1 Hs3 s3 => ?_)
    · have hb1P := hb1
      try simp only [kd_box, kd_glue, kd_pen, kd_hyp, kd_forced, kd_note, kd_label, kd_page, decide_eq_true_eq, decide_eq_false_iff_not, Bool.not_eq_true', Bool.not_eq_false', Bool.and_eq_true, Bool.or_eq_true, Bool.or_eq_false_iff] at hb1P
      have hF4 : m_is_line_end items_ position_ = false := (by  first | (simp only [m_is_line_end, hb1, if_true, if_false, Bool.false_eq_true, decide_true, decide_false, Option.getD_some, Option.isNone_none, Option.isNone_some, Bool.not_true, Bool.not_false, ↓reduceIte]; done) | (rfl; done) | ((unfold m_is_line_end); (dsimp only); (first | rw [ifT hb1] | rw [ifF hb1] | skip); (try dsimp only); first | done | rfl) | (exfalso; simp at hb1; done))
      exact zq_ret s2 (hv_bl false) fun v H' e d => q v H' e (by rw [hF4]; exact d)
    · have hb1P := hb1
      try simp only [kd_box, kd_glue, kd_pen, kd_hyp, kd_forced, kd_note, kd_label, kd_page, decide_eq_true_eq, decide_eq_false_iff_not, Bool.not_eq_true', Bool.not_eq_false', Bool.and_eq_true, Bool.or_eq_true, Bool.or_eq_false_iff] at hb1P
      refine z_asgG s3 (hv_at Itm.forced (hs_of (hv_var (x := items_) rfl s3.im.1)) (hv_sub (hv_vI rfl) (hv_int 1)) (by first | omega | decide +kernel | (simp only [List.length_cons, List.length_nil]; omega) | (have h9 := hb0; simp only [kd_box, kd_glue, kd_pen, kd_hyp, kd_forced, kd_note, kd_label, kd_page, Bool.or_eq_true, Bool.and_eq_true, decide_eq_true_eq, Bool.not_eq_true', Bool.not_eq_false', Bool.or_eq_false_iff, decide_eq_false_iff_not] at h9; omega) | (have h9 := hb1; simp only [kd_box, kd_glue, kd_pen, kd_hyp, kd_forced, kd_note, kd_label, kd_page, Bool.or_eq_true, Bool.and_eq_true, decide_eq_true_eq, Bool.not_eq_true', Bool.not_eq_false', Bool.or_eq_false_iff, decide_eq_false_iff_not] at h9; omega) | (have h9 := hb2; simp only [kd_box, kd_glue, kd_pen, kd_hyp, kd_forced, kd_note, kd_label, kd_page, Bool.or_eq_true, Bool.and_eq_true, decide_eq_true_eq, Bool.not_eq_true', Bool.not_eq_false', Bool.or_eq_false_iff, decide_eq_false_iff_not] at h9; omega) | (have h9 := hi1; simp only [kd_box, kd_glue, kd_pen, kd_hyp, kd_forced, kd_note, kd_label, kd_page, Bool.or_eq_true, Bool.and_eq_true, decide_eq_true_eq, Bool.not_eq_true', Bool.not_eq_false', Bool.or_eq_false_iff, decide_eq_false_iff_not] at h9; omega) | (have h9 := hi2; simp only [kd_box, kd_glue, kd_pen, kd_hyp, kd_forced, kd_note, kd_label, kd_page, Bool.or_eq_true, Bool.and_eq_true, decide_eq_true_eq, Bool.not_eq_true', Bool.not_eq_false', Bool.or_eq_false_iff, decide_eq_false_iff_not] at h9; omega)) (by first | omega | decide +kernel | (simp only [List.length_cons, List.length_nil]; omega) | (have h9 := hb0; simp only [kd_box, kd_glue, kd_pen, kd_hyp, kd_forced, kd_note, kd_label, kd_page, Bool.or_eq_true, Bool.and_eq_true, decide_eq_true_eq, Bool.not_eq_true', Bool.not_eq_false', Bool.or_eq_false_iff, decide_eq_false_iff_not] at h9; omega) | (have h9 := hb1; simp only [kd_box, kd_glue, kd_pen, kd_hyp, kd_forced, kd_note, kd_label, kd_page, Bool.or_eq_true, Bool.and_eq_true, decide_eq_true_eq, Bool.not_eq_true', Bool.not_eq_false', Bool.or_eq_false_iff, decide_eq_false_iff_not] at h9; omega) | (have h9 := hb2; simp only [kd_box, kd_glue, kd_pen, kd_hyp, kd_forced, kd_note, kd_label, kd_page, Bool.or_eq_true, Bool.and_eq_true, decide_eq_true_eq, Bool.not_eq_true', Bool.not_eq_false', Bool.or_eq_false_iff, decide_eq_false_iff_not] at h9; omega) | (have h9 := hi1; simp only [kd_box, kd_glue, kd_pen, kd_hyp, kd_forced, kd_note, kd_label, kd_page, Bool.or_eq_true, Bool.and_eq_true, decide_eq_true_eq, Bool.not_eq_true', Bool.not_eq_false', Bool.or_eq_false_iff, decide_eq_false_iff_not] at h9; omega) | (have h9 := hi2; simp only [kd_box, kd_glue, kd_pen, kd_hyp, kd_forced, kd_note, kd_label, kd_page, Bool.or_eq_true, Bool.and_eq_true, decide_eq_true_eq, Bool.not_eq_true', Bool.not_eq_false', Bool.or_eq_false_iff, decide_eq_false_iff_not] at h9; omega))) fun last_6 hlast_6 vlast_6 Hs5 s5 => ?_
      try dsimp only at hlast_6
      refine z_ifx (b := ((decide (position_ = ((items_).length : Int))) || (decide ((Itm.kind last_6) = (PySem.Str.ofString "penalty")) || decide ((Itm.kind last_6) = (PySem.Str.ofString "hyphen")) || decide ((Itm.kind last_6) = (PySem.Str.ofString "forced"))))) s5 (ht_or (ht_val (K := K) (hv_eqI (hv_vI rfl) (hv_len (hs_of (hv_var (x := items_) rfl s5.im.2.1))))) (fun hb0 => (ht_val (K := K) ((hv_inTS (hv_it0 (hv_var (x := last_6) rfl s5.im.1)) (has_cons (hv_str _) (has_cons (hv_str _) (has_cons (hv_str _) has_nil))) (Nat.le_of_ble_eq_true rfl)).is (show _ = (decide ((Itm.kind last_6) = (PySem.Str.ofString "penalty")) || decide ((Itm.kind last_6) = (PySem.Str.ofString "hyphen")) || decide ((Itm.kind last_6) = (PySem.Str.ofString "forced"))) by simp [Bool.or_assoc]))))) (fun hb7 Hs8 s8 => ?_) (fun hb7 Hs9 s9 => ?_)
      · have hb7P := hb7
        try simp only [kd_box, kd_glue, kd_pen, kd_hyp, kd_forced, kd_note, kd_label, kd_page, decide_eq_true_eq, decide_eq_false_iff_not, Bool.not_eq_true', Bool.not_eq_false', Bool.and_eq_true, Bool.or_eq_true, Bool.or_eq_false_iff] at hb7P
        have hF10 : m_is_line_end items_ position_ = true := (by subst hlast_6; first | (simp only [m_is_line_end, hb1, hb7, if_true, if_false, Bool.false_eq_true, decide_true, decide_false, Option.getD_some, Option.isNone_none, Option.isNone_some, Bool.not_true, Bool.not_false, ↓reduceIte]; done) | (rfl; done) | ((unfold m_is_line_end); (dsimp only); (first | rw [ifT hb1] | rw [ifF hb1] | skip); (try dsimp only); (first | rw [ifT hb7] | rw [ifF hb7] | skip); (try dsimp only); first | done | rfl) | (exfalso; simp at hb7; done) | (exfalso; simp at hb1; done))
        exact zq_ret s8 (hv_bl true) fun v H' e d => q v H' e (by rw [hF10]; exact d)
      · have hb7P := hb7
        try simp only [kd_box, kd_glue, kd_pen, kd_hyp, kd_forced, kd_note, kd_label, kd_page, decide_eq_true_eq, decide_eq_false_iff_not, Bool.not_eq_true', Bool.not_eq_false', Bool.and_eq_true, Bool.or_eq_true, Bool.or_eq_false_iff] at hb7P
        refine z_ifx (b := ((!decide ((Itm.kind last_6) = (PySem.Str.ofString "glue"))) || (!(Itm.fr last_6)))) s9 (ht_or (ht_val (K := K) (hv_neS (hv_it0 (hv_var (x := last_6) rfl s9.im.1)) (hv_str _))) (fun hb0 => (ht_not (ht_B (K := K) (hv_it4 (hv_var (x := last_6) rfl s9.im.1) (by first | omega | (have h9 := hi1; simp only [kd_box, kd_glue, kd_pen, kd_hyp, kd_forced, kd_note, kd_label, kd_page, Bool.or_eq_true, Bool.and_eq_true, decide_eq_true_eq, Bool.not_eq_true', Bool.not_eq_false', Bool.or_eq_false_iff, decide_eq_false_iff_not] at h9; omega) | (have h9 := hi2; simp only [kd_box, kd_glue, kd_pen, kd_hyp, kd_forced, kd_note, kd_label, kd_page, Bool.or_eq_true, Bool.and_eq_true, decide_eq_true_eq, Bool.not_eq_true', Bool.not_eq_false', Bool.or_eq_false_iff, decide_eq_false_iff_not] at h9; omega) | (have h9 := hb0; simp only [kd_box, kd_glue, kd_pen, kd_hyp, kd_forced, kd_note, kd_label, kd_page, Bool.or_eq_true, Bool.and_eq_true, decide_eq_true_eq, Bool.not_eq_true', Bool.not_eq_false', Bool.or_eq_false_iff, decide_eq_false_iff_not] at h9; omega) | (have h9 := hb1; simp only [kd_box, kd_glue, kd_pen, kd_hyp, kd_forced, kd_note, kd_label, kd_page, Bool.or_eq_true, Bool.and_eq_true, decide_eq_true_eq, Bool.not_eq_true', Bool.not_eq_false', Bool.or_eq_false_iff, decide_eq_false_iff_not] at h9; omega) | (have h9 := hb2; simp only [kd_box, kd_glue, kd_pen, kd_hyp, kd_forced, kd_note, kd_label, kd_page, Bool.or_eq_true, Bool.and_eq_true, decide_eq_true_eq, Bool.not_eq_true', Bool.not_eq_false', Bool.or_eq_false_iff, decide_eq_false_iff_not] at h9; omega))))))) (fun hb11 Hs12 s12 => ?_) (fun hb11 Hs13 s13 => ?_)
        · have hb11P := hb11
          try simp only [kd_box, kd_glue, kd_pen, kd_hyp, kd_forced, kd_note, kd_label, kd_page, decide_eq_true_eq, decide_eq_false_iff_not, Bool.not_eq_true', Bool.not_eq_false', Bool.and_eq_true, Bool.or_eq_true, Bool.or_eq_false_iff] at hb11P
          have hF14 : m_is_line_end items_ position_ = false := (by subst hlast_6; first | (simp only [m_is_line_end, hb1, hb7, hb11, if_true, if_false, Bool.false_eq_true, decide_true, decide_false, Option.getD_some, Option.isNone_none, Option.isNone_some, Bool.not_true, Bool.not_false, ↓reduceIte]; done) | (rfl; done) | ((unfold m_is_line_end); (dsimp only); (first | rw [ifT hb1] | rw [ifF hb1] | skip); (try dsimp only); (first | rw [ifT hb7] | rw [ifF hb7] | skip); (try dsimp only); (first | rw [ifT hb11] | rw [ifF hb11] | skip); (try dsimp only); first | done | rfl) | (exfalso; simp at hb11; done) | (exfalso; simp at hb7; done) | (exfalso; simp at hb1; done))
          exact zq_ret s12 (hv_bl false) fun v H' e d => q v H' e (by rw [hF14]; exact d)
        · have hb11P := hb11
          try simp only [kd_box, kd_glue, kd_pen, kd_hyp, kd_forced, kd_note, kd_label, kd_page, decide_eq_true_eq, decide_eq_false_iff_not, Bool.not_eq_true', Bool.not_eq_false', Bool.and_eq_true, Bool.or_eq_true, Bool.or_eq_false_iff] at hb11P
          have hF15 : m_is_line_end items_ position_ = ((decide ((2 : Int) ≤ position_)) && (!(m_is_blank (items_.getD (Int.toNat (position_ - (2 : Int))) Itm.forced)))) := (by subst hlast_6; first | (simp only [m_is_line_end, hb1, hb7, hb11, if_true, if_false, Bool.false_eq_true, decide_true, decide_false, Option.getD_some, Option.isNone_none, Option.isNone_some, Bool.not_true, Bool.not_false, ↓reduceIte]; done) | (rfl; done) | ((unfold m_is_line_end); (dsimp only); (first | rw [ifT hb1] | rw [ifF hb1] | skip); (try dsimp only); (first | rw [ifT hb7] | rw [ifF hb7] | skip); (try dsimp only); (first | rw [ifT hb11] | rw [ifF hb11] | skip); (try dsimp only); first | done | rfl) | (exfalso; simp at hb11; done) | (exfalso; simp at hb7; done) | (exfalso; simp at hb1; done))
          exact zq_ret s13 (hv_and (hv_ge (hv_vI rfl) (hv_int 2)) (fun hb0 => (hv_not (hv_call (items_.getD (Int.toNat (position_ - (2 : Int))) Itm.forced) (hd_cons (hv_at Itm.forced (hs_of (hv_var (x := items_) rfl s13.im.2.1)) (hv_sub (hv_vI rfl) (hv_int 2)) (by first | omega | decide +kernel | (simp only [List.length_cons, List.length_nil]; omega) | (have h9 := hb0; simp only [kd_box, kd_glue, kd_pen, kd_hyp, kd_forced, kd_note, kd_label, kd_page, Bool.or_eq_true, Bool.and_eq_true, decide_eq_true_eq, Bool.not_eq_true', Bool.not_eq_false', Bool.or_eq_false_iff, decide_eq_false_iff_not] at h9; omega) | (have h9 := hb1; simp only [kd_box, kd_glue, kd_pen, kd_hyp, kd_forced, kd_note, kd_label, kd_page, Bool.or_eq_true, Bool.and_eq_true, decide_eq_true_eq, Bool.not_eq_true', Bool.not_eq_false', Bool.or_eq_false_iff, decide_eq_false_iff_not] at h9; omega) | (have h9 := hb2; simp only [kd_box, kd_glue, kd_pen, kd_hyp, kd_forced, kd_note, kd_label, kd_page, Bool.or_eq_true, Bool.and_eq_true, decide_eq_true_eq, Bool.not_eq_true', Bool.not_eq_false', Bool.or_eq_false_iff, decide_eq_false_iff_not] at h9; omega) | (have h9 := hi1; simp only [kd_box, kd_glue, kd_pen, kd_hyp, kd_forced, kd_note, kd_label, kd_page, Bool.or_eq_true, Bool.and_eq_true, decide_eq_true_eq, Bool.not_eq_true', Bool.not_eq_false', Bool.or_eq_false_iff, decide_eq_false_iff_not] at h9; omega) | (have h9 := hi2; simp only [kd_box, kd_glue, kd_pen, kd_hyp, kd_forced, kd_note, kd_label, kd_page, Bool.or_eq_true, Bool.and_eq_true, decide_eq_true_eq, Bool.not_eq_true', Bool.not_eq_false', Bool.or_eq_false_iff, decide_eq_false_iff_not] at h9; omega)) (by first | omega | decide +kernel | (simp only [List.length_cons, List.length_nil]; omega) | (have h9 := hb0; simp only [kd_box, kd_glue, kd_pen, kd_hyp, kd_forced, kd_note, kd_label, kd_page, Bool.or_eq_true, Bool.and_eq_true, decide_eq_true_eq, Bool.not_eq_true', Bool.not_eq_false', Bool.or_eq_false_iff, decide_eq_false_iff_not] at h9; omega) | (have h9 := hb1; simp only [kd_box, kd_glue, kd_pen, kd_hyp, kd_forced, kd_note, kd_label, kd_page, Bool.or_eq_true, Bool.and_eq_true, decide_eq_true_eq, Bool.not_eq_true', Bool.not_eq_false', Bool.or_eq_false_iff, decide_eq_false_iff_not] at h9; omega) | (have h9 := hb2; simp only [kd_box, kd_glue, kd_pen, kd_hyp, kd_forced, kd_note, kd_label, kd_page, Bool.or_eq_true, Bool.and_eq_true, decide_eq_true_eq, Bool.not_eq_true', Bool.not_eq_false', Bool.or_eq_false_iff, decide_eq_false_iff_not] at h9; omega) | (have h9 := hi1; simp only [kd_box, kd_glue, kd_pen, kd_hyp, kd_forced, kd_note, kd_label, kd_page, Bool.or_eq_true, Bool.and_eq_true, decide_eq_true_eq, Bool.not_eq_true', Bool.not_eq_false', Bool.or_eq_false_iff, decide_eq_false_iff_not] at h9; omega) | (have h9 := hi2; simp only [kd_box, kd_glue, kd_pen, kd_hyp, kd_forced, kd_note, kd_label, kd_page, Bool.or_eq_true, Bool.and_eq_true, decide_eq_true_eq, Bool.not_eq_true', Bool.not_eq_false', Bool.or_eq_false_iff, decide_eq_false_iff_not] at h9; omega))) hd_nil) True.intro)))) fun v H' e d => q v H' e (by rw [hF15]; exact d)
def m_Measures_hyphen_width (self_ : Cl_Measures) (end_ : Int) : Int :=
  (if (m_Measures_has_hyphen self_ end_) = true then (Itm.at1 ((self_.f_parts).items.getD (Int.toNat (end_ - (1 : Int))) Itm.forced)) else (0 : Int))
abbrev s_Measures_hyphen_width : Stmt := (inClass (topS 12) 7)
theorem sc_Measures_hyphen_width : FnScope ["self", "end"] ["self", "end"] (defScope s_Measures_hyphen_width) := ⟨rfl, rfl, rfl, by decide +kernel, rfl, by decide +kernel, by decide +kernel⟩
abbrev sp_Measures_hyphen_width (K : PySem.W.Frag) : Sp := PrD K (fun c : Cl_Measures × Int => [Dx.toX c.1, Dx.toX c.2]) (fun c => MsOk c.1 ∧ 0 ≤ c.2 ∧ c.2 ≤ c.1.f_count) (fun c => (m_Measures_hyphen_width c.1 c.2 : Int))
theorem ok_Measures_hyphen_width (T : Txt K mg) : FnOk P w K mg base CX0 2 T.f_Measures_hyphen_width T.d_Measures_hyphen_width ["self", "end"] (sp_Measures_hyphen_width K) := by
  refine T.u_Measures_hyphen_width.ok sc_Measures_hyphen_width (fun vs H Q E h => ?_) (fun cdv A outer s H vs Q E hr h => ?_)
  · obtain ⟨Mc, c, mok, da, pre, q⟩ := h
    exact (dpa_len da)
  · obtain ⟨Mc, c, mok, da, pre, q⟩ := h
    obtain ⟨self_, end_⟩ := c
    dsimp only at da pre q
    obtain ⟨v0, w0, rfl, d0, da0⟩ := dpa_inv da
    obtain ⟨v1, w1, rfl, d1, da1⟩ := dpa_inv da0
    cases dpa_inv0 da1
    cases (Dt.int d1)
    have s0 : Sg K Mc H H [(v0, Dx.toX self_)] [] := Sg.enter mok ⟨d0, True.intro⟩
    have ok := pre.1
    have ok0 := ok.cnt
    have ok1 := ok.prt
    have ok2 := ok.wid
    have ok3 := ok.str
    have ok4 := ok.shr
    have ok5 := ok.eds
    have ok6 := ok.nen
    have ok7 := ok.nfo
    have ok8 := ok.nso
    have ok9 := ok.fke
    have oka := ok.kbe
    refine ⟨_, (pss_cons (ps_ret (pe_ifExp (pt_val (pe_meth (pv 0) T.c_Measures.cl T.mt_Measures_has_hyphen (ok_Measures_has_hyphen T) hr T.b_Measures_has_hyphen .nil pass0 (pa_cons (pv 1) pa_nil))) (pe_ix ix_tup (pe_ix ix_tup (pe_fld (pv 0) rfl) (pe_op op_sub (pv 1) pe_int) (fun _ _ => rfl)) pe_int (fun _ _ => rfl)) pe_int)) pss_nil), ?_⟩
    have hF1 : m_Measures_hyphen_width self_ end_ = (if (m_Measures_has_hyphen self_ end_) = true then (Itm.at1 ((self_.f_parts).items.getD (Int.toNat (end_ - (1 : Int))) Itm.forced)) else (0 : Int)) := (by  first | (simp only [m_Measures_hyphen_width, if_true, if_false, Bool.false_eq_true, decide_true, decide_false, Option.getD_some, Option.isNone_none, Option.isNone_some, Bool.not_true, Bool.not_false, ↓reduceIte]; done) | (rfl; done) | ((unfold m_Measures_hyphen_width); (dsimp only); first | done | rfl))
    exact zq_ret s0 (hv_ite (ht_B (K := K) (hv_meth (self_, end_) (hv_var (x := self_) rfl s0.im.1) T.c_Measures rfl (by decide +kernel) (hd_cons (hv_vI rfl) hd_nil) rfl (by (try dsimp only); exact ⟨ok, by omega, by omega⟩))) (fun hi1 => (hv_it1 (hv_atV Itm.forced (hv_fld (x := (self_.f_parts)) 0 (hv_var (x := self_) rfl s0.im.1) T.c_Measures T.na_Measures_parts rfl nd_Measures rfl rfl) (hv_sub (hv_vI rfl) (hv_int 1)) (by have h8 := hh_ok hi1; dsimp only at h8; omega) (by have h8 := hh_ok hi1; dsimp only at h8; omega)) (by have h8 := hh_ok hi1; dsimp only at h8; omega))) (fun hi2 => (hv_int 0))) fun v H' e d => q v H' e (by rw [hF1]; exact d)
def m_kept_before_l0  (s_ : (List Int)) (x_ : (Int × Itm)) : (List Int) :=
  let found_ : (List Int) := s_
  let index_ : Int := x_.1
  let item_ : Itm := x_.2
  let found_ : (List Int) := found_ ++ [(if (m_is_blank item_) = true then (found_.getD ((found_).length - 1) 0) else (index_ + (1 : Int)))]
  found_
def m_kept_before (items_ : (List Itm)) : (List Int) :=
  let found_ : (List Int) := [(0 : Int)]
  let r0_ : (List Int) := List.foldl m_kept_before_l0 found_ (enumL items_)
  let found_ : (List Int) := r0_
  found_
abbrev s_kept_before : Stmt := (topS 13)
theorem sc_kept_before : FnScope ["items", "found", "index", "item"] ["items"] (defScope s_kept_before) := ⟨rfl, rfl, rfl, by decide +kernel, rfl, by decide +kernel, by decide +kernel⟩
abbrev sp_kept_before (K : PySem.W.Frag) : Sp := PrD K (fun c : (List Itm) => [Dx.toX c]) (fun c => c.length ≤ 1000) (fun c => (m_kept_before c : (List Int)))
theorem ok_kept_before (T : Txt K mg) : FnOk P w K mg base CX0 2 T.f_kept_before T.d_kept_before ["items"] (sp_kept_before K) := by
  refine T.u_kept_before.ok sc_kept_before (fun vs H Q E h => ?_) (fun cdv A outer s H vs Q E hr h => ?_)
  · obtain ⟨Mc, c, mok, da, pre, q⟩ := h
    exact (dpa_len da)
  · obtain ⟨Mc, c, mok, da, pre, q⟩ := h
    obtain ⟨items_, rfl⟩ : ∃ z, z = c := ⟨c, rfl⟩
    dsimp only at da pre q
    obtain ⟨v0, w0, rfl, d0, da0⟩ := dpa_inv da
    cases dpa_inv0 da0
    have s0 : Sg K Mc H H [(v0, Dx.toX items_)] [] := Sg.enter mok ⟨d0, True.intro⟩
    refine ⟨_, (pss_cons (ps_set (i := 1) sc_kept_before.nd rfl (.inl rfl) (pe_lst (pa_cons pe_int pa_nil))) (pss_cons (ps_for PassesOwn.never rfl (pi_enum (by rfl) T.n_enumerate (pa_cons (pv 0) pa_nil)) (pg_tup rfl (pgs_cons (pg_name (i := 2) sc_kept_before.nd rfl (.inl rfl)) (pgs_cons (pg_name (i := 3) sc_kept_before.nd rfl (.inl rfl)) pgs_nil))) (pss_cons (ps_expr (pe_bm PySem.F.plainAttrs_list PySem.F.slot_list_append PySem.F.type_list_append mt_append (pv 1) (pa_cons (pe_ifExp (pt_val (pe_call (ok_is_blank T) hr (by rfl) T.g_is_blank T.u_is_blank.kp T.b_is_blank .nil pass0 (pa_cons (pv 3) pa_nil))) (pe_ix ix_list (pv 1) (pe_un un_neg pe_int) (fun _ _ => rfl)) (pe_op op_add (pv 2) pe_int)) pa_nil))) pss_nil)) (pss_cons (ps_ret (pv 1)) pss_nil))), ?_⟩
    refine z_freshG s0 (hf_lst (has_cons (hv_int 0) has_nil) (Nat.le_of_ble_eq_true rfl)) fun found_2 hfound_2 ps1 Hs1 s1 => ?_
    try dsimp only at hfound_2
    have lfound_2 := congrArg List.length hfound_2
    try simp only [List.length_map, irng_len, List.length_flatten, List.map_replicate, List.sum_replicate_nat, List.length_cons, List.length_nil] at lfound_2
    refine zq_forE s1 (hv_var (x := items_) rfl s1.im.1) (fun vsrc0 i σ' H' => ∃ (found_3 : (List Int)) (o4 : Option V) (o5 : Option V), (List.foldl m_kept_before_l0 found_2 (enumL items_) : (List Int)) = (List.foldl m_kept_before_l0 found_3 (List.drop i (enumL items_)) : (List Int)) ∧ (found_3.length = (i) + 1) ∧ σ' = [some v0, some (.ref ps1), o4, o5] ∧ Sg K Mc H H' [(vsrc0, Dx.toX items_), (v0, Dx.toX items_)] [(ps1, .lst (List.map Dx.toX found_3))]) (fun vsrc0 Hs6 s6 => ⟨found_2, _, _, rfl, (by first | trivial | omega | (simp; done) | simp_all), rfl, s6.keep fun _ h => ⟨h.1, ⟨h.2.1, True.intro⟩⟩⟩) (fun vsrc0 i σ' H' hP => by obtain ⟨found_3, o4, o5, he, hg, hs, hS⟩ := hP; exact ⟨hS.im.1, hS.mok⟩) (fun vsrc0 i10 x11 wx11 σ' Hs9 Hs9b hi13 hP eT15 hx12 => ?_) (fun vsrc0 σ' Hs9 hP => ?_)
    · obtain ⟨found_3, o4, o5, he7, hg8, rfl, s9⟩ := hP
      have s9 := s9.ex eT15
      have qx11 := (List.getElem?_eq_some_iff.mp hi13).1
      rw [enumL_len] at qx11
      obtain ⟨l20, u16, u17, rfl, st21, d18, d19⟩ := Dt.pair (p := x11) hx12
      have zd18 := Dt.int d18
      subst zd18
      have s22 := s9.put d19
      refine ⟨_, _, rfl, ex_t msk_le st21, rfl, _, _, rfl, _, _, rfl, rfl, ?_⟩
      refine zq_appG s22 (kk := 0) rfl (ev_var rfl) (hv_ite (ht_B (K := K) (hv_call x11.2 (hd_cons (hv_var (x := x11.2) rfl s22.im.1) hd_nil) True.intro)) (fun hi1 => (hv_last 0 (hs_mut s22 (k := 0) rfl rfl) (by first | omega | decide +kernel | (simp only [List.length_cons, List.length_nil]; omega) | (have h9 := hb0; simp only [kd_box, kd_glue, kd_pen, kd_hyp, kd_forced, kd_note, kd_label, kd_page, Bool.or_eq_true, Bool.and_eq_true, decide_eq_true_eq, Bool.not_eq_true', Bool.not_eq_false', Bool.or_eq_false_iff, decide_eq_false_iff_not] at h9; omega) | (have h9 := hb1; simp only [kd_box, kd_glue, kd_pen, kd_hyp, kd_forced, kd_note, kd_label, kd_page, Bool.or_eq_true, Bool.and_eq_true, decide_eq_true_eq, Bool.not_eq_true', Bool.not_eq_false', Bool.or_eq_false_iff, decide_eq_false_iff_not] at h9; omega) | (have h9 := hb2; simp only [kd_box, kd_glue, kd_pen, kd_hyp, kd_forced, kd_note, kd_label, kd_page, Bool.or_eq_true, Bool.and_eq_true, decide_eq_true_eq, Bool.not_eq_true', Bool.not_eq_false', Bool.or_eq_false_iff, decide_eq_false_iff_not] at h9; omega) | (have h9 := hi1; simp only [kd_box, kd_glue, kd_pen, kd_hyp, kd_forced, kd_note, kd_label, kd_page, Bool.or_eq_true, Bool.and_eq_true, decide_eq_true_eq, Bool.not_eq_true', Bool.not_eq_false', Bool.or_eq_false_iff, decide_eq_false_iff_not] at h9; omega) | (have h9 := hi2; simp only [kd_box, kd_glue, kd_pen, kd_hyp, kd_forced, kd_note, kd_label, kd_page, Bool.or_eq_true, Bool.and_eq_true, decide_eq_true_eq, Bool.not_eq_true', Bool.not_eq_false', Bool.or_eq_false_iff, decide_eq_false_iff_not] at h9; omega)))) (fun hi2 => (hv_add (hv_vI rfl) (hv_int 1)))) (by first | omega | decide +kernel | (simp only [List.length_cons, List.length_nil]; omega) | (have h9 := hb0; simp only [kd_box, kd_glue, kd_pen, kd_hyp, kd_forced, kd_note, kd_label, kd_page, Bool.or_eq_true, Bool.and_eq_true, decide_eq_true_eq, Bool.not_eq_true', Bool.not_eq_false', Bool.or_eq_false_iff, decide_eq_false_iff_not] at h9; omega) | (have h9 := hb1; simp only [kd_box, kd_glue, kd_pen, kd_hyp, kd_forced, kd_note, kd_label, kd_page, Bool.or_eq_true, Bool.and_eq_true, decide_eq_true_eq, Bool.not_eq_true', Bool.not_eq_false', Bool.or_eq_false_iff, decide_eq_false_iff_not] at h9; omega) | (have h9 := hb2; simp only [kd_box, kd_glue, kd_pen, kd_hyp, kd_forced, kd_note, kd_label, kd_page, Bool.or_eq_true, Bool.and_eq_true, decide_eq_true_eq, Bool.not_eq_true', Bool.not_eq_false', Bool.or_eq_false_iff, decide_eq_false_iff_not] at h9; omega) | (have h9 := hi1; simp only [kd_box, kd_glue, kd_pen, kd_hyp, kd_forced, kd_note, kd_label, kd_page, Bool.or_eq_true, Bool.and_eq_true, decide_eq_true_eq, Bool.not_eq_true', Bool.not_eq_false', Bool.or_eq_false_iff, decide_eq_false_iff_not] at h9; omega) | (have h9 := hi2; simp only [kd_box, kd_glue, kd_pen, kd_hyp, kd_forced, kd_note, kd_label, kd_page, Bool.or_eq_true, Bool.and_eq_true, decide_eq_true_eq, Bool.not_eq_true', Bool.not_eq_false', Bool.or_eq_false_iff, decide_eq_false_iff_not] at h9; omega)) fun found_24 hfound_24 Hs23 s23 => ?_
      have lfound_24 : found_24.length = found_3.length + 1 := by rw [hfound_24, List.length_append]; rfl
      have s23 : Sg K Mc _ _ _ [(ps1, .lst (List.map Dx.toX found_24))] := s23
      have hf25 : m_kept_before_l0 found_3 x11 = found_24 := (by subst hfound_24; subst hfound_2; first | (simp only [m_kept_before_l0, if_true, if_false, Bool.false_eq_true, decide_true, decide_false, Option.getD_some, Option.isNone_none, Option.isNone_some, Bool.not_true, Bool.not_false, ↓reduceIte]; done) | (rfl; done) | ((unfold m_kept_before_l0); (dsimp only); first | done | rfl))
      exact ⟨found_24, _, _, he7.trans ((foldl_step hi13).trans (by rw [hf25])), (by first | trivial | omega | (simp_all; done) | (simp_all; omega)), rfl, s23.keep fun _ h => ⟨h.2.1, ⟨h.2.2.1, True.intro⟩⟩⟩
    · obtain ⟨found_26, o27, o28, he30, hg31, rfl, s29⟩ := hP
      rw [foldl_end] at he30
      have s32 := Sg.frz (xs := found_26) s29
      have hF33 : m_kept_before items_ = found_26 := (by subst hfound_2; first | (simp only [m_kept_before, he30, if_true, if_false, Bool.false_eq_true, decide_true, decide_false, Option.getD_some, Option.isNone_none, Option.isNone_some, Bool.not_true, Bool.not_false, ↓reduceIte]; done) | (rfl; done) | ((unfold m_kept_before); (dsimp only); (first | rw [he30] | skip); (try dsimp only); first | done | rfl))
      exact zq_ret s32 (hv_var (x := found_26) rfl s32.im.1) fun v H' e d => q v H' e (by rw [hF33]; exact d)
def m_law_big (cell_ : Int) : Int :=
  let draws_ : (List Int) := (m_law_draws cell_ (3 : Int))
  ((((draws_.getD (Int.toNat (0 : Int)) 0) % (1009 : Int)) + ((1009 : Int) * ((draws_.getD (Int.toNat (1 : Int)) 0) % (1009 : Int)))) + ((1018081 : Int) * ((draws_.getD (Int.toNat (2 : Int)) 0) % (1009 : Int))))
abbrev s_law_big : Stmt := (topS 22)
theorem sc_law_big : FnScope ["cell", "draws"] ["cell"] (defScope s_law_big) := ⟨rfl, rfl, rfl, by decide +kernel, rfl, by decide +kernel, by decide +kernel⟩
abbrev sp_law_big (K : PySem.W.Frag) : Sp := PrD K (fun c : Int => [Dx.toX c]) (fun c => True) (fun c => (m_law_big c : Int))
theorem ok_law_big (T : Txt K mg) : FnOk P w K mg base CX0 2 T.f_law_big T.d_law_big ["cell"] (sp_law_big K) := by
  refine T.u_law_big.ok sc_law_big (fun vs H Q E h => ?_) (fun cdv A outer s H vs Q E hr h => ?_)
  · obtain ⟨Mc, c, mok, da, pre, q⟩ := h
    exact (dpa_len da)
  · obtain ⟨Mc, c, mok, da, pre, q⟩ := h
    obtain ⟨cell_, rfl⟩ : ∃ z, z = c := ⟨c, rfl⟩
    dsimp only at da pre q
    obtain ⟨v0, w0, rfl, d0, da0⟩ := dpa_inv da
    cases dpa_inv0 da0
    cases (Dt.int d0)
    have s0 : Sg K Mc H H [] [] := Sg.enter mok True.intro
    refine ⟨_, (pss_cons (ps_set (i := 1) sc_law_big.nd rfl (.inl rfl) (pe_call (ok_law_draws T) hr (by rfl) T.g_law_draws T.u_law_draws.kp T.b_law_draws .nil pass0 (pa_cons (pv 0) (pa_cons pe_int pa_nil)))) (pss_cons (ps_ret (pe_op op_add (pe_op op_add (pe_op op_mod (pe_ix ix_list (pv 1) pe_int (fun _ _ => rfl)) pe_int) (pe_op op_mul pe_int (pe_op op_mod (pe_ix ix_list (pv 1) pe_int (fun _ _ => rfl)) pe_int))) (pe_op op_mul (pe_op op_mul pe_int pe_int) (pe_op op_mod (pe_ix ix_list (pv 1) pe_int (fun _ _ => rfl)) pe_int)))) pss_nil)), ?_⟩
    refine z_asgG s0 (hv_call (cell_, (3 : Int)) (hd_cons (hv_vI rfl) (hd_cons (hv_int 3) hd_nil)) (by first | omega | (dsimp only; omega) | (subst_vars; omega) | decide +kernel)) fun draws_2 hdraws_2 vdraws_2 Hs1 s1 => ?_
    try dsimp only at hdraws_2
    have f3 := draws_len cell_ (3 : Int)
    rw [← hdraws_2] at f3
    have hF4 : m_law_big cell_ = ((((draws_2.getD (Int.toNat (0 : Int)) 0) % (1009 : Int)) + ((1009 : Int) * ((draws_2.getD (Int.toNat (1 : Int)) 0) % (1009 : Int)))) + ((1018081 : Int) * ((draws_2.getD (Int.toNat (2 : Int)) 0) % (1009 : Int)))) := (by subst hdraws_2; first | (simp only [m_law_big, if_true, if_false, Bool.false_eq_true, decide_true, decide_false, Option.getD_some, Option.isNone_none, Option.isNone_some, Bool.not_true, Bool.not_false, ↓reduceIte]; done) | (rfl; done) | ((unfold m_law_big); (dsimp only); first | done | rfl))
    exact zq_ret s1 (hv_add (hv_add (hv_mod (hv_at 0 (hs_of (hv_var (x := draws_2) rfl s1.im.1)) (hv_int 0) (by first | omega | decide +kernel | (simp only [List.length_cons, List.length_nil]; omega) | (have h9 := hb0; simp only [kd_box, kd_glue, kd_pen, kd_hyp, kd_forced, kd_note, kd_label, kd_page, Bool.or_eq_true, Bool.and_eq_true, decide_eq_true_eq, Bool.not_eq_true', Bool.not_eq_false', Bool.or_eq_false_iff, decide_eq_false_iff_not] at h9; omega) | (have h9 := hb1; simp only [kd_box, kd_glue, kd_pen, kd_hyp, kd_forced, kd_note, kd_label, kd_page, Bool.or_eq_true, Bool.and_eq_true, decide_eq_true_eq, Bool.not_eq_true', Bool.not_eq_false', Bool.or_eq_false_iff, decide_eq_false_iff_not] at h9; omega) | (have h9 := hb2; simp only [kd_box, kd_glue, kd_pen, kd_hyp, kd_forced, kd_note, kd_label, kd_page, Bool.or_eq_true, Bool.and_eq_true, decide_eq_true_eq, Bool.not_eq_true', Bool.not_eq_false', Bool.or_eq_false_iff, decide_eq_false_iff_not] at h9; omega) | (have h9 := hi1; simp only [kd_box, kd_glue, kd_pen, kd_hyp, kd_forced, kd_note, kd_label, kd_page, Bool.or_eq_true, Bool.and_eq_true, decide_eq_true_eq, Bool.not_eq_true', Bool.not_eq_false', Bool.or_eq_false_iff, decide_eq_false_iff_not] at h9; omega) | (have h9 := hi2; simp only [kd_box, kd_glue, kd_pen, kd_hyp, kd_forced, kd_note, kd_label, kd_page, Bool.or_eq_true, Bool.and_eq_true, decide_eq_true_eq, Bool.not_eq_true', Bool.not_eq_false', Bool.or_eq_false_iff, decide_eq_false_iff_not] at h9; omega)) (by first | omega | decide +kernel | (simp only [List.length_cons, List.length_nil]; omega) | (have h9 := hb0; simp only [kd_box, kd_glue, kd_pen, kd_hyp, kd_forced, kd_note, kd_label, kd_page, Bool.or_eq_true, Bool.and_eq_true, decide_eq_true_eq, Bool.not_eq_true', Bool.not_eq_false', Bool.or_eq_false_iff, decide_eq_false_iff_not] at h9; omega) | (have h9 := hb1; simp only [kd_box, kd_glue, kd_pen, kd_hyp, kd_forced, kd_note, kd_label, kd_page, Bool.or_eq_true, Bool.and_eq_true, decide_eq_true_eq, Bool.not_eq_true', Bool.not_eq_false', Bool.or_eq_false_iff, decide_eq_false_iff_not] at h9; omega) | (have h9 := hb2; simp only [kd_box, kd_glue, kd_pen, kd_hyp, kd_forced, kd_note, kd_label, kd_page, Bool.or_eq_true, Bool.and_eq_true, decide_eq_true_eq, Bool.not_eq_true', Bool.not_eq_false', Bool.or_eq_false_iff, decide_eq_false_iff_not] at h9; omega) | (have h9 := hi1; simp only [kd_box, kd_glue, kd_pen, kd_hyp, kd_forced, kd_note, kd_label, kd_page, Bool.or_eq_true, Bool.and_eq_true, decide_eq_true_eq, Bool.not_eq_true', Bool.not_eq_false', Bool.or_eq_false_iff, decide_eq_false_iff_not] at h9; omega) | (have h9 := hi2; simp only [kd_box, kd_glue, kd_pen, kd_hyp, kd_forced, kd_note, kd_label, kd_page, Bool.or_eq_true, Bool.and_eq_true, decide_eq_true_eq, Bool.not_eq_true', Bool.not_eq_false', Bool.or_eq_false_iff, decide_eq_false_iff_not] at h9; omega))) (hv_int 1009) (by first | omega | decide +kernel | (simp only [List.length_cons, List.length_nil]; omega) | (have h9 := hb0; simp only [kd_box, kd_glue, kd_pen, kd_hyp, kd_forced, kd_note, kd_label, kd_page, Bool.or_eq_true, Bool.and_eq_true, decide_eq_true_eq, Bool.not_eq_true', Bool.not_eq_false', Bool.or_eq_false_iff, decide_eq_false_iff_not] at h9; omega) | (have h9 := hb1; simp only [kd_box, kd_glue, kd_pen, kd_hyp, kd_forced, kd_note, kd_label, kd_page, Bool.or_eq_true, Bool.and_eq_true, decide_eq_true_eq, Bool.not_eq_true', Bool.not_eq_false', Bool.or_eq_false_iff, decide_eq_false_iff_not] at h9; omega) | (have h9 := hb2; simp only [kd_box, kd_glue, kd_pen, kd_hyp, kd_forced, kd_note, kd_label, kd_page, Bool.or_eq_true, Bool.and_eq_true, decide_eq_true_eq, Bool.not_eq_true', Bool.not_eq_false', Bool.or_eq_false_iff, decide_eq_false_iff_not] at h9; omega) | (have h9 := hi1; simp only [kd_box, kd_glue, kd_pen, kd_hyp, kd_forced, kd_note, kd_label, kd_page, Bool.or_eq_true, Bool.and_eq_true, decide_eq_true_eq, Bool.not_eq_true', Bool.not_eq_false', Bool.or_eq_false_iff, decide_eq_false_iff_not] at h9; omega) | (have h9 := hi2; simp only [kd_box, kd_glue, kd_pen, kd_hyp, kd_forced, kd_note, kd_label, kd_page, Bool.or_eq_true, Bool.and_eq_true, decide_eq_true_eq, Bool.not_eq_true', Bool.not_eq_false', Bool.or_eq_false_iff, decide_eq_false_iff_not] at h9; omega))) (hv_mul (hv_int 1009) (hv_mod (hv_at 0 (hs_of (hv_var (x := draws_2) rfl s1.im.1)) (hv_int 1) (by first | omega | decide +kernel | (simp only [List.length_cons, List.length_nil]; omega) | (have h9 := hb0; simp only [kd_box, kd_glue, kd_pen, kd_hyp, kd_forced, kd_note, kd_label, kd_page, Bool.or_eq_true, Bool.and_eq_true, decide_eq_true_eq, Bool.not_eq_true', Bool.not_eq_false', Bool.or_eq_false_iff, decide_eq_false_iff_not] at h9; omega) | (have h9 := hb1; simp only [kd_box, kd_glue, kd_pen, kd_hyp, kd_forced, kd_note, kd_label, kd_page, Bool.or_eq_true, Bool.and_eq_true, decide_eq_true_eq, Bool.not_eq_true', Bool.not_eq_false', Bool.or_eq_false_iff, decide_eq_false_iff_not] at h9; omega) | (have h9 := hb2; simp only [kd_box, kd_glue, kd_pen, kd_hyp, kd_forced, kd_note, kd_label, kd_page, Bool.or_eq_true, Bool.and_eq_true, decide_eq_true_eq, Bool.not_eq_true', Bool.not_eq_false', Bool.or_eq_false_iff, decide_eq_false_iff_not] at h9; omega) | (have h9 := hi1; simp only [kd_box, kd_glue, kd_pen, kd_hyp, kd_forced, kd_note, kd_label, kd_page, Bool.or_eq_true, Bool.and_eq_true, decide_eq_true_eq, Bool.not_eq_true', Bool.not_eq_false', Bool.or_eq_false_iff, decide_eq_false_iff_not] at h9; omega) | (have h9 := hi2; simp only [kd_box, kd_glue, kd_pen, kd_hyp, kd_forced, kd_note, kd_label, kd_page, Bool.or_eq_true, Bool.and_eq_true, decide_eq_true_eq, Bool.not_eq_true', Bool.not_eq_false', Bool.or_eq_false_iff, decide_eq_false_iff_not] at h9; omega)) (by first | omega | decide +kernel | (simp only [List.length_cons, List.length_nil]; omega) | (have h9 := hb0; simp only [kd_box, kd_glue, kd_pen, kd_hyp, kd_forced, kd_note, kd_label, kd_page, Bool.or_eq_true, Bool.and_eq_true, decide_eq_true_eq, Bool.not_eq_true', Bool.not_eq_false', Bool.or_eq_false_iff, decide_eq_false_iff_not] at h9; omega) | (have h9 := hb1; simp only [kd_box, kd_glue, kd_pen, kd_hyp, kd_forced, kd_note, kd_label, kd_page, Bool.or_eq_true, Bool.and_eq_true, decide_eq_true_eq, Bool.not_eq_true', Bool.not_eq_false', Bool.or_eq_false_iff, decide_eq_false_iff_not] at h9; omega) | (have h9 := hb2; simp only [kd_box, kd_glue, kd_pen, kd_hyp, kd_forced, kd_note, kd_label, kd_page, Bool.or_eq_true, Bool.and_eq_true, decide_eq_true_eq, Bool.not_eq_true', Bool.not_eq_false', Bool.or_eq_false_iff, decide_eq_false_iff_not] at h9; omega) | (have h9 := hi1; simp only [kd_box, kd_glue, kd_pen, kd_hyp, kd_forced, kd_note, kd_label, kd_page, Bool.or_eq_true, Bool.and_eq_true, decide_eq_true_eq, Bool.not_eq_true', Bool.not_eq_false', Bool.or_eq_false_iff, decide_eq_false_iff_not] at h9; omega) | (have h9 := hi2; simp only [kd_box, kd_glue, kd_pen, kd_hyp, kd_forced, kd_note, kd_label, kd_page, Bool.or_eq_true, Bool.and_eq_true, decide_eq_true_eq, Bool.not_eq_true', Bool.not_eq_false', Bool.or_eq_false_iff, decide_eq_false_iff_not] at h9; omega))) (hv_int 1009) (by first | omega | decide +kernel | (simp only [List.length_cons, List.length_nil]; omega) | (have h9 := hb0; simp only [kd_box, kd_glue, kd_pen, kd_hyp, kd_forced, kd_note, kd_label, kd_page, Bool.or_eq_true, Bool.and_eq_true, decide_eq_true_eq, Bool.not_eq_true', Bool.not_eq_false', Bool.or_eq_false_iff, decide_eq_false_iff_not] at h9; omega) | (have h9 := hb1; simp only [kd_box, kd_glue, kd_pen, kd_hyp, kd_forced, kd_note, kd_label, kd_page, Bool.or_eq_true, Bool.and_eq_true, decide_eq_true_eq, Bool.not_eq_true', Bool.not_eq_false', Bool.or_eq_false_iff, decide_eq_false_iff_not] at h9; omega) | (have h9 := hb2; simp only [kd_box, kd_glue, kd_pen, kd_hyp, kd_forced, kd_note, kd_label, kd_page, Bool.or_eq_true, Bool.and_eq_true, decide_eq_true_eq, Bool.not_eq_true', Bool.not_eq_false', Bool.or_eq_false_iff, decide_eq_false_iff_not] at h9; omega) | (have h9 := hi1; simp only [kd_box, kd_glue, kd_pen, kd_hyp, kd_forced, kd_note, kd_label, kd_page, Bool.or_eq_true, Bool.and_eq_true, decide_eq_true_eq, Bool.not_eq_true', Bool.not_eq_false', Bool.or_eq_false_iff, decide_eq_false_iff_not] at h9; omega) | (have h9 := hi2; simp only [kd_box, kd_glue, kd_pen, kd_hyp, kd_forced, kd_note, kd_label, kd_page, Bool.or_eq_true, Bool.and_eq_true, decide_eq_true_eq, Bool.not_eq_true', Bool.not_eq_false', Bool.or_eq_false_iff, decide_eq_false_iff_not] at h9; omega))) (by first | exact Or.inr ⟨by omega, by omega⟩ | exact Or.inl ⟨by omega, by omega⟩ | (dsimp only; first | exact Or.inr ⟨by omega, by omega⟩ | exact Or.inl ⟨by omega, by omega⟩)))) (hv_mul ((hv_mul (hv_int 1009) (hv_int 1009) (by first | exact Or.inr ⟨by omega, by omega⟩ | exact Or.inl ⟨by omega, by omega⟩)).is (show _ = (1018081 : Int) by decide +kernel)) (hv_mod (hv_at 0 (hs_of (hv_var (x := draws_2) rfl s1.im.1)) (hv_int 2) (by first | omega | decide +kernel | (simp only [List.length_cons, List.length_nil]; omega) | (have h9 := hb0; simp only [kd_box, kd_glue, kd_pen, kd_hyp, kd_forced, kd_note, kd_label, kd_page, Bool.or_eq_true, Bool.and_eq_true, decide_eq_true_eq, Bool.not_eq_true', Bool.not_eq_false', Bool.or_eq_false_iff, decide_eq_false_iff_not] at h9; omega) | (have h9 := hb1; simp only [kd_box, kd_glue, kd_pen, kd_hyp, kd_forced, kd_note, kd_label, kd_page, Bool.or_eq_true, Bool.and_eq_true, decide_eq_true_eq, Bool.not_eq_true', Bool.not_eq_false', Bool.or_eq_false_iff, decide_eq_false_iff_not] at h9; omega) | (have h9 := hb2; simp only [kd_box, kd_glue, kd_pen, kd_hyp, kd_forced, kd_note, kd_label, kd_page, Bool.or_eq_true, Bool.and_eq_true, decide_eq_true_eq, Bool.not_eq_true', Bool.not_eq_false', Bool.or_eq_false_iff, decide_eq_false_iff_not] at h9; omega) | (have h9 := hi1; simp only [kd_box, kd_glue, kd_pen, kd_hyp, kd_forced, kd_note, kd_label, kd_page, Bool.or_eq_true, Bool.and_eq_true, decide_eq_true_eq, Bool.not_eq_true', Bool.not_eq_false', Bool.or_eq_false_iff, decide_eq_false_iff_not] at h9; omega) | (have h9 := hi2; simp only [kd_box, kd_glue, kd_pen, kd_hyp, kd_forced, kd_note, kd_label, kd_page, Bool.or_eq_true, Bool.and_eq_true, decide_eq_true_eq, Bool.not_eq_true', Bool.not_eq_false', Bool.or_eq_false_iff, decide_eq_false_iff_not] at h9; omega)) (by first | omega | decide +kernel | (simp only [List.length_cons, List.length_nil]; omega) | (have h9 := hb0; simp only [kd_box, kd_glue, kd_pen, kd_hyp, kd_forced, kd_note, kd_label, kd_page, Bool.or_eq_true, Bool.and_eq_true, decide_eq_true_eq, Bool.not_eq_true', Bool.not_eq_false', Bool.or_eq_false_iff, decide_eq_false_iff_not] at h9; omega) | (have h9 := hb1; simp only [kd_box, kd_glue, kd_pen, kd_hyp, kd_forced, kd_note, kd_label, kd_page, Bool.or_eq_true, Bool.and_eq_true, decide_eq_true_eq, Bool.not_eq_true', Bool.not_eq_false', Bool.or_eq_false_iff, decide_eq_false_iff_not] at h9; omega) | (have h9 := hb2; simp only [kd_box, kd_glue, kd_pen, kd_hyp, kd_forced, kd_note, kd_label, kd_page, Bool.or_eq_true, Bool.and_eq_true, decide_eq_true_eq, Bool.not_eq_true', Bool.not_eq_false', Bool.or_eq_false_iff, decide_eq_false_iff_not] at h9; omega) | (have h9 := hi1; simp only [kd_box, kd_glue, kd_pen, kd_hyp, kd_forced, kd_note, kd_label, kd_page, Bool.or_eq_true, Bool.and_eq_true, decide_eq_true_eq, Bool.not_eq_true', Bool.not_eq_false', Bool.or_eq_false_iff, decide_eq_false_iff_not] at h9; omega) | (have h9 := hi2; simp only [kd_box, kd_glue, kd_pen, kd_hyp, kd_forced, kd_note, kd_label, kd_page, Bool.or_eq_true, Bool.and_eq_true, decide_eq_true_eq, Bool.not_eq_true', Bool.not_eq_false', Bool.or_eq_false_iff, decide_eq_false_iff_not] at h9; omega))) (hv_int 1009) (by first | omega | decide +kernel | (simp only [List.length_cons, List.length_nil]; omega) | (have h9 := hb0; simp only [kd_box, kd_glue, kd_pen, kd_hyp, kd_forced, kd_note, kd_label, kd_page, Bool.or_eq_true, Bool.and_eq_true, decide_eq_true_eq, Bool.not_eq_true', Bool.not_eq_false', Bool.or_eq_false_iff, decide_eq_false_iff_not] at h9; omega) | (have h9 := hb1; simp only [kd_box, kd_glue, kd_pen, kd_hyp, kd_forced, kd_note, kd_label, kd_page, Bool.or_eq_true, Bool.and_eq_true, decide_eq_true_eq, Bool.not_eq_true', Bool.not_eq_false', Bool.or_eq_false_iff, decide_eq_false_iff_not] at h9; omega) | (have h9 := hb2; simp only [kd_box, kd_glue, kd_pen, kd_hyp, kd_forced, kd_note, kd_label, kd_page, Bool.or_eq_true, Bool.and_eq_true, decide_eq_true_eq, Bool.not_eq_true', Bool.not_eq_false', Bool.or_eq_false_iff, decide_eq_false_iff_not] at h9; omega) | (have h9 := hi1; simp only [kd_box, kd_glue, kd_pen, kd_hyp, kd_forced, kd_note, kd_label, kd_page, Bool.or_eq_true, Bool.and_eq_true, decide_eq_true_eq, Bool.not_eq_true', Bool.not_eq_false', Bool.or_eq_false_iff, decide_eq_false_iff_not] at h9; omega) | (have h9 := hi2; simp only [kd_box, kd_glue, kd_pen, kd_hyp, kd_forced, kd_note, kd_label, kd_page, Bool.or_eq_true, Bool.and_eq_true, decide_eq_true_eq, Bool.not_eq_true', Bool.not_eq_false', Bool.or_eq_false_iff, decide_eq_false_iff_not] at h9; omega))) (by first | exact Or.inr ⟨by omega, by omega⟩ | exact Or.inl ⟨by omega, by omega⟩ | (dsimp only; first | exact Or.inr ⟨by omega, by omega⟩ | exact Or.inl ⟨by omega, by omega⟩)))) fun v H' e d => q v H' e (by rw [hF4]; exact d)
def m_law_items (draws_ : (List Int)) (count_ : Int) (small_ : Bool) : (List Itm) :=
  (List.map (fun (c_ : Int) => (m_law_item (draws_.getD (Int.toNat c_) 0) small_)) (irng (0 : Int) (Int.toNat count_)))
abbrev s_law_items : Stmt := (topS 24)
theorem sc_law_items : FnScope ["draws", "count", "small", "k"] ["draws", "count", "small"] (defScope s_law_items) := ⟨rfl, rfl, rfl, by decide +kernel, rfl, by decide +kernel, by decide +kernel⟩
abbrev sp_law_items (K : PySem.W.Frag) : Sp := PrD K (fun c : (List Int) × Int × Bool => [Dx.toX c.1, Dx.toX c.2.1, Dx.toX c.2.2]) (fun c => 0 ≤ c.2.1 ∧ c.2.1 ≤ c.1.length ∧ c.2.1 ≤ 1000) (fun c => (m_law_items c.1 c.2.1 c.2.2 : (List Itm)))
theorem ok_law_items (T : Txt K mg) : FnOk P w K mg base CX0 2 T.f_law_items T.d_law_items ["draws", "count", "small"] (sp_law_items K) := by
  refine T.u_law_items.ok sc_law_items (fun vs H Q E h => ?_) (fun cdv A outer s H vs Q E hr h => ?_)
  · obtain ⟨Mc, c, mok, da, pre, q⟩ := h
    exact (dpa_len da)
  · obtain ⟨Mc, c, mok, da, pre, q⟩ := h
    obtain ⟨draws_, count_, small_⟩ := c
    dsimp only at da pre q
    obtain ⟨v0, w0, rfl, d0, da0⟩ := dpa_inv da
    obtain ⟨v1, w1, rfl, d1, da1⟩ := dpa_inv da0
    obtain ⟨v2, w2, rfl, d2, da2⟩ := dpa_inv da1
    cases dpa_inv0 da2
    cases (Dt.int d1)
    cases (Dt.bool d2)
    have s0 : Sg K Mc H H [(v0, Dx.toX draws_)] [] := Sg.enter mok ⟨d0, True.intro⟩
    refine ⟨_, (pss_cons (ps_ret (pe_lc (own := [("k", 3)]) (g := gName 3) rfl sc_law_items.nd (pi_range1 (by rfl) T.n_range (pa_cons (pv 1) pa_nil)) (blkOk_by (own := [("k", 3)]) (N := ["draws", "count", "small", "k"]) (sc := defScope s_law_items) (by decide +kernel)) (fun _ _ _ _ _ => (pg_name (i := 3) sc_law_items.nd rfl (Or.inl rfl) (.inr (by rfl)))) (fun _ _ _ _ _ => pts_nil) (fun _ _ _ _ _ => (pe_call (ok_law_item T) hr (by rfl) T.g_law_item T.u_law_item.kp T.b_law_item .nil pass0 (pa_cons (pe_ix (show IxR _ (rIxL K) from ix_list) (pv 0) (pv 3) (fun _ _ => rfl)) (pa_cons (pv 2) pa_nil)))))) pss_nil), ?_⟩
    have hF1 : m_law_items draws_ count_ small_ = (List.map (fun (c_ : Int) => (m_law_item (draws_.getD (Int.toNat c_) 0) small_)) (irng (0 : Int) (Int.toNat count_))) := (by  first | (simp only [m_law_items, if_true, if_false, Bool.false_eq_true, decide_true, decide_false, Option.getD_some, Option.isNone_none, Option.isNone_some, Bool.not_true, Bool.not_false, ↓reduceIte]; done) | (rfl; done) | ((unfold m_law_items); (dsimp only); first | done | rfl))
    exact zq_ret s0 (hv_lcR0 s0 (fun (c_ : Int) => (m_law_item (draws_.getD (Int.toNat c_) 0) small_)) (hv_vI rfl) (by first | omega | decide +kernel | (simp only [List.length_cons, List.length_nil]; omega) | (have h9 := hb0; simp only [kd_box, kd_glue, kd_pen, kd_hyp, kd_forced, kd_note, kd_label, kd_page, Bool.or_eq_true, Bool.and_eq_true, decide_eq_true_eq, Bool.not_eq_true', Bool.not_eq_false', Bool.or_eq_false_iff, decide_eq_false_iff_not] at h9; omega) | (have h9 := hb1; simp only [kd_box, kd_glue, kd_pen, kd_hyp, kd_forced, kd_note, kd_label, kd_page, Bool.or_eq_true, Bool.and_eq_true, decide_eq_true_eq, Bool.not_eq_true', Bool.not_eq_false', Bool.or_eq_false_iff, decide_eq_false_iff_not] at h9; omega) | (have h9 := hb2; simp only [kd_box, kd_glue, kd_pen, kd_hyp, kd_forced, kd_note, kd_label, kd_page, Bool.or_eq_true, Bool.and_eq_true, decide_eq_true_eq, Bool.not_eq_true', Bool.not_eq_false', Bool.or_eq_false_iff, decide_eq_false_iff_not] at h9; omega) | (have h9 := hi1; simp only [kd_box, kd_glue, kd_pen, kd_hyp, kd_forced, kd_note, kd_label, kd_page, Bool.or_eq_true, Bool.and_eq_true, decide_eq_true_eq, Bool.not_eq_true', Bool.not_eq_false', Bool.or_eq_false_iff, decide_eq_false_iff_not] at h9; omega) | (have h9 := hi2; simp only [kd_box, kd_glue, kd_pen, kd_hyp, kd_forced, kd_note, kd_label, kd_page, Bool.or_eq_true, Bool.and_eq_true, decide_eq_true_eq, Bool.not_eq_true', Bool.not_eq_false', Bool.or_eq_false_iff, decide_eq_false_iff_not] at h9; omega)) (fun D3 c4 ys6 Hs2 s2 hx8 Q k => by exact k _ rfl (hv_call ((draws_.getD (Int.toNat c4) 0), small_) (hd_cons (hv_at 0 (hs_of (hv_var (x := draws_) rfl s2.im.1)) (hv_vI rfl) (by first | omega | decide +kernel | (simp only [List.length_cons, List.length_nil]; omega) | (have h9 := hb0; simp only [kd_box, kd_glue, kd_pen, kd_hyp, kd_forced, kd_note, kd_label, kd_page, Bool.or_eq_true, Bool.and_eq_true, decide_eq_true_eq, Bool.not_eq_true', Bool.not_eq_false', Bool.or_eq_false_iff, decide_eq_false_iff_not] at h9; omega) | (have h9 := hb1; simp only [kd_box, kd_glue, kd_pen, kd_hyp, kd_forced, kd_note, kd_label, kd_page, Bool.or_eq_true, Bool.and_eq_true, decide_eq_true_eq, Bool.not_eq_true', Bool.not_eq_false', Bool.or_eq_false_iff, decide_eq_false_iff_not] at h9; omega) | (have h9 := hb2; simp only [kd_box, kd_glue, kd_pen, kd_hyp, kd_forced, kd_note, kd_label, kd_page, Bool.or_eq_true, Bool.and_eq_true, decide_eq_true_eq, Bool.not_eq_true', Bool.not_eq_false', Bool.or_eq_false_iff, decide_eq_false_iff_not] at h9; omega) | (have h9 := hi1; simp only [kd_box, kd_glue, kd_pen, kd_hyp, kd_forced, kd_note, kd_label, kd_page, Bool.or_eq_true, Bool.and_eq_true, decide_eq_true_eq, Bool.not_eq_true', Bool.not_eq_false', Bool.or_eq_false_iff, decide_eq_false_iff_not] at h9; omega) | (have h9 := hi2; simp only [kd_box, kd_glue, kd_pen, kd_hyp, kd_forced, kd_note, kd_label, kd_page, Bool.or_eq_true, Bool.and_eq_true, decide_eq_true_eq, Bool.not_eq_true', Bool.not_eq_false', Bool.or_eq_false_iff, decide_eq_false_iff_not] at h9; omega)) (by first | omega | decide +kernel | (simp only [List.length_cons, List.length_nil]; omega) | (have h9 := hb0; simp only [kd_box, kd_glue, kd_pen, kd_hyp, kd_forced, kd_note, kd_label, kd_page, Bool.or_eq_true, Bool.and_eq_true, decide_eq_true_eq, Bool.not_eq_true', Bool.not_eq_false', Bool.or_eq_false_iff, decide_eq_false_iff_not] at h9; omega) | (have h9 := hb1; simp only [kd_box, kd_glue, kd_pen, kd_hyp, kd_forced, kd_note, kd_label, kd_page, Bool.or_eq_true, Bool.and_eq_true, decide_eq_true_eq, Bool.not_eq_true', Bool.not_eq_false', Bool.or_eq_false_iff, decide_eq_false_iff_not] at h9; omega) | (have h9 := hb2; simp only [kd_box, kd_glue, kd_pen, kd_hyp, kd_forced, kd_note, kd_label, kd_page, Bool.or_eq_true, Bool.and_eq_true, decide_eq_true_eq, Bool.not_eq_true', Bool.not_eq_false', Bool.or_eq_false_iff, decide_eq_false_iff_not] at h9; omega) | (have h9 := hi1; simp only [kd_box, kd_glue, kd_pen, kd_hyp, kd_forced, kd_note, kd_label, kd_page, Bool.or_eq_true, Bool.and_eq_true, decide_eq_true_eq, Bool.not_eq_true', Bool.not_eq_false', Bool.or_eq_false_iff, decide_eq_false_iff_not] at h9; omega) | (have h9 := hi2; simp only [kd_box, kd_glue, kd_pen, kd_hyp, kd_forced, kd_note, kd_label, kd_page, Bool.or_eq_true, Bool.and_eq_true, decide_eq_true_eq, Bool.not_eq_true', Bool.not_eq_false', Bool.or_eq_false_iff, decide_eq_false_iff_not] at h9; omega))) (hd_cons (hv_vB rfl) hd_nil)) True.intro))) fun v H' e d => q v H' e (by rw [hF1]; exact d)

theorem items_len (ds : List Int) (n : Int) (b : Bool) : (m_law_items ds n b).length = n.toNat := by
  unfold m_law_items; rw [List.length_map, irng_len]

theorem item_ok (d : Int) (b : Bool) : ItOk (m_law_item d b) := by
  have six : ∀ i : Nat, 0 ≤ ([0, 3, 7, 10, 20, 33] : List Int).getD i 0 ∧ ([0, 3, 7, 10, 20, 33] : List Int).getD i 0 ≤ 1000 := getD_P (P := fun x => (0 : Int) ≤ x ∧ x ≤ 1000) (by decide) (by decide)
  have four : ∀ i : Nat, ItOk (([Itm.forced, Itm.note 0, Itm.label (Str.ofString "a"), Itm.page 8 1 2 (Str.ofString "b")] : List Itm).getD i Itm.forced) := getD_P (P := ItOk) (by
    intro x hx
    simp only [List.mem_cons, List.not_mem_nil, or_false] at hx
    rcases hx with rfl | rfl | rfl | rfl <;> (unfold ItOk; simp only [Itm.at1, Itm.at2, Itm.at3]; omega)) (by unfold ItOk; simp only [Itm.at1, Itm.at2, Itm.at3]; omega)
  unfold m_law_item
  dsimp only
  split
  · unfold ItOk
    simp only [Itm.at1, Itm.at2, Itm.at3]
    have := six (Int.toNat (d / 10 % 6))
    refine ⟨?_, by omega, by omega⟩
    split
    · exact this
    · omega
  · split
    · unfold ItOk
      simp only [Itm.at1, Itm.at2, Itm.at3]
      omega
    · split
      · unfold ItOk
        simp only [Itm.at1, Itm.at2, Itm.at3]
        omega
      · split
        · unfold ItOk
          simp only [Itm.at1, Itm.at2, Itm.at3]
          omega
        · exact four _
theorem items_ok (ds : List Int) (n : Int) (b : Bool) : ∀ i ∈ m_law_items ds n b, ItOk i := fun i hi => by
  obtain ⟨k, _, rfl⟩ := List.mem_map.mp hi
  exact item_ok _ _

def m_law_shown_l0 (items_ : (List Itm)) (s_ : (List Int)) (x_ : Int) : (List Int) :=
  let found_ : (List Int) := s_
  let k_ : Int := x_
  if (!(m_law_is_blank (items_.getD (Int.toNat k_) Itm.forced))) = true then
    let found_ : (List Int) := found_ ++ [k_]
    found_
  else
    found_
def m_law_shown (items_ : (List Itm)) (start_ : Int) (end_ : Int) : (List Itm) :=
  let found_ : (List Int) := []
  let r0_ : (List Int) := loopN (m_law_shown_l0 items_) (Int.toNat (end_ - start_)) start_ found_
  let found_ : (List Int) := r0_
  if (decide (((found_).length : Int) = (0 : Int))) = true then
    []
  else
    (cutL items_ (some (found_.getD (Int.toNat (0 : Int)) 0)) (some ((found_.getD ((found_).length - 1) 0) + (1 : Int))))
abbrev s_law_shown : Stmt := (topS 26)
theorem sc_law_shown : FnScope ["items", "start", "end", "found", "k"] ["items", "start", "end"] (defScope s_law_shown) := ⟨rfl, rfl, rfl, by decide +kernel, rfl, by decide +kernel, by decide +kernel⟩
abbrev sp_law_shown (K : PySem.W.Frag) : Sp := PrD K (fun c : (List Itm) × Int × Int => [Dx.toX c.1, Dx.toX c.2.1, Dx.toX c.2.2]) (fun c => 0 ≤ c.2.1 ∧ c.2.1 ≤ c.2.2 ∧ c.2.2 ≤ (c.1.length : Int) ∧ c.1.length ≤ 1000) (fun c => (m_law_shown c.1 c.2.1 c.2.2 : (List Itm)))
theorem ok_law_shown (T : Txt K mg) : FnOk P w K mg base CX0 2 T.f_law_shown T.d_law_shown ["items", "start", "end"] (sp_law_shown K) := by
  refine T.u_law_shown.ok sc_law_shown (fun vs H Q E h => ?_) (fun cdv A outer s H vs Q E hr h => ?_)
  · obtain ⟨Mc, c, mok, da, pre, q⟩ := h
    exact (dpa_len da)
  · obtain ⟨Mc, c, mok, da, pre, q⟩ := h
    obtain ⟨items_, start_, end_⟩ := c
    dsimp only at da pre q
    obtain ⟨v0, w0, rfl, d0, da0⟩ := dpa_inv da
    obtain ⟨v1, w1, rfl, d1, da1⟩ := dpa_inv da0
    obtain ⟨v2, w2, rfl, d2, da2⟩ := dpa_inv da1
    cases dpa_inv0 da2
    cases (Dt.int d1)
    cases (Dt.int d2)
    have s0 : Sg K Mc H H [(v0, Dx.toX items_)] [] := Sg.enter mok ⟨d0, True.intro⟩
    refine ⟨_, (pss_cons (ps_set (i := 3) sc_law_shown.nd rfl (.inl rfl) (pe_lst pa_nil)) (pss_cons (ps_for PassesOwn.never rfl (pi_range2 (by rfl) T.n_range (pa_cons (pv 1) (pa_cons (pv 2) pa_nil))) (pg_name (i := 4) sc_law_shown.nd rfl (.inl rfl)) (pss_cons (ps_if (pt_not (pt_val (pe_call (ok_law_is_blank T) hr (by rfl) T.g_law_is_blank T.u_law_is_blank.kp T.b_law_is_blank .nil pass0 (pa_cons (pe_ix ix_list (pv 0) (pv 4) (fun _ _ => rfl)) pa_nil)))) (pss_cons (ps_expr (pe_bm PySem.F.plainAttrs_list PySem.F.slot_list_append PySem.F.type_list_append mt_append (pv 3) (pa_cons (pv 4) pa_nil))) pss_nil) pss_nil) pss_nil)) (pss_cons (ps_if (pt_cmpR op_eq (pe_callB call_len (by rfl) T.n_len (by decide +kernel) (pa_cons (pv 3) pa_nil)) pe_int (nomark _)) (pss_cons (ps_ret (pe_lst pa_nil)) pss_nil) pss_nil) (pss_cons (ps_ret (pe_slice sl_list (pv 0) (po_some (pe_ix ix_list (pv 3) pe_int (fun _ _ => rfl))) (po_some (pe_op op_add (pe_ix ix_list (pv 3) (pe_un un_neg pe_int) (fun _ _ => rfl)) pe_int)))) pss_nil)))), ?_⟩
    refine z_nilG Int s0 fun found_2 hfound_2 ps1 Hs1 s1 => ?_
    have lfound_2 : found_2.length = 0 := by rw [hfound_2]; rfl
    refine zq_forR2G s1 (hv_vI rfl) (hv_vI rfl) (by first | omega | decide +kernel | (simp only [List.length_cons, List.length_nil]; omega) | (have h9 := hb0; simp only [kd_box, kd_glue, kd_pen, kd_hyp, kd_forced, kd_note, kd_label, kd_page, Bool.or_eq_true, Bool.and_eq_true, decide_eq_true_eq, Bool.not_eq_true', Bool.not_eq_false', Bool.or_eq_false_iff, decide_eq_false_iff_not] at h9; omega) | (have h9 := hb1; simp only [kd_box, kd_glue, kd_pen, kd_hyp, kd_forced, kd_note, kd_label, kd_page, Bool.or_eq_true, Bool.and_eq_true, decide_eq_true_eq, Bool.not_eq_true', Bool.not_eq_false', Bool.or_eq_false_iff, decide_eq_false_iff_not] at h9; omega) | (have h9 := hb2; simp only [kd_box, kd_glue, kd_pen, kd_hyp, kd_forced, kd_note, kd_label, kd_page, Bool.or_eq_true, Bool.and_eq_true, decide_eq_true_eq, Bool.not_eq_true', Bool.not_eq_false', Bool.or_eq_false_iff, decide_eq_false_iff_not] at h9; omega) | (have h9 := hi1; simp only [kd_box, kd_glue, kd_pen, kd_hyp, kd_forced, kd_note, kd_label, kd_page, Bool.or_eq_true, Bool.and_eq_true, decide_eq_true_eq, Bool.not_eq_true', Bool.not_eq_false', Bool.or_eq_false_iff, decide_eq_false_iff_not] at h9; omega) | (have h9 := hi2; simp only [kd_box, kd_glue, kd_pen, kd_hyp, kd_forced, kd_note, kd_label, kd_page, Bool.or_eq_true, Bool.and_eq_true, decide_eq_true_eq, Bool.not_eq_true', Bool.not_eq_false', Bool.or_eq_false_iff, decide_eq_false_iff_not] at h9; omega)) (fun i σ' H' => ∃ (found_3 : (List Int)) (o4 : Option V), (loopN (m_law_shown_l0 items_) (Int.toNat (end_ - start_)) start_ found_2 : (List Int)) = (loopN (m_law_shown_l0 items_) ((Int.toNat (end_ - start_)) - i) (start_ + (i : Int)) found_3 : (List Int)) ∧ (found_3.length ≤ (i) ∧ (∀ x ∈ found_3, start_ ≤ x ∧ x < end_)) ∧ σ' = [some v0, some (V.int start_), some (V.int end_), some (.ref ps1), o4] ∧ Sg K Mc H H' [(v0, Dx.toX items_)] [(ps1, .lst (List.map Dx.toX found_3))]) (fun Hs5 s5 => ⟨found_2, _, (by simp), (by exact ⟨by omega, fun x hx => by subst_vars; cases hx⟩), rfl, s5.keep fun _ h => ⟨h.1, True.intro⟩⟩) (fun i9 x10 σ' Hs8 hx11 hi12 hP => ?_) (fun σ' Hs8 hP => ?_)
    · obtain ⟨found_3, o4, he6, hg7, rfl, s8⟩ := hP
      have hg7q0 := hg7.1
      have hg7q1 := hg7.2
      have hgZ := hg7.2
      refine z_ifx (b := (!(m_law_is_blank (items_.getD (Int.toNat x10) Itm.forced)))) s8 (ht_not (ht_B (K := K) (hv_call (items_.getD (Int.toNat x10) Itm.forced) (hd_cons (hv_at Itm.forced (hs_of (hv_var (x := items_) rfl s8.im.1)) (hv_vI rfl) (by first | omega | decide +kernel | (simp only [List.length_cons, List.length_nil]; omega) | (have h9 := hb0; simp only [kd_box, kd_glue, kd_pen, kd_hyp, kd_forced, kd_note, kd_label, kd_page, Bool.or_eq_true, Bool.and_eq_true, decide_eq_true_eq, Bool.not_eq_true', Bool.not_eq_false', Bool.or_eq_false_iff, decide_eq_false_iff_not] at h9; omega) | (have h9 := hb1; simp only [kd_box, kd_glue, kd_pen, kd_hyp, kd_forced, kd_note, kd_label, kd_page, Bool.or_eq_true, Bool.and_eq_true, decide_eq_true_eq, Bool.not_eq_true', Bool.not_eq_false', Bool.or_eq_false_iff, decide_eq_false_iff_not] at h9; omega) | (have h9 := hb2; simp only [kd_box, kd_glue, kd_pen, kd_hyp, kd_forced, kd_note, kd_label, kd_page, Bool.or_eq_true, Bool.and_eq_true, decide_eq_true_eq, Bool.not_eq_true', Bool.not_eq_false', Bool.or_eq_false_iff, decide_eq_false_iff_not] at h9; omega) | (have h9 := hi1; simp only [kd_box, kd_glue, kd_pen, kd_hyp, kd_forced, kd_note, kd_label, kd_page, Bool.or_eq_true, Bool.and_eq_true, decide_eq_true_eq, Bool.not_eq_true', Bool.not_eq_false', Bool.or_eq_false_iff, decide_eq_false_iff_not] at h9; omega) | (have h9 := hi2; simp only [kd_box, kd_glue, kd_pen, kd_hyp, kd_forced, kd_note, kd_label, kd_page, Bool.or_eq_true, Bool.and_eq_true, decide_eq_true_eq, Bool.not_eq_true', Bool.not_eq_false', Bool.or_eq_false_iff, decide_eq_false_iff_not] at h9; omega)) (by first | omega | decide +kernel | (simp only [List.length_cons, List.length_nil]; omega) | (have h9 := hb0; simp only [kd_box, kd_glue, kd_pen, kd_hyp, kd_forced, kd_note, kd_label, kd_page, Bool.or_eq_true, Bool.and_eq_true, decide_eq_true_eq, Bool.not_eq_true', Bool.not_eq_false', Bool.or_eq_false_iff, decide_eq_false_iff_not] at h9; omega) | (have h9 := hb1; simp only [kd_box, kd_glue, kd_pen, kd_hyp, kd_forced, kd_note, kd_label, kd_page, Bool.or_eq_true, Bool.and_eq_true, decide_eq_true_eq, Bool.not_eq_true', Bool.not_eq_false', Bool.or_eq_false_iff, decide_eq_false_iff_not] at h9; omega) | (have h9 := hb2; simp only [kd_box, kd_glue, kd_pen, kd_hyp, kd_forced, kd_note, kd_label, kd_page, Bool.or_eq_true, Bool.and_eq_true, decide_eq_true_eq, Bool.not_eq_true', Bool.not_eq_false', Bool.or_eq_false_iff, decide_eq_false_iff_not] at h9; omega) | (have h9 := hi1; simp only [kd_box, kd_glue, kd_pen, kd_hyp, kd_forced, kd_note, kd_label, kd_page, Bool.or_eq_true, Bool.and_eq_true, decide_eq_true_eq, Bool.not_eq_true', Bool.not_eq_false', Bool.or_eq_false_iff, decide_eq_false_iff_not] at h9; omega) | (have h9 := hi2; simp only [kd_box, kd_glue, kd_pen, kd_hyp, kd_forced, kd_note, kd_label, kd_page, Bool.or_eq_true, Bool.and_eq_true, decide_eq_true_eq, Bool.not_eq_true', Bool.not_eq_false', Bool.or_eq_false_iff, decide_eq_false_iff_not] at h9; omega))) hd_nil) True.intro))) (fun hb14 Hs15 s15 => ?_) (fun hb14 Hs16 s16 => ?_)
      · have hb14P := hb14
        try simp only [kd_box, kd_glue, kd_pen, kd_hyp, kd_forced, kd_note, kd_label, kd_page, decide_eq_true_eq, decide_eq_false_iff_not, Bool.not_eq_true', Bool.not_eq_false', Bool.and_eq_true, Bool.or_eq_true, Bool.or_eq_false_iff] at hb14P
        refine zq_appG s15 (kk := 0) rfl (ev_var rfl) (hv_vI rfl) (by first | omega | decide +kernel | (simp only [List.length_cons, List.length_nil]; omega) | (have h9 := hb0; simp only [kd_box, kd_glue, kd_pen, kd_hyp, kd_forced, kd_note, kd_label, kd_page, Bool.or_eq_true, Bool.and_eq_true, decide_eq_true_eq, Bool.not_eq_true', Bool.not_eq_false', Bool.or_eq_false_iff, decide_eq_false_iff_not] at h9; omega) | (have h9 := hb1; simp only [kd_box, kd_glue, kd_pen, kd_hyp, kd_forced, kd_note, kd_label, kd_page, Bool.or_eq_true, Bool.and_eq_true, decide_eq_true_eq, Bool.not_eq_true', Bool.not_eq_false', Bool.or_eq_false_iff, decide_eq_false_iff_not] at h9; omega) | (have h9 := hb2; simp only [kd_box, kd_glue, kd_pen, kd_hyp, kd_forced, kd_note, kd_label, kd_page, Bool.or_eq_true, Bool.and_eq_true, decide_eq_true_eq, Bool.not_eq_true', Bool.not_eq_false', Bool.or_eq_false_iff, decide_eq_false_iff_not] at h9; omega) | (have h9 := hi1; simp only [kd_box, kd_glue, kd_pen, kd_hyp, kd_forced, kd_note, kd_label, kd_page, Bool.or_eq_true, Bool.and_eq_true, decide_eq_true_eq, Bool.not_eq_true', Bool.not_eq_false', Bool.or_eq_false_iff, decide_eq_false_iff_not] at h9; omega) | (have h9 := hi2; simp only [kd_box, kd_glue, kd_pen, kd_hyp, kd_forced, kd_note, kd_label, kd_page, Bool.or_eq_true, Bool.and_eq_true, decide_eq_true_eq, Bool.not_eq_true', Bool.not_eq_false', Bool.or_eq_false_iff, decide_eq_false_iff_not] at h9; omega)) fun found_18 hfound_18 Hs17 s17 => ?_
        have lfound_18 : found_18.length = found_3.length + 1 := by rw [hfound_18, List.length_append]; rfl
        have s17 : Sg K Mc _ _ _ [(ps1, .lst (List.map Dx.toX found_18))] := s17
        have hf19 : (m_law_shown_l0 items_) found_3 x10 = found_18 := (by subst hfound_18; subst hfound_2; first | (simp only [m_law_shown_l0, hb14, if_true, if_false, Bool.false_eq_true, decide_true, decide_false, Option.getD_some, Option.isNone_none, Option.isNone_some, Bool.not_true, Bool.not_false, ↓reduceIte]; done) | (rfl; done) | ((unfold m_law_shown_l0); (dsimp only); (first | rw [ifT hb14] | rw [ifF hb14] | skip); (try dsimp only); first | done | rfl) | (exfalso; simp at hb14; done))
        exact ⟨found_18, _, he6.trans ((loopN_step hi12).trans (by rw [← hx11, hf19])), (by first | exact ⟨by omega, fun x hx => hgZ x hx⟩ | (refine ⟨by omega, fun x hx => ?_⟩; subst_vars; rcases List.mem_append.mp hx with hx | hx; exact hgZ x hx; have := List.mem_singleton.mp hx; omega)), rfl, s17.keep fun _ h => ⟨h.1, True.intro⟩⟩
      · have hb14P := hb14
        try simp only [kd_box, kd_glue, kd_pen, kd_hyp, kd_forced, kd_note, kd_label, kd_page, decide_eq_true_eq, decide_eq_false_iff_not, Bool.not_eq_true', Bool.not_eq_false', Bool.and_eq_true, Bool.or_eq_true, Bool.or_eq_false_iff] at hb14P
        have hf20 : (m_law_shown_l0 items_) found_3 x10 = found_3 := (by subst hfound_2; first | (simp only [m_law_shown_l0, hb14, if_true, if_false, Bool.false_eq_true, decide_true, decide_false, Option.getD_some, Option.isNone_none, Option.isNone_some, Bool.not_true, Bool.not_false, ↓reduceIte]; done) | (rfl; done) | ((unfold m_law_shown_l0); (dsimp only); (first | rw [ifT hb14] | rw [ifF hb14] | skip); (try dsimp only); first | done | rfl) | (exfalso; simp at hb14; done))
        exact ⟨found_3, _, he6.trans ((loopN_step hi12).trans (by rw [← hx11, hf20])), (by first | exact ⟨by omega, fun x hx => hgZ x hx⟩ | (refine ⟨by omega, fun x hx => ?_⟩; subst_vars; rcases List.mem_append.mp hx with hx | hx; exact hgZ x hx; have := List.mem_singleton.mp hx; omega)), rfl, s16.keep fun _ h => ⟨h.1, True.intro⟩⟩
    · obtain ⟨found_21, o22, he24, hg25, rfl, s23⟩ := hP
      have hg25q0 := hg25.1
      have hg25q1 := hg25.2
      rw [loopN_end] at he24
      have s26 := Sg.frz (xs := found_21) s23
      refine z_ifx (b := (decide (((found_21).length : Int) = (0 : Int)))) s26 (ht_val (K := K) (hv_eqI (hv_len (hs_of (hv_var (x := found_21) rfl s26.im.1))) (hv_int 0))) (fun hb27 Hs28 s28 => ?_) (fun hb27 Hs29 s29 => ?_)
      · have hb27P := hb27
        try simp only [kd_box, kd_glue, kd_pen, kd_hyp, kd_forced, kd_note, kd_label, kd_page, decide_eq_true_eq, decide_eq_false_iff_not, Bool.not_eq_true', Bool.not_eq_false', Bool.and_eq_true, Bool.or_eq_true, Bool.or_eq_false_iff] at hb27P
        have hF30 : m_law_shown items_ start_ end_ = [] := (by subst hfound_2; first | (simp only [m_law_shown, he24, hb27, if_true, if_false, Bool.false_eq_true, decide_true, decide_false, Option.getD_some, Option.isNone_none, Option.isNone_some, Bool.not_true, Bool.not_false, ↓reduceIte]; done) | (rfl; done) | ((unfold m_law_shown); (dsimp only); (first | rw [he24] | skip); (try dsimp only); (first | rw [ifT hb27] | rw [ifF hb27] | skip); (try dsimp only); first | done | rfl) | (exfalso; simp at hb27; done))
        exact zq_ret s28 (hv_lst has_nil (Nat.le_of_ble_eq_true rfl)) fun v H' e d => q v H' e (by rw [hF30]; exact d)
      · have hb27P := hb27
        try simp only [kd_box, kd_glue, kd_pen, kd_hyp, kd_forced, kd_note, kd_label, kd_page, decide_eq_true_eq, decide_eq_false_iff_not, Bool.not_eq_true', Bool.not_eq_false', Bool.and_eq_true, Bool.or_eq_true, Bool.or_eq_false_iff] at hb27P
        have hF31 : m_law_shown items_ start_ end_ = (cutL items_ (some (found_21.getD (Int.toNat (0 : Int)) 0)) (some ((found_21.getD ((found_21).length - 1) 0) + (1 : Int)))) := (by subst hfound_2; first | (simp only [m_law_shown, he24, hb27, if_true, if_false, Bool.false_eq_true, decide_true, decide_false, Option.getD_some, Option.isNone_none, Option.isNone_some, Bool.not_true, Bool.not_false, ↓reduceIte]; done) | (rfl; done) | ((unfold m_law_shown); (dsimp only); (first | rw [he24] | skip); (try dsimp only); (first | rw [ifT hb27] | rw [ifF hb27] | skip); (try dsimp only); first | done | rfl) | (exfalso; simp at hb27; done))
        exact zq_ret s29 (hv_slice (hs_of (hv_var (x := items_) rfl s29.im.2.1)) (ho_some (K := K) (hv_at 0 (hs_of (hv_var (x := found_21) rfl s29.im.1)) (hv_int 0) (by first | omega | decide +kernel | (simp only [List.length_cons, List.length_nil]; omega) | (have h9 := hb0; simp only [kd_box, kd_glue, kd_pen, kd_hyp, kd_forced, kd_note, kd_label, kd_page, Bool.or_eq_true, Bool.and_eq_true, decide_eq_true_eq, Bool.not_eq_true', Bool.not_eq_false', Bool.or_eq_false_iff, decide_eq_false_iff_not] at h9; omega) | (have h9 := hb1; simp only [kd_box, kd_glue, kd_pen, kd_hyp, kd_forced, kd_note, kd_label, kd_page, Bool.or_eq_true, Bool.and_eq_true, decide_eq_true_eq, Bool.not_eq_true', Bool.not_eq_false', Bool.or_eq_false_iff, decide_eq_false_iff_not] at h9; omega) | (have h9 := hb2; simp only [kd_box, kd_glue, kd_pen, kd_hyp, kd_forced, kd_note, kd_label, kd_page, Bool.or_eq_true, Bool.and_eq_true, decide_eq_true_eq, Bool.not_eq_true', Bool.not_eq_false', Bool.or_eq_false_iff, decide_eq_false_iff_not] at h9; omega) | (have h9 := hi1; simp only [kd_box, kd_glue, kd_pen, kd_hyp, kd_forced, kd_note, kd_label, kd_page, Bool.or_eq_true, Bool.and_eq_true, decide_eq_true_eq, Bool.not_eq_true', Bool.not_eq_false', Bool.or_eq_false_iff, decide_eq_false_iff_not] at h9; omega) | (have h9 := hi2; simp only [kd_box, kd_glue, kd_pen, kd_hyp, kd_forced, kd_note, kd_label, kd_page, Bool.or_eq_true, Bool.and_eq_true, decide_eq_true_eq, Bool.not_eq_true', Bool.not_eq_false', Bool.or_eq_false_iff, decide_eq_false_iff_not] at h9; omega)) (by first | omega | decide +kernel | (simp only [List.length_cons, List.length_nil]; omega) | (have h9 := hb0; simp only [kd_box, kd_glue, kd_pen, kd_hyp, kd_forced, kd_note, kd_label, kd_page, Bool.or_eq_true, Bool.and_eq_true, decide_eq_true_eq, Bool.not_eq_true', Bool.not_eq_false', Bool.or_eq_false_iff, decide_eq_false_iff_not] at h9; omega) | (have h9 := hb1; simp only [kd_box, kd_glue, kd_pen, kd_hyp, kd_forced, kd_note, kd_label, kd_page, Bool.or_eq_true, Bool.and_eq_true, decide_eq_true_eq, Bool.not_eq_true', Bool.not_eq_false', Bool.or_eq_false_iff, decide_eq_false_iff_not] at h9; omega) | (have h9 := hb2; simp only [kd_box, kd_glue, kd_pen, kd_hyp, kd_forced, kd_note, kd_label, kd_page, Bool.or_eq_true, Bool.and_eq_true, decide_eq_true_eq, Bool.not_eq_true', Bool.not_eq_false', Bool.or_eq_false_iff, decide_eq_false_iff_not] at h9; omega) | (have h9 := hi1; simp only [kd_box, kd_glue, kd_pen, kd_hyp, kd_forced, kd_note, kd_label, kd_page, Bool.or_eq_true, Bool.and_eq_true, decide_eq_true_eq, Bool.not_eq_true', Bool.not_eq_false', Bool.or_eq_false_iff, decide_eq_false_iff_not] at h9; omega) | (have h9 := hi2; simp only [kd_box, kd_glue, kd_pen, kd_hyp, kd_forced, kd_note, kd_label, kd_page, Bool.or_eq_true, Bool.and_eq_true, decide_eq_true_eq, Bool.not_eq_true', Bool.not_eq_false', Bool.or_eq_false_iff, decide_eq_false_iff_not] at h9; omega)))) (ho_some (K := K) (hv_add (hv_last 0 (hs_of (hv_var (x := found_21) rfl s29.im.1)) (by first | omega | decide +kernel | (simp only [List.length_cons, List.length_nil]; omega) | (have h9 := hb0; simp only [kd_box, kd_glue, kd_pen, kd_hyp, kd_forced, kd_note, kd_label, kd_page, Bool.or_eq_true, Bool.and_eq_true, decide_eq_true_eq, Bool.not_eq_true', Bool.not_eq_false', Bool.or_eq_false_iff, decide_eq_false_iff_not] at h9; omega) | (have h9 := hb1; simp only [kd_box, kd_glue, kd_pen, kd_hyp, kd_forced, kd_note, kd_label, kd_page, Bool.or_eq_true, Bool.and_eq_true, decide_eq_true_eq, Bool.not_eq_true', Bool.not_eq_false', Bool.or_eq_false_iff, decide_eq_false_iff_not] at h9; omega) | (have h9 := hb2; simp only [kd_box, kd_glue, kd_pen, kd_hyp, kd_forced, kd_note, kd_label, kd_page, Bool.or_eq_true, Bool.and_eq_true, decide_eq_true_eq, Bool.not_eq_true', Bool.not_eq_false', Bool.or_eq_false_iff, decide_eq_false_iff_not] at h9; omega) | (have h9 := hi1; simp only [kd_box, kd_glue, kd_pen, kd_hyp, kd_forced, kd_note, kd_label, kd_page, Bool.or_eq_true, Bool.and_eq_true, decide_eq_true_eq, Bool.not_eq_true', Bool.not_eq_false', Bool.or_eq_false_iff, decide_eq_false_iff_not] at h9; omega) | (have h9 := hi2; simp only [kd_box, kd_glue, kd_pen, kd_hyp, kd_forced, kd_note, kd_label, kd_page, Bool.or_eq_true, Bool.and_eq_true, decide_eq_true_eq, Bool.not_eq_true', Bool.not_eq_false', Bool.or_eq_false_iff, decide_eq_false_iff_not] at h9; omega))) (hv_int 1)))) fun v H' e d => q v H' e (by rw [hF31]; exact d)
def m_law_may_end (items_ : (List Itm)) (j_ : Int) : Bool :=
  if (decide (j_ = ((items_).length : Int))) = true then
    true
  else
    let last_ : Itm := (items_.getD (Int.toNat (j_ - (1 : Int))) Itm.forced)
    if (decide ((Itm.kind last_) = (PySem.Str.ofString "glue"))) = true then
      ((Itm.fr last_) && ((decide ((1 : Int) < j_)) && (!(m_law_is_blank (items_.getD (Int.toNat (j_ - (2 : Int))) Itm.forced)))))
    else
      (decide ((Itm.kind last_) = (PySem.Str.ofString "penalty")) || decide ((Itm.kind last_) = (PySem.Str.ofString "hyphen")) || decide ((Itm.kind last_) = (PySem.Str.ofString "forced")))
abbrev s_law_may_end : Stmt := (topS 27)
theorem sc_law_may_end : FnScope ["items", "j", "last"] ["items", "j"] (defScope s_law_may_end) := ⟨rfl, rfl, rfl, by decide +kernel, rfl, by decide +kernel, by decide +kernel⟩
abbrev sp_law_may_end (K : PySem.W.Frag) : Sp := PrD K (fun c : (List Itm) × Int => [Dx.toX c.1, Dx.toX c.2]) (fun c => 1 ≤ c.2 ∧ c.2 ≤ (c.1.length : Int)) (fun c => (m_law_may_end c.1 c.2 : Bool))
theorem ok_law_may_end (T : Txt K mg) : FnOk P w K mg base CX0 2 T.f_law_may_end T.d_law_may_end ["items", "j"] (sp_law_may_end K) := by
  refine T.u_law_may_end.ok sc_law_may_end (fun vs H Q E h => ?_) (fun cdv A outer s H vs Q E hr h => ?_)
  · obtain ⟨Mc, c, mok, da, pre, q⟩ := h
    exact (dpa_len da)
  · obtain ⟨Mc, c, mok, da, pre, q⟩ := h
    obtain ⟨items_, j_⟩ := c
    dsimp only at da pre q
    obtain ⟨v0, w0, rfl, d0, da0⟩ := dpa_inv da
    obtain ⟨v1, w1, rfl, d1, da1⟩ := dpa_inv da0
    cases dpa_inv0 da1
    cases (Dt.int d1)
    have s0 : Sg K Mc H H [(v0, Dx.toX items_)] [] := Sg.enter mok ⟨d0, True.intro⟩
    refine ⟨_, (pss_cons (ps_if (pt_cmpR op_eq (pv 1) (pe_callB call_len (by rfl) T.n_len (by decide +kernel) (pa_cons (pv 0) pa_nil)) (nomark _)) (pss_cons (ps_ret pe_bl) pss_nil) pss_nil) (pss_cons (ps_set (i := 2) sc_law_may_end.nd rfl (.inl rfl) (pe_ix ix_list (pv 0) (pe_op op_sub (pv 1) pe_int) (fun _ _ => rfl))) (pss_cons (ps_if (pt_cmpR op_eq (pe_ix ix_tup (pv 2) pe_int (fun _ _ => rfl)) pe_str (nomark _)) (pss_cons (ps_ret (pe_and (pe_ix ix_tup (pv 2) pe_int (fun _ _ => rfl)) (pe_and (pe_cmpR op_gt (pv 1) pe_int (nomark _)) (pe_one (pe_not (pe_call (ok_law_is_blank T) hr (by rfl) T.g_law_is_blank T.u_law_is_blank.kp T.b_law_is_blank .nil pass0 (pa_cons (pe_ix ix_list (pv 0) (pe_op op_sub (pv 1) pe_int) (fun _ _ => rfl)) pa_nil))))))) pss_nil) pss_nil) (pss_cons (ps_ret (pe_cmpR op_in_seq (pe_ix ix_tup (pv 2) pe_int (fun _ _ => rfl)) (pe_tup (pa_cons pe_str (pa_cons pe_str (pa_cons pe_str pa_nil)))) (by rfl))) pss_nil)))), ?_⟩
    refine z_ifx (b := (decide (j_ = ((items_).length : Int)))) s0 (ht_val (K := K) (hv_eqI (hv_vI rfl) (hv_len (hs_of (hv_var (x := items_) rfl s0.im.1))))) (fun hb1 Hs2 s2 => ?_) (fun hb1 Hs3 s3 => ?_)
    · have hb1P := hb1
      try simp only [kd_box, kd_glue, kd_pen, kd_hyp, kd_forced, kd_note, kd_label, kd_page, decide_eq_true_eq, decide_eq_false_iff_not, Bool.not_eq_true', Bool.not_eq_false', Bool.and_eq_true, Bool.or_eq_true, Bool.or_eq_false_iff] at hb1P
      have hF4 : m_law_may_end items_ j_ = true := (by  first | (simp only [m_law_may_end, hb1, if_true, if_false, Bool.false_eq_true, decide_true, decide_false, Option.getD_some, Option.isNone_none, Option.isNone_some, Bool.not_true, Bool.not_false, ↓reduceIte]; done) | (rfl; done) | ((unfold m_law_may_end); (dsimp only); (first | rw [ifT hb1] | rw [ifF hb1] | skip); (try dsimp only); first | done | rfl) | (exfalso; simp at hb1; done))
      exact zq_ret s2 (hv_bl true) fun v H' e d => q v H' e (by rw [hF4]; exact d)
    · have hb1P := hb1
      try simp only [kd_box, kd_glue, kd_pen, kd_hyp, kd_forced, kd_note, kd_label, kd_page, decide_eq_true_eq, decide_eq_false_iff_not, Bool.not_eq_true', Bool.not_eq_false', Bool.and_eq_true, Bool.or_eq_true, Bool.or_eq_false_iff] at hb1P
      refine z_asgG s3 (hv_at Itm.forced (hs_of (hv_var (x := items_) rfl s3.im.1)) (hv_sub (hv_vI rfl) (hv_int 1)) (by first | omega | decide +kernel | (simp only [List.length_cons, List.length_nil]; omega) | (have h9 := hb0; simp only [kd_box, kd_glue, kd_pen, kd_hyp, kd_forced, kd_note, kd_label, kd_page, Bool.or_eq_true, Bool.and_eq_true, decide_eq_true_eq, Bool.not_eq_true', Bool.not_eq_false', Bool.or_eq_false_iff, decide_eq_false_iff_not] at h9; omega) | (have h9 := hb1; simp only [kd_box, kd_glue, kd_pen, kd_hyp, kd_forced, kd_note, kd_label, kd_page, Bool.or_eq_true, Bool.and_eq_true, decide_eq_true_eq, Bool.not_eq_true', Bool.not_eq_false', Bool.or_eq_false_iff, decide_eq_false_iff_not] at h9; omega) | (have h9 := hb2; simp only [kd_box, kd_glue, kd_pen, kd_hyp, kd_forced, kd_note, kd_label, kd_page, Bool.or_eq_true, Bool.and_eq_true, decide_eq_true_eq, Bool.not_eq_true', Bool.not_eq_false', Bool.or_eq_false_iff, decide_eq_false_iff_not] at h9; omega) | (have h9 := hi1; simp only [kd_box, kd_glue, kd_pen, kd_hyp, kd_forced, kd_note, kd_label, kd_page, Bool.or_eq_true, Bool.and_eq_true, decide_eq_true_eq, Bool.not_eq_true', Bool.not_eq_false', Bool.or_eq_false_iff, decide_eq_false_iff_not] at h9; omega) | (have h9 := hi2; simp only [kd_box, kd_glue, kd_pen, kd_hyp, kd_forced, kd_note, kd_label, kd_page, Bool.or_eq_true, Bool.and_eq_true, decide_eq_true_eq, Bool.not_eq_true', Bool.not_eq_false', Bool.or_eq_false_iff, decide_eq_false_iff_not] at h9; omega)) (by first | omega | decide +kernel | (simp only [List.length_cons, List.length_nil]; omega) | (have h9 := hb0; simp only [kd_box, kd_glue, kd_pen, kd_hyp, kd_forced, kd_note, kd_label, kd_page, Bool.or_eq_true, Bool.and_eq_true, decide_eq_true_eq, Bool.not_eq_true', Bool.not_eq_false', Bool.or_eq_false_iff, decide_eq_false_iff_not] at h9; omega) | (have h9 := hb1; simp only [kd_box, kd_glue, kd_pen, kd_hyp, kd_forced, kd_note, kd_label, kd_page, Bool.or_eq_true, Bool.and_eq_true, decide_eq_true_eq, Bool.not_eq_true', Bool.not_eq_false', Bool.or_eq_false_iff, decide_eq_false_iff_not] at h9; omega) | (have h9 := hb2; simp only [kd_box, kd_glue, kd_pen, kd_hyp, kd_forced, kd_note, kd_label, kd_page, Bool.or_eq_true, Bool.and_eq_true, decide_eq_true_eq, Bool.not_eq_true', Bool.not_eq_false', Bool.or_eq_false_iff, decide_eq_false_iff_not] at h9; omega) | (have h9 := hi1; simp only [kd_box, kd_glue, kd_pen, kd_hyp, kd_forced, kd_note, kd_label, kd_page, Bool.or_eq_true, Bool.and_eq_true, decide_eq_true_eq, Bool.not_eq_true', Bool.not_eq_false', Bool.or_eq_false_iff, decide_eq_false_iff_not] at h9; omega) | (have h9 := hi2; simp only [kd_box, kd_glue, kd_pen, kd_hyp, kd_forced, kd_note, kd_label, kd_page, Bool.or_eq_true, Bool.and_eq_true, decide_eq_true_eq, Bool.not_eq_true', Bool.not_eq_false', Bool.or_eq_false_iff, decide_eq_false_iff_not] at h9; omega))) fun last_6 hlast_6 vlast_6 Hs5 s5 => ?_
      try dsimp only at hlast_6
      refine z_ifx (b := (decide ((Itm.kind last_6) = (PySem.Str.ofString "glue")))) s5 (ht_val (K := K) (hv_eqS (hv_it0 (hv_var (x := last_6) rfl s5.im.1)) (hv_str _))) (fun hb7 Hs8 s8 => ?_) (fun hb7 Hs9 s9 => ?_)
      · have hb7P := hb7
        try simp only [kd_box, kd_glue, kd_pen, kd_hyp, kd_forced, kd_note, kd_label, kd_page, decide_eq_true_eq, decide_eq_false_iff_not, Bool.not_eq_true', Bool.not_eq_false', Bool.and_eq_true, Bool.or_eq_true, Bool.or_eq_false_iff] at hb7P
        have hF10 : m_law_may_end items_ j_ = ((Itm.fr last_6) && ((decide ((1 : Int) < j_)) && (!(m_law_is_blank (items_.getD (Int.toNat (j_ - (2 : Int))) Itm.forced))))) := (by subst hlast_6; first | (simp only [m_law_may_end, hb1, hb7, if_true, if_false, Bool.false_eq_true, decide_true, decide_false, Option.getD_some, Option.isNone_none, Option.isNone_some, Bool.not_true, Bool.not_false, ↓reduceIte]; done) | (rfl; done) | ((unfold m_law_may_end); (dsimp only); (first | rw [ifT hb1] | rw [ifF hb1] | skip); (try dsimp only); (first | rw [ifT hb7] | rw [ifF hb7] | skip); (try dsimp only); first | done | rfl) | (exfalso; simp at hb7; done) | (exfalso; simp at hb1; done))
        exact zq_ret s8 (hv_and (hv_it4 (hv_var (x := last_6) rfl s8.im.1) (by first | omega | (have h9 := hi1; simp only [kd_box, kd_glue, kd_pen, kd_hyp, kd_forced, kd_note, kd_label, kd_page, Bool.or_eq_true, Bool.and_eq_true, decide_eq_true_eq, Bool.not_eq_true', Bool.not_eq_false', Bool.or_eq_false_iff, decide_eq_false_iff_not] at h9; omega) | (have h9 := hi2; simp only [kd_box, kd_glue, kd_pen, kd_hyp, kd_forced, kd_note, kd_label, kd_page, Bool.or_eq_true, Bool.and_eq_true, decide_eq_true_eq, Bool.not_eq_true', Bool.not_eq_false', Bool.or_eq_false_iff, decide_eq_false_iff_not] at h9; omega) | (have h9 := hb0; simp only [kd_box, kd_glue, kd_pen, kd_hyp, kd_forced, kd_note, kd_label, kd_page, Bool.or_eq_true, Bool.and_eq_true, decide_eq_true_eq, Bool.not_eq_true', Bool.not_eq_false', Bool.or_eq_false_iff, decide_eq_false_iff_not] at h9; omega) | (have h9 := hb1; simp only [kd_box, kd_glue, kd_pen, kd_hyp, kd_forced, kd_note, kd_label, kd_page, Bool.or_eq_true, Bool.and_eq_true, decide_eq_true_eq, Bool.not_eq_true', Bool.not_eq_false', Bool.or_eq_false_iff, decide_eq_false_iff_not] at h9; omega) | (have h9 := hb2; simp only [kd_box, kd_glue, kd_pen, kd_hyp, kd_forced, kd_note, kd_label, kd_page, Bool.or_eq_true, Bool.and_eq_true, decide_eq_true_eq, Bool.not_eq_true', Bool.not_eq_false', Bool.or_eq_false_iff, decide_eq_false_iff_not] at h9; omega))) (fun hb0 => (hv_and (hv_gt (hv_vI rfl) (hv_int 1)) (fun hb1 => (hv_not (hv_call (items_.getD (Int.toNat (j_ - (2 : Int))) Itm.forced) (hd_cons (hv_at Itm.forced (hs_of (hv_var (x := items_) rfl s8.im.2.1)) (hv_sub (hv_vI rfl) (hv_int 2)) (by first | omega | decide +kernel | (simp only [List.length_cons, List.length_nil]; omega) | (have h9 := hb0; simp only [kd_box, kd_glue, kd_pen, kd_hyp, kd_forced, kd_note, kd_label, kd_page, Bool.or_eq_true, Bool.and_eq_true, decide_eq_true_eq, Bool.not_eq_true', Bool.not_eq_false', Bool.or_eq_false_iff, decide_eq_false_iff_not] at h9; omega) | (have h9 := hb1; simp only [kd_box, kd_glue, kd_pen, kd_hyp, kd_forced, kd_note, kd_label, kd_page, Bool.or_eq_true, Bool.and_eq_true, decide_eq_true_eq, Bool.not_eq_true', Bool.not_eq_false', Bool.or_eq_false_iff, decide_eq_false_iff_not] at h9; omega) | (have h9 := hb2; simp only [kd_box, kd_glue, kd_pen, kd_hyp, kd_forced, kd_note, kd_label, kd_page, Bool.or_eq_true, Bool.and_eq_true, decide_eq_true_eq, Bool.not_eq_true', Bool.not_eq_false', Bool.or_eq_false_iff, decide_eq_false_iff_not] at h9; omega) | (have h9 := hi1; simp only [kd_box, kd_glue, kd_pen, kd_hyp, kd_forced, kd_note, kd_label, kd_page, Bool.or_eq_true, Bool.and_eq_true, decide_eq_true_eq, Bool.not_eq_true', Bool.not_eq_false', Bool.or_eq_false_iff, decide_eq_false_iff_not] at h9; omega) | (have h9 := hi2; simp only [kd_box, kd_glue, kd_pen, kd_hyp, kd_forced, kd_note, kd_label, kd_page, Bool.or_eq_true, Bool.and_eq_true, decide_eq_true_eq, Bool.not_eq_true', Bool.not_eq_false', Bool.or_eq_false_iff, decide_eq_false_iff_not] at h9; omega)) (by first | omega | decide +kernel | (simp only [List.length_cons, List.length_nil]; omega) | (have h9 := hb0; simp only [kd_box, kd_glue, kd_pen, kd_hyp, kd_forced, kd_note, kd_label, kd_page, Bool.or_eq_true, Bool.and_eq_true, decide_eq_true_eq, Bool.not_eq_true', Bool.not_eq_false', Bool.or_eq_false_iff, decide_eq_false_iff_not] at h9; omega) | (have h9 := hb1; simp only [kd_box, kd_glue, kd_pen, kd_hyp, kd_forced, kd_note, kd_label, kd_page, Bool.or_eq_true, Bool.and_eq_true, decide_eq_true_eq, Bool.not_eq_true', Bool.not_eq_false', Bool.or_eq_false_iff, decide_eq_false_iff_not] at h9; omega) | (have h9 := hb2; simp only [kd_box, kd_glue, kd_pen, kd_hyp, kd_forced, kd_note, kd_label, kd_page, Bool.or_eq_true, Bool.and_eq_true, decide_eq_true_eq, Bool.not_eq_true', Bool.not_eq_false', Bool.or_eq_false_iff, decide_eq_false_iff_not] at h9; omega) | (have h9 := hi1; simp only [kd_box, kd_glue, kd_pen, kd_hyp, kd_forced, kd_note, kd_label, kd_page, Bool.or_eq_true, Bool.and_eq_true, decide_eq_true_eq, Bool.not_eq_true', Bool.not_eq_false', Bool.or_eq_false_iff, decide_eq_false_iff_not] at h9; omega) | (have h9 := hi2; simp only [kd_box, kd_glue, kd_pen, kd_hyp, kd_forced, kd_note, kd_label, kd_page, Bool.or_eq_true, Bool.and_eq_true, decide_eq_true_eq, Bool.not_eq_true', Bool.not_eq_false', Bool.or_eq_false_iff, decide_eq_false_iff_not] at h9; omega))) hd_nil) True.intro)))))) fun v H' e d => q v H' e (by rw [hF10]; exact d)
      · have hb7P := hb7
        try simp only [kd_box, kd_glue, kd_pen, kd_hyp, kd_forced, kd_note, kd_label, kd_page, decide_eq_true_eq, decide_eq_false_iff_not, Bool.not_eq_true', Bool.not_eq_false', Bool.and_eq_true, Bool.or_eq_true, Bool.or_eq_false_iff] at hb7P
        have hF11 : m_law_may_end items_ j_ = (decide ((Itm.kind last_6) = (PySem.Str.ofString "penalty")) || decide ((Itm.kind last_6) = (PySem.Str.ofString "hyphen")) || decide ((Itm.kind last_6) = (PySem.Str.ofString "forced"))) := (by subst hlast_6; first | (simp only [m_law_may_end, hb1, hb7, if_true, if_false, Bool.false_eq_true, decide_true, decide_false, Option.getD_some, Option.isNone_none, Option.isNone_some, Bool.not_true, Bool.not_false, ↓reduceIte]; done) | (rfl; done) | ((unfold m_law_may_end); (dsimp only); (first | rw [ifT hb1] | rw [ifF hb1] | skip); (try dsimp only); (first | rw [ifT hb7] | rw [ifF hb7] | skip); (try dsimp only); first | done | rfl) | (exfalso; simp at hb7; done) | (exfalso; simp at hb1; done))
        exact zq_ret s9 ((hv_inTS (hv_it0 (hv_var (x := last_6) rfl s9.im.1)) (has_cons (hv_str _) (has_cons (hv_str _) (has_cons (hv_str _) has_nil))) (Nat.le_of_ble_eq_true rfl)).is (show _ = (decide ((Itm.kind last_6) = (PySem.Str.ofString "penalty")) || decide ((Itm.kind last_6) = (PySem.Str.ofString "hyphen")) || decide ((Itm.kind last_6) = (PySem.Str.ofString "forced"))) by simp [Bool.or_assoc])) fun v H' e d => q v H' e (by rw [hF11]; exact d)
theorem end_same {its : List Itm} {j : Int} (h1 : 1 ≤ j) (h2 : j ≤ (its.length : Int)) : m_is_line_end its j = m_law_may_end its j := by
  unfold m_is_line_end m_law_may_end
  rw [if_neg (by simp; omega)]
  dsimp only
  by_cases q : j = (its.length : Int)
  · rw [if_pos (by simp [q]), if_pos (by simp [q])]
  · simp only [kd_glue, kd_pen, kd_hyp, kd_forced]
    have hb : m_is_blank (its.getD (j - 2).toNat Itm.forced) = m_law_is_blank (its.getD (j - 2).toNat Itm.forced) := rfl
    rw [hb, show decide (2 ≤ j) = decide (1 < j) from decide_eq_decide.mpr (by omega), decide_eq_false q]
    generalize its.getD (j - 1).toNat Itm.forced = it
    generalize (decide (1 < j) && !m_law_is_blank (its.getD (j - 2).toNat Itm.forced)) = z
    by_cases g : it.tag = 1
    · rw [decide_eq_true g, decide_eq_false (show ¬ it.tag = 2 by omega), decide_eq_false (show ¬ it.tag = 3 by omega), decide_eq_false (show ¬ it.tag = 4 by omega)]
      generalize it.fr = f
      cases f <;> cases z <;> rfl
    · rw [decide_eq_false g]
      generalize it.fr = f
      generalize decide (it.tag = 2) = p2
      generalize decide (it.tag = 3) = p3
      generalize decide (it.tag = 4) = p4
      cases p2 <;> cases p3 <;> cases p4 <;> rfl

def m_Measures___init__ (items_ : (List Itm)) : Cl_Measures :=
  let self_parts_ : (Tup Itm) := (Tup.mk items_)
  let self_count_ : Int := ((items_).length : Int)
  let self__widths_ : (List Int) := (m_sums_of (List.map (fun (c_ : Itm) => (m_width_of_item c_)) items_))
  let self__stretches_ : (List Int) := (m_sums_of (List.map (fun (c_ : Itm) => (m_stretch_of_item c_)) items_))
  let self__shrinks_ : (List Int) := (m_sums_of (List.map (fun (c_ : Itm) => (m_shrink_of_item c_)) items_))
  let self__ends_ : (List Bool) := (List.map (fun (c_ : Int) => (m_is_line_end items_ c_)) (irng (0 : Int) (Int.toNat (self_count_ + (1 : Int)))))
  let none_ : Int := (self_count_ + (1 : Int))
  let self__next_end_ : (List Int) := (m_first_from self__ends_ none_)
  let self__next_forced_ : (List Int) := (m_first_from (List.map (fun (c_ : Itm) => (decide ((Itm.kind c_) = (PySem.Str.ofString "forced")))) items_) none_)
  let self__next_solid_ : (List Int) := (m_first_from (List.map (fun (c_ : Itm) => (decide ((Itm.kind c_) = (PySem.Str.ofString "box")) || decide ((Itm.kind c_) = (PySem.Str.ofString "page")))) items_) none_)
  let self__first_kept_ : (List Int) := (m_first_from (List.map (fun (c_ : Itm) => (!(m_is_blank c_))) items_) self_count_)
  let self__kept_before_ : (List Int) := (m_kept_before items_)
  (Cl_Measures.mk self_parts_ self_count_ self__widths_ self__stretches_ self__shrinks_ self__ends_ self__next_end_ self__next_forced_ self__next_solid_ self__first_kept_ self__kept_before_)
abbrev s_Measures___init__ : Stmt := (inClass (topS 12) 0)
theorem sc_Measures___init__ : FnScope ["self", "items", "item", "position", "none"] ["self", "items"] (defScope s_Measures___init__) := ⟨rfl, rfl, rfl, by decide +kernel, rfl, by decide +kernel, by decide +kernel⟩
abbrev sp_Measures___init__ (K : PySem.W.Frag) : Sp := PrI K (PySem.Str.ofString "Measures") (fun c : (List Itm) => [Dx.toX c]) (fun c => c.length ≤ 1000) (fun c => (m_Measures___init__ c : Cl_Measures))
theorem ok_Measures___init__ (T : Txt K mg) : FnOk P w K mg base CX0 3 T.f_Measures___init__ T.d_Measures___init__ ["self", "items"] (sp_Measures___init__ K) := by
  refine T.u_Measures___init__.ok sc_Measures___init__ (fun vs H Q E h => ?_) (fun cdv A outer s H vs Q E hr h => ?_)
  · obtain ⟨Mc, p_, C_, dx_, ws_, c, rfl, mok, np_, tns_, hp_, da, pre, q⟩ := h
    exact congrArg (· + 1) (dpa_len da)
  · obtain ⟨Mc, p_, C_, dx_, ws_, c, rfl, mok, np_, tns_, hp_, da, pre, q⟩ := h
    cases T.c_Measures.one tns_
    obtain ⟨items_, rfl⟩ : ∃ z, z = c := ⟨c, rfl⟩
    dsimp only at da pre q
    obtain ⟨v0, w0, rfl, d0, da0⟩ := dpa_inv da
    cases dpa_inv0 da0
    have s0 : Sg K Mc (msk [p_] H) H [(v0, Dx.toX items_)] [(p_, .ins T.C_Measures dx_ [])] := Sg.enterI mok np_ hp_ ⟨d0, True.intro⟩
    refine ⟨_, (pss_cons (ps_fld (pv 0) (pe_callTy call_tuple_of (by rfl) T.n_tuple (by decide +kernel) (pa_cons (pv 1) pa_nil)) rfl) (pss_cons (ps_fld (pv 0) (pe_callB call_len (by rfl) T.n_len (by decide +kernel) (pa_cons (pv 1) pa_nil)) rfl) (pss_cons (ps_fld (pv 0) (pe_call (ok_sums_of T) (hr.mono (by decide)) (by rfl) T.g_sums_of T.u_sums_of.kp T.b_sums_of .nil pass0 (pa_cons (pe_lc (own := [("item", 2)]) (g := gName 2) rfl sc_Measures___init__.nd (pi_list (pv 1)) (blkOk_by (own := [("item", 2)]) (N := ["self", "items", "item", "position", "none"]) (sc := defScope s_Measures___init__) (by decide +kernel)) (fun _ _ _ _ _ => (pg_name (i := 2) sc_Measures___init__.nd rfl (Or.inl rfl) (.inr (by rfl)))) (fun _ _ _ _ _ => pts_nil) (fun _ _ _ _ _ => (pe_call (ok_width_of_item T) (hr.mono (by decide)) (by rfl) T.g_width_of_item T.u_width_of_item.kp T.b_width_of_item .nil pass0 (pa_cons (pv 2) pa_nil)))) pa_nil)) rfl) (pss_cons (ps_fld (pv 0) (pe_call (ok_sums_of T) (hr.mono (by decide)) (by rfl) T.g_sums_of T.u_sums_of.kp T.b_sums_of .nil pass0 (pa_cons (pe_lc (own := [("item", 2)]) (g := gName 2) rfl sc_Measures___init__.nd (pi_list (pv 1)) (blkOk_by (own := [("item", 2)]) (N := ["self", "items", "item", "position", "none"]) (sc := defScope s_Measures___init__) (by decide +kernel)) (fun _ _ _ _ _ => (pg_name (i := 2) sc_Measures___init__.nd rfl (Or.inl rfl) (.inr (by rfl)))) (fun _ _ _ _ _ => pts_nil) (fun _ _ _ _ _ => (pe_call (ok_stretch_of_item T) (hr.mono (by decide)) (by rfl) T.g_stretch_of_item T.u_stretch_of_item.kp T.b_stretch_of_item .nil pass0 (pa_cons (pv 2) pa_nil)))) pa_nil)) rfl) (pss_cons (ps_fld (pv 0) (pe_call (ok_sums_of T) (hr.mono (by decide)) (by rfl) T.g_sums_of T.u_sums_of.kp T.b_sums_of .nil pass0 (pa_cons (pe_lc (own := [("item", 2)]) (g := gName 2) rfl sc_Measures___init__.nd (pi_list (pv 1)) (blkOk_by (own := [("item", 2)]) (N := ["self", "items", "item", "position", "none"]) (sc := defScope s_Measures___init__) (by decide +kernel)) (fun _ _ _ _ _ => (pg_name (i := 2) sc_Measures___init__.nd rfl (Or.inl rfl) (.inr (by rfl)))) (fun _ _ _ _ _ => pts_nil) (fun _ _ _ _ _ => (pe_call (ok_shrink_of_item T) (hr.mono (by decide)) (by rfl) T.g_shrink_of_item T.u_shrink_of_item.kp T.b_shrink_of_item .nil pass0 (pa_cons (pv 2) pa_nil)))) pa_nil)) rfl) (pss_cons (ps_fld (pv 0) (pe_lc (own := [("position", 3)]) (g := gName 3) rfl sc_Measures___init__.nd (pi_range1 (by rfl) T.n_range (pa_cons (pe_op op_add (pe_fld (pv 0) rfl) pe_int) pa_nil)) (blkOk_by (own := [("position", 3)]) (N := ["self", "items", "item", "position", "none"]) (sc := defScope s_Measures___init__) (by decide +kernel)) (fun _ _ _ _ _ => (pg_name (i := 3) sc_Measures___init__.nd rfl (Or.inl rfl) (.inr (by rfl)))) (fun _ _ _ _ _ => pts_nil) (fun _ _ _ _ _ => (pe_call (ok_is_line_end T) hr (by rfl) T.g_is_line_end T.u_is_line_end.kp T.b_is_line_end .nil pass0 (pa_cons (pv 1) (pa_cons (pv 3) pa_nil))))) rfl) (pss_cons (ps_set (i := 4) sc_Measures___init__.nd rfl (.inl rfl) (pe_op op_add (pe_fld (pv 0) rfl) pe_int)) (pss_cons (ps_fld (pv 0) (pe_call (ok_first_from T) (hr.mono (by decide)) (by rfl) T.g_first_from T.u_first_from.kp T.b_first_from .nil pass0 (pa_cons (pe_fld (pv 0) rfl) (pa_cons (pv 4) pa_nil))) rfl) (pss_cons (ps_fld (pv 0) (pe_call (ok_first_from T) (hr.mono (by decide)) (by rfl) T.g_first_from T.u_first_from.kp T.b_first_from .nil pass0 (pa_cons (pe_lc (own := [("item", 2)]) (g := gName 2) rfl sc_Measures___init__.nd (pi_list (pv 1)) (blkOk_by (own := [("item", 2)]) (N := ["self", "items", "item", "position", "none"]) (sc := defScope s_Measures___init__) (by decide +kernel)) (fun _ _ _ _ _ => (pg_name (i := 2) sc_Measures___init__.nd rfl (Or.inl rfl) (.inr (by rfl)))) (fun _ _ _ _ _ => pts_nil) (fun _ _ _ _ _ => (pe_cmpR op_eq (pe_ix (show IxR _ (rIxT K) from ix_tup) (pv 2) pe_int (fun _ _ => rfl)) pe_str (nomark _)))) (pa_cons (pv 4) pa_nil))) rfl) (pss_cons (ps_fld (pv 0) (pe_call (ok_first_from T) (hr.mono (by decide)) (by rfl) T.g_first_from T.u_first_from.kp T.b_first_from .nil pass0 (pa_cons (pe_lc (own := [("item", 2)]) (g := gName 2) rfl sc_Measures___init__.nd (pi_list (pv 1)) (blkOk_by (own := [("item", 2)]) (N := ["self", "items", "item", "position", "none"]) (sc := defScope s_Measures___init__) (by decide +kernel)) (fun _ _ _ _ _ => (pg_name (i := 2) sc_Measures___init__.nd rfl (Or.inl rfl) (.inr (by rfl)))) (fun _ _ _ _ _ => pts_nil) (fun _ _ _ _ _ => (pe_cmpR (show OpR _ _ (rIn K false) from op_in_seq) (pe_ix (show IxR _ (rIxT K) from ix_tup) (pv 2) pe_int (fun _ _ => rfl)) (pe_glob (v := .ref T.a_SOLID_KINDS) rfl T.g_SOLID_KINDS rfl) (by rfl)))) (pa_cons (pv 4) pa_nil))) rfl) (pss_cons (ps_fld (pv 0) (pe_call (ok_first_from T) (hr.mono (by decide)) (by rfl) T.g_first_from T.u_first_from.kp T.b_first_from .nil pass0 (pa_cons (pe_lc (own := [("item", 2)]) (g := gName 2) rfl sc_Measures___init__.nd (pi_list (pv 1)) (blkOk_by (own := [("item", 2)]) (N := ["self", "items", "item", "position", "none"]) (sc := defScope s_Measures___init__) (by decide +kernel)) (fun _ _ _ _ _ => (pg_name (i := 2) sc_Measures___init__.nd rfl (Or.inl rfl) (.inr (by rfl)))) (fun _ _ _ _ _ => pts_nil) (fun _ _ _ _ _ => (pe_not (pe_call (ok_is_blank T) (hr.mono (by decide)) (by rfl) T.g_is_blank T.u_is_blank.kp T.b_is_blank .nil pass0 (pa_cons (pv 2) pa_nil))))) (pa_cons (pe_fld (pv 0) rfl) pa_nil))) rfl) (pss_cons (ps_fld (pv 0) (pe_call (ok_kept_before T) hr (by rfl) T.g_kept_before T.u_kept_before.kp T.b_kept_before .nil pass0 (pa_cons (pv 1) pa_nil)) rfl) pss_nil)))))))))))), ?_⟩
    refine z_fldG s0 (k := 0) rfl T.c_Measures T.na_Measures_parts (hv_tupleOf (hs_of (hv_var (x := items_) rfl s0.im.1))) (ev_var rfl) (Nat.le_of_ble_eq_true rfl) (show PySem.Str.ofString "parts" ∉ ([] : List PySem.Str) by decide +kernel) fun self_parts_2 hself_parts_2 Hs1 s1 => ?_
    try dsimp only at hself_parts_2
    have s1 : Sg K Mc _ _ _ [(p_, .ins T.C_Measures dx_ [(PySem.Str.ofString "parts", Dx.toX self_parts_2)])] := s1
    refine z_fldG s1 (k := 0) rfl T.c_Measures T.na_Measures_count (hv_len (hs_of (hv_var (x := items_) rfl s1.im.1))) (ev_var rfl) (Nat.le_of_ble_eq_true rfl) (show PySem.Str.ofString "count" ∉ ([PySem.Str.ofString "parts"] : List PySem.Str) by decide +kernel) fun self_count_4 hself_count_4 Hs3 s3 => ?_
    try dsimp only at hself_count_4
    have s3 : Sg K Mc _ _ _ [(p_, .ins T.C_Measures dx_ [(PySem.Str.ofString "parts", Dx.toX self_parts_2), (PySem.Str.ofString "count", Dx.toX self_count_4)])] := s3
    refine z_fldG s3 (k := 0) rfl T.c_Measures T.na_Measures__widths (hv_call (List.map (fun (c_ : Itm) => (m_width_of_item c_)) items_) (hd_cons (hv_lcL0 s3 (fun (c_ : Itm) => (m_width_of_item c_)) (hv_var (x := items_) rfl s3.im.1) (by first | omega | decide +kernel | (simp only [List.length_cons, List.length_nil]; omega) | (have h9 := hb0; simp only [kd_box, kd_glue, kd_pen, kd_hyp, kd_forced, kd_note, kd_label, kd_page, Bool.or_eq_true, Bool.and_eq_true, decide_eq_true_eq, Bool.not_eq_true', Bool.not_eq_false', Bool.or_eq_false_iff, decide_eq_false_iff_not] at h9; omega) | (have h9 := hb1; simp only [kd_box, kd_glue, kd_pen, kd_hyp, kd_forced, kd_note, kd_label, kd_page, Bool.or_eq_true, Bool.and_eq_true, decide_eq_true_eq, Bool.not_eq_true', Bool.not_eq_false', Bool.or_eq_false_iff, decide_eq_false_iff_not] at h9; omega) | (have h9 := hb2; simp only [kd_box, kd_glue, kd_pen, kd_hyp, kd_forced, kd_note, kd_label, kd_page, Bool.or_eq_true, Bool.and_eq_true, decide_eq_true_eq, Bool.not_eq_true', Bool.not_eq_false', Bool.or_eq_false_iff, decide_eq_false_iff_not] at h9; omega) | (have h9 := hi1; simp only [kd_box, kd_glue, kd_pen, kd_hyp, kd_forced, kd_note, kd_label, kd_page, Bool.or_eq_true, Bool.and_eq_true, decide_eq_true_eq, Bool.not_eq_true', Bool.not_eq_false', Bool.or_eq_false_iff, decide_eq_false_iff_not] at h9; omega) | (have h9 := hi2; simp only [kd_box, kd_glue, kd_pen, kd_hyp, kd_forced, kd_note, kd_label, kd_page, Bool.or_eq_true, Bool.and_eq_true, decide_eq_true_eq, Bool.not_eq_true', Bool.not_eq_false', Bool.or_eq_false_iff, decide_eq_false_iff_not] at h9; omega)) (fun D8 src12 c9 w10 ys11 Hs7 s7 hx13 Q k => by exact k _ rfl (hv_call c9 (hd_cons (hv_var (x := c9) rfl s7.im.1) hd_nil) True.intro))) hd_nil) (by simp only [List.length_map]; omega)) (ev_var rfl) (Nat.le_of_ble_eq_true rfl) (show PySem.Str.ofString "_widths" ∉ ([PySem.Str.ofString "parts", PySem.Str.ofString "count"] : List PySem.Str) by decide +kernel) fun self__widths_6 hself__widths_6 Hs5 s5 => ?_
    try dsimp only at hself__widths_6
    have s5 : Sg K Mc _ _ _ [(p_, .ins T.C_Measures dx_ [(PySem.Str.ofString "parts", Dx.toX self_parts_2), (PySem.Str.ofString "count", Dx.toX self_count_4), (PySem.Str.ofString "_widths", Dx.toX self__widths_6)])] := s5
    refine z_fldG s5 (k := 0) rfl T.c_Measures T.na_Measures__stretches (hv_call (List.map (fun (c_ : Itm) => (m_stretch_of_item c_)) items_) (hd_cons (hv_lcL0 s5 (fun (c_ : Itm) => (m_stretch_of_item c_)) (hv_var (x := items_) rfl s5.im.1) (by first | omega | decide +kernel | (simp only [List.length_cons, List.length_nil]; omega) | (have h9 := hb0; simp only [kd_box, kd_glue, kd_pen, kd_hyp, kd_forced, kd_note, kd_label, kd_page, Bool.or_eq_true, Bool.and_eq_true, decide_eq_true_eq, Bool.not_eq_true', Bool.not_eq_false', Bool.or_eq_false_iff, decide_eq_false_iff_not] at h9; omega) | (have h9 := hb1; simp only [kd_box, kd_glue, kd_pen, kd_hyp, kd_forced, kd_note, kd_label, kd_page, Bool.or_eq_true, Bool.and_eq_true, decide_eq_true_eq, Bool.not_eq_true', Bool.not_eq_false', Bool.or_eq_false_iff, decide_eq_false_iff_not] at h9; omega) | (have h9 := hb2; simp only [kd_box, kd_glue, kd_pen, kd_hyp, kd_forced, kd_note, kd_label, kd_page, Bool.or_eq_true, Bool.and_eq_true, decide_eq_true_eq, Bool.not_eq_true', Bool.not_eq_false', Bool.or_eq_false_iff, decide_eq_false_iff_not] at h9; omega) | (have h9 := hi1; simp only [kd_box, kd_glue, kd_pen, kd_hyp, kd_forced, kd_note, kd_label, kd_page, Bool.or_eq_true, Bool.and_eq_true, decide_eq_true_eq, Bool.not_eq_true', Bool.not_eq_false', Bool.or_eq_false_iff, decide_eq_false_iff_not] at h9; omega) | (have h9 := hi2; simp only [kd_box, kd_glue, kd_pen, kd_hyp, kd_forced, kd_note, kd_label, kd_page, Bool.or_eq_true, Bool.and_eq_true, decide_eq_true_eq, Bool.not_eq_true', Bool.not_eq_false', Bool.or_eq_false_iff, decide_eq_false_iff_not] at h9; omega)) (fun D18 src22 c19 w20 ys21 Hs17 s17 hx23 Q k => by exact k _ rfl (hv_call c19 (hd_cons (hv_var (x := c19) rfl s17.im.1) hd_nil) True.intro))) hd_nil) (by simp only [List.length_map]; omega)) (ev_var rfl) (Nat.le_of_ble_eq_true rfl) (show PySem.Str.ofString "_stretches" ∉ ([PySem.Str.ofString "parts", PySem.Str.ofString "count", PySem.Str.ofString "_widths"] : List PySem.Str) by decide +kernel) fun self__stretches_16 hself__stretches_16 Hs15 s15 => ?_
    try dsimp only at hself__stretches_16
    have s15 : Sg K Mc _ _ _ [(p_, .ins T.C_Measures dx_ [(PySem.Str.ofString "parts", Dx.toX self_parts_2), (PySem.Str.ofString "count", Dx.toX self_count_4), (PySem.Str.ofString "_widths", Dx.toX self__widths_6), (PySem.Str.ofString "_stretches", Dx.toX self__stretches_16)])] := s15
    refine z_fldG s15 (k := 0) rfl T.c_Measures T.na_Measures__shrinks (hv_call (List.map (fun (c_ : Itm) => (m_shrink_of_item c_)) items_) (hd_cons (hv_lcL0 s15 (fun (c_ : Itm) => (m_shrink_of_item c_)) (hv_var (x := items_) rfl s15.im.1) (by first | omega | decide +kernel | (simp only [List.length_cons, List.length_nil]; omega) | (have h9 := hb0; simp only [kd_box, kd_glue, kd_pen, kd_hyp, kd_forced, kd_note, kd_label, kd_page, Bool.or_eq_true, Bool.and_eq_true, decide_eq_true_eq, Bool.not_eq_true', Bool.not_eq_false', Bool.or_eq_false_iff, decide_eq_false_iff_not] at h9; omega) | (have h9 := hb1; simp only [kd_box, kd_glue, kd_pen, kd_hyp, kd_forced, kd_note, kd_label, kd_page, Bool.or_eq_true, Bool.and_eq_true, decide_eq_true_eq, Bool.not_eq_true', Bool.not_eq_false', Bool.or_eq_false_iff, decide_eq_false_iff_not] at h9; omega) | (have h9 := hb2; simp only [kd_box, kd_glue, kd_pen, kd_hyp, kd_forced, kd_note, kd_label, kd_page, Bool.or_eq_true, Bool.and_eq_true, decide_eq_true_eq, Bool.not_eq_true', Bool.not_eq_false', Bool.or_eq_false_iff, decide_eq_false_iff_not] at h9; omega) | (have h9 := hi1; simp only [kd_box, kd_glue, kd_pen, kd_hyp, kd_forced, kd_note, kd_label, kd_page, Bool.or_eq_true, Bool.and_eq_true, decide_eq_true_eq, Bool.not_eq_true', Bool.not_eq_false', Bool.or_eq_false_iff, decide_eq_false_iff_not] at h9; omega) | (have h9 := hi2; simp only [kd_box, kd_glue, kd_pen, kd_hyp, kd_forced, kd_note, kd_label, kd_page, Bool.or_eq_true, Bool.and_eq_true, decide_eq_true_eq, Bool.not_eq_true', Bool.not_eq_false', Bool.or_eq_false_iff, decide_eq_false_iff_not] at h9; omega)) (fun D28 src32 c29 w30 ys31 Hs27 s27 hx33 Q k => by exact k _ rfl (hv_call c29 (hd_cons (hv_var (x := c29) rfl s27.im.1) hd_nil) True.intro))) hd_nil) (by simp only [List.length_map]; omega)) (ev_var rfl) (Nat.le_of_ble_eq_true rfl) (show PySem.Str.ofString "_shrinks" ∉ ([PySem.Str.ofString "parts", PySem.Str.ofString "count", PySem.Str.ofString "_widths", PySem.Str.ofString "_stretches"] : List PySem.Str) by decide +kernel) fun self__shrinks_26 hself__shrinks_26 Hs25 s25 => ?_
    try dsimp only at hself__shrinks_26
    have s25 : Sg K Mc _ _ _ [(p_, .ins T.C_Measures dx_ [(PySem.Str.ofString "parts", Dx.toX self_parts_2), (PySem.Str.ofString "count", Dx.toX self_count_4), (PySem.Str.ofString "_widths", Dx.toX self__widths_6), (PySem.Str.ofString "_stretches", Dx.toX self__stretches_16), (PySem.Str.ofString "_shrinks", Dx.toX self__shrinks_26)])] := s25
    refine z_fldG s25 (k := 0) rfl T.c_Measures T.na_Measures__ends (hv_lcR0 s25 (fun (c_ : Int) => (m_is_line_end items_ c_)) (hv_add (hv_fldM (x := self_count_4) 1 s25 (k := 0) rfl T.c_Measures T.na_Measures_count (ev_var rfl) (show List.Nodup ([PySem.Str.ofString "parts", PySem.Str.ofString "count", PySem.Str.ofString "_widths", PySem.Str.ofString "_stretches", PySem.Str.ofString "_shrinks"] : List PySem.Str) by decide +kernel) rfl) (hv_int 1)) (by first | omega | decide +kernel | (simp only [List.length_cons, List.length_nil]; omega) | (have h9 := hb0; simp only [kd_box, kd_glue, kd_pen, kd_hyp, kd_forced, kd_note, kd_label, kd_page, Bool.or_eq_true, Bool.and_eq_true, decide_eq_true_eq, Bool.not_eq_true', Bool.not_eq_false', Bool.or_eq_false_iff, decide_eq_false_iff_not] at h9; omega) | (have h9 := hb1; simp only [kd_box, kd_glue, kd_pen, kd_hyp, kd_forced, kd_note, kd_label, kd_page, Bool.or_eq_true, Bool.and_eq_true, decide_eq_true_eq, Bool.not_eq_true', Bool.not_eq_false', Bool.or_eq_false_iff, decide_eq_false_iff_not] at h9; omega) | (have h9 := hb2; simp only [kd_box, kd_glue, kd_pen, kd_hyp, kd_forced, kd_note, kd_label, kd_page, Bool.or_eq_true, Bool.and_eq_true, decide_eq_true_eq, Bool.not_eq_true', Bool.not_eq_false', Bool.or_eq_false_iff, decide_eq_false_iff_not] at h9; omega) | (have h9 := hi1; simp only [kd_box, kd_glue, kd_pen, kd_hyp, kd_forced, kd_note, kd_label, kd_page, Bool.or_eq_true, Bool.and_eq_true, decide_eq_true_eq, Bool.not_eq_true', Bool.not_eq_false', Bool.or_eq_false_iff, decide_eq_false_iff_not] at h9; omega) | (have h9 := hi2; simp only [kd_box, kd_glue, kd_pen, kd_hyp, kd_forced, kd_note, kd_label, kd_page, Bool.or_eq_true, Bool.and_eq_true, decide_eq_true_eq, Bool.not_eq_true', Bool.not_eq_false', Bool.or_eq_false_iff, decide_eq_false_iff_not] at h9; omega)) (fun D38 c39 ys41 Hs37 s37 hx43 Q k => by exact k _ rfl (hv_call (items_, c39) (hd_cons (hv_var (x := items_) rfl s37.im.1) (hd_cons (hv_vI rfl) hd_nil)) True.intro))) (ev_var rfl) (Nat.le_of_ble_eq_true rfl) (show PySem.Str.ofString "_ends" ∉ ([PySem.Str.ofString "parts", PySem.Str.ofString "count", PySem.Str.ofString "_widths", PySem.Str.ofString "_stretches", PySem.Str.ofString "_shrinks"] : List PySem.Str) by decide +kernel) fun self__ends_36 hself__ends_36 Hs35 s35 => ?_
    try dsimp only at hself__ends_36
    have s35 : Sg K Mc _ _ _ [(p_, .ins T.C_Measures dx_ [(PySem.Str.ofString "parts", Dx.toX self_parts_2), (PySem.Str.ofString "count", Dx.toX self_count_4), (PySem.Str.ofString "_widths", Dx.toX self__widths_6), (PySem.Str.ofString "_stretches", Dx.toX self__stretches_16), (PySem.Str.ofString "_shrinks", Dx.toX self__shrinks_26), (PySem.Str.ofString "_ends", Dx.toX self__ends_36)])] := s35
    have lself__ends_36 : self__ends_36.length = items_.length + 1 := by rw [hself__ends_36, List.length_map, irng_len]; omega
    refine z_asgIG s35 (hv_add (hv_fldM (x := self_count_4) 1 s35 (k := 0) rfl T.c_Measures T.na_Measures_count (ev_var rfl) (show List.Nodup ([PySem.Str.ofString "parts", PySem.Str.ofString "count", PySem.Str.ofString "_widths", PySem.Str.ofString "_stretches", PySem.Str.ofString "_shrinks", PySem.Str.ofString "_ends"] : List PySem.Str) by decide +kernel) rfl) (hv_int 1)) fun none_46 hnone_46 Hs45 s45 => ?_
    try dsimp only at hnone_46
    refine z_fldG s45 (k := 0) rfl T.c_Measures T.na_Measures__next_end (hv_call (self__ends_36, none_46) (hd_cons (hv_fldM (x := self__ends_36) 5 s45 (k := 0) rfl T.c_Measures T.na_Measures__ends (ev_var rfl) (show List.Nodup ([PySem.Str.ofString "parts", PySem.Str.ofString "count", PySem.Str.ofString "_widths", PySem.Str.ofString "_stretches", PySem.Str.ofString "_shrinks", PySem.Str.ofString "_ends"] : List PySem.Str) by decide +kernel) rfl) (hd_cons (hv_vI rfl) hd_nil)) (by first | omega | (simp only [List.length_map]; omega))) (ev_var rfl) (Nat.le_of_ble_eq_true rfl) (show PySem.Str.ofString "_next_end" ∉ ([PySem.Str.ofString "parts", PySem.Str.ofString "count", PySem.Str.ofString "_widths", PySem.Str.ofString "_stretches", PySem.Str.ofString "_shrinks", PySem.Str.ofString "_ends"] : List PySem.Str) by decide +kernel) fun self__next_end_48 hself__next_end_48 Hs47 s47 => ?_
    try dsimp only at hself__next_end_48
    have s47 : Sg K Mc _ _ _ [(p_, .ins T.C_Measures dx_ [(PySem.Str.ofString "parts", Dx.toX self_parts_2), (PySem.Str.ofString "count", Dx.toX self_count_4), (PySem.Str.ofString "_widths", Dx.toX self__widths_6), (PySem.Str.ofString "_stretches", Dx.toX self__stretches_16), (PySem.Str.ofString "_shrinks", Dx.toX self__shrinks_26), (PySem.Str.ofString "_ends", Dx.toX self__ends_36), (PySem.Str.ofString "_next_end", Dx.toX self__next_end_48)])] := s47
    refine z_fldG s47 (k := 0) rfl T.c_Measures T.na_Measures__next_forced (hv_call ((List.map (fun (c_ : Itm) => (decide ((Itm.kind c_) = (PySem.Str.ofString "forced")))) items_), none_46) (hd_cons (hv_lcL0 s47 (fun (c_ : Itm) => (decide ((Itm.kind c_) = (PySem.Str.ofString "forced")))) (hv_var (x := items_) rfl s47.im.1) (by first | omega | decide +kernel | (simp only [List.length_cons, List.length_nil]; omega) | (have h9 := hb0; simp only [kd_box, kd_glue, kd_pen, kd_hyp, kd_forced, kd_note, kd_label, kd_page, Bool.or_eq_true, Bool.and_eq_true, decide_eq_true_eq, Bool.not_eq_true', Bool.not_eq_false', Bool.or_eq_false_iff, decide_eq_false_iff_not] at h9; omega) | (have h9 := hb1; simp only [kd_box, kd_glue, kd_pen, kd_hyp, kd_forced, kd_note, kd_label, kd_page, Bool.or_eq_true, Bool.and_eq_true, decide_eq_true_eq, Bool.not_eq_true', Bool.not_eq_false', Bool.or_eq_false_iff, decide_eq_false_iff_not] at h9; omega) | (have h9 := hb2; simp only [kd_box, kd_glue, kd_pen, kd_hyp, kd_forced, kd_note, kd_label, kd_page, Bool.or_eq_true, Bool.and_eq_true, decide_eq_true_eq, Bool.not_eq_true', Bool.not_eq_false', Bool.or_eq_false_iff, decide_eq_false_iff_not] at h9; omega) | (have h9 := hi1; simp only [kd_box, kd_glue, kd_pen, kd_hyp, kd_forced, kd_note, kd_label, kd_page, Bool.or_eq_true, Bool.and_eq_true, decide_eq_true_eq, Bool.not_eq_true', Bool.not_eq_false', Bool.or_eq_false_iff, decide_eq_false_iff_not] at h9; omega) | (have h9 := hi2; simp only [kd_box, kd_glue, kd_pen, kd_hyp, kd_forced, kd_note, kd_label, kd_page, Bool.or_eq_true, Bool.and_eq_true, decide_eq_true_eq, Bool.not_eq_true', Bool.not_eq_false', Bool.or_eq_false_iff, decide_eq_false_iff_not] at h9; omega)) (fun D52 src56 c53 w54 ys55 Hs51 s51 hx57 Q k => by exact k _ rfl (hv_eqS (hv_it0 (hv_var (x := c53) rfl s51.im.1)) (hv_str _)))) (hd_cons (hv_vI rfl) hd_nil)) (by first | omega | (simp only [List.length_map]; omega))) (ev_var rfl) (Nat.le_of_ble_eq_true rfl) (show PySem.Str.ofString "_next_forced" ∉ ([PySem.Str.ofString "parts", PySem.Str.ofString "count", PySem.Str.ofString "_widths", PySem.Str.ofString "_stretches", PySem.Str.ofString "_shrinks", PySem.Str.ofString "_ends", PySem.Str.ofString "_next_end"] : List PySem.Str) by decide +kernel) fun self__next_forced_50 hself__next_forced_50 Hs49 s49 => ?_
    try dsimp only at hself__next_forced_50
    have s49 : Sg K Mc _ _ _ [(p_, .ins T.C_Measures dx_ [(PySem.Str.ofString "parts", Dx.toX self_parts_2), (PySem.Str.ofString "count", Dx.toX self_count_4), (PySem.Str.ofString "_widths", Dx.toX self__widths_6), (PySem.Str.ofString "_stretches", Dx.toX self__stretches_16), (PySem.Str.ofString "_shrinks", Dx.toX self__shrinks_26), (PySem.Str.ofString "_ends", Dx.toX self__ends_36), (PySem.Str.ofString "_next_end", Dx.toX self__next_end_48), (PySem.Str.ofString "_next_forced", Dx.toX self__next_forced_50)])] := s49
    refine z_fldG s49 (k := 0) rfl T.c_Measures T.na_Measures__next_solid (hv_call ((List.map (fun (c_ : Itm) => (decide ((Itm.kind c_) = (PySem.Str.ofString "box")) || decide ((Itm.kind c_) = (PySem.Str.ofString "page")))) items_), none_46) (hd_cons (hv_lcL0 s49 (fun (c_ : Itm) => (decide ((Itm.kind c_) = (PySem.Str.ofString "box")) || decide ((Itm.kind c_) = (PySem.Str.ofString "page")))) (hv_var (x := items_) rfl s49.im.1) (by first | omega | decide +kernel | (simp only [List.length_cons, List.length_nil]; omega) | (have h9 := hb0; simp only [kd_box, kd_glue, kd_pen, kd_hyp, kd_forced, kd_note, kd_label, kd_page, Bool.or_eq_true, Bool.and_eq_true, decide_eq_true_eq, Bool.not_eq_true', Bool.not_eq_false', Bool.or_eq_false_iff, decide_eq_false_iff_not] at h9; omega) | (have h9 := hb1; simp only [kd_box, kd_glue, kd_pen, kd_hyp, kd_forced, kd_note, kd_label, kd_page, Bool.or_eq_true, Bool.and_eq_true, decide_eq_true_eq, Bool.not_eq_true', Bool.not_eq_false', Bool.or_eq_false_iff, decide_eq_false_iff_not] at h9; omega) | (have h9 := hb2; simp only [kd_box, kd_glue, kd_pen, kd_hyp, kd_forced, kd_note, kd_label, kd_page, Bool.or_eq_true, Bool.and_eq_true, decide_eq_true_eq, Bool.not_eq_true', Bool.not_eq_false', Bool.or_eq_false_iff, decide_eq_false_iff_not] at h9; omega) | (have h9 := hi1; simp only [kd_box, kd_glue, kd_pen, kd_hyp, kd_forced, kd_note, kd_label, kd_page, Bool.or_eq_true, Bool.and_eq_true, decide_eq_true_eq, Bool.not_eq_true', Bool.not_eq_false', Bool.or_eq_false_iff, decide_eq_false_iff_not] at h9; omega) | (have h9 := hi2; simp only [kd_box, kd_glue, kd_pen, kd_hyp, kd_forced, kd_note, kd_label, kd_page, Bool.or_eq_true, Bool.and_eq_true, decide_eq_true_eq, Bool.not_eq_true', Bool.not_eq_false', Bool.or_eq_false_iff, decide_eq_false_iff_not] at h9; omega)) (fun D62 src66 c63 w64 ys65 Hs61 s61 hx67 Q k => by exact k _ rfl ((hv_inVS false (hv_it0 (hv_var (x := c63) rfl s61.im.1)) (hv_gtup T.q_SOLID_KINDS)).is (show _ = (decide ((Itm.kind c63) = (PySem.Str.ofString "box")) || decide ((Itm.kind c63) = (PySem.Str.ofString "page"))) by simp [Bool.or_assoc])))) (hd_cons (hv_vI rfl) hd_nil)) (by first | omega | (simp only [List.length_map]; omega))) (ev_var rfl) (Nat.le_of_ble_eq_true rfl) (show PySem.Str.ofString "_next_solid" ∉ ([PySem.Str.ofString "parts", PySem.Str.ofString "count", PySem.Str.ofString "_widths", PySem.Str.ofString "_stretches", PySem.Str.ofString "_shrinks", PySem.Str.ofString "_ends", PySem.Str.ofString "_next_end", PySem.Str.ofString "_next_forced"] : List PySem.Str) by decide +kernel) fun self__next_solid_60 hself__next_solid_60 Hs59 s59 => ?_
    try dsimp only at hself__next_solid_60
    have s59 : Sg K Mc _ _ _ [(p_, .ins T.C_Measures dx_ [(PySem.Str.ofString "parts", Dx.toX self_parts_2), (PySem.Str.ofString "count", Dx.toX self_count_4), (PySem.Str.ofString "_widths", Dx.toX self__widths_6), (PySem.Str.ofString "_stretches", Dx.toX self__stretches_16), (PySem.Str.ofString "_shrinks", Dx.toX self__shrinks_26), (PySem.Str.ofString "_ends", Dx.toX self__ends_36), (PySem.Str.ofString "_next_end", Dx.toX self__next_end_48), (PySem.Str.ofString "_next_forced", Dx.toX self__next_forced_50), (PySem.Str.ofString "_next_solid", Dx.toX self__next_solid_60)])] := s59
    refine z_fldG s59 (k := 0) rfl T.c_Measures T.na_Measures__first_kept (hv_call ((List.map (fun (c_ : Itm) => (!(m_is_blank c_))) items_), self_count_4) (hd_cons (hv_lcL0 s59 (fun (c_ : Itm) => (!(m_is_blank c_))) (hv_var (x := items_) rfl s59.im.1) (by first | omega | decide +kernel | (simp only [List.length_cons, List.length_nil]; omega) | (have h9 := hb0; simp only [kd_box, kd_glue, kd_pen, kd_hyp, kd_forced, kd_note, kd_label, kd_page, Bool.or_eq_true, Bool.and_eq_true, decide_eq_true_eq, Bool.not_eq_true', Bool.not_eq_false', Bool.or_eq_false_iff, decide_eq_false_iff_not] at h9; omega) | (have h9 := hb1; simp only [kd_box, kd_glue, kd_pen, kd_hyp, kd_forced, kd_note, kd_label, kd_page, Bool.or_eq_true, Bool.and_eq_true, decide_eq_true_eq, Bool.not_eq_true', Bool.not_eq_false', Bool.or_eq_false_iff, decide_eq_false_iff_not] at h9; omega) | (have h9 := hb2; simp only [kd_box, kd_glue, kd_pen, kd_hyp, kd_forced, kd_note, kd_label, kd_page, Bool.or_eq_true, Bool.and_eq_true, decide_eq_true_eq, Bool.not_eq_true', Bool.not_eq_false', Bool.or_eq_false_iff, decide_eq_false_iff_not] at h9; omega) | (have h9 := hi1; simp only [kd_box, kd_glue, kd_pen, kd_hyp, kd_forced, kd_note, kd_label, kd_page, Bool.or_eq_true, Bool.and_eq_true, decide_eq_true_eq, Bool.not_eq_true', Bool.not_eq_false', Bool.or_eq_false_iff, decide_eq_false_iff_not] at h9; omega) | (have h9 := hi2; simp only [kd_box, kd_glue, kd_pen, kd_hyp, kd_forced, kd_note, kd_label, kd_page, Bool.or_eq_true, Bool.and_eq_true, decide_eq_true_eq, Bool.not_eq_true', Bool.not_eq_false', Bool.or_eq_false_iff, decide_eq_false_iff_not] at h9; omega)) (fun D72 src76 c73 w74 ys75 Hs71 s71 hx77 Q k => by exact k _ rfl (hv_not (hv_call c73 (hd_cons (hv_var (x := c73) rfl s71.im.1) hd_nil) True.intro)))) (hd_cons (hv_fldM (x := self_count_4) 1 s59 (k := 0) rfl T.c_Measures T.na_Measures_count (ev_var rfl) (show List.Nodup ([PySem.Str.ofString "parts", PySem.Str.ofString "count", PySem.Str.ofString "_widths", PySem.Str.ofString "_stretches", PySem.Str.ofString "_shrinks", PySem.Str.ofString "_ends", PySem.Str.ofString "_next_end", PySem.Str.ofString "_next_forced", PySem.Str.ofString "_next_solid"] : List PySem.Str) by decide +kernel) rfl) hd_nil)) (by first | omega | (simp only [List.length_map]; omega))) (ev_var rfl) (Nat.le_of_ble_eq_true rfl) (show PySem.Str.ofString "_first_kept" ∉ ([PySem.Str.ofString "parts", PySem.Str.ofString "count", PySem.Str.ofString "_widths", PySem.Str.ofString "_stretches", PySem.Str.ofString "_shrinks", PySem.Str.ofString "_ends", PySem.Str.ofString "_next_end", PySem.Str.ofString "_next_forced", PySem.Str.ofString "_next_solid"] : List PySem.Str) by decide +kernel) fun self__first_kept_70 hself__first_kept_70 Hs69 s69 => ?_
    try dsimp only at hself__first_kept_70
    have s69 : Sg K Mc _ _ _ [(p_, .ins T.C_Measures dx_ [(PySem.Str.ofString "parts", Dx.toX self_parts_2), (PySem.Str.ofString "count", Dx.toX self_count_4), (PySem.Str.ofString "_widths", Dx.toX self__widths_6), (PySem.Str.ofString "_stretches", Dx.toX self__stretches_16), (PySem.Str.ofString "_shrinks", Dx.toX self__shrinks_26), (PySem.Str.ofString "_ends", Dx.toX self__ends_36), (PySem.Str.ofString "_next_end", Dx.toX self__next_end_48), (PySem.Str.ofString "_next_forced", Dx.toX self__next_forced_50), (PySem.Str.ofString "_next_solid", Dx.toX self__next_solid_60), (PySem.Str.ofString "_first_kept", Dx.toX self__first_kept_70)])] := s69
    refine z_fldG s69 (k := 0) rfl T.c_Measures T.na_Measures__kept_before (hv_call items_ (hd_cons (hv_var (x := items_) rfl s69.im.1) hd_nil) (by first | omega | (dsimp only; omega) | (subst_vars; omega) | decide +kernel)) (ev_var rfl) (Nat.le_of_ble_eq_true rfl) (show PySem.Str.ofString "_kept_before" ∉ ([PySem.Str.ofString "parts", PySem.Str.ofString "count", PySem.Str.ofString "_widths", PySem.Str.ofString "_stretches", PySem.Str.ofString "_shrinks", PySem.Str.ofString "_ends", PySem.Str.ofString "_next_end", PySem.Str.ofString "_next_forced", PySem.Str.ofString "_next_solid", PySem.Str.ofString "_first_kept"] : List PySem.Str) by decide +kernel) fun self__kept_before_80 hself__kept_before_80 Hs79 s79 => ?_
    try dsimp only at hself__kept_before_80
    have s79 : Sg K Mc _ _ _ [(p_, .ins T.C_Measures dx_ [(PySem.Str.ofString "parts", Dx.toX self_parts_2), (PySem.Str.ofString "count", Dx.toX self_count_4), (PySem.Str.ofString "_widths", Dx.toX self__widths_6), (PySem.Str.ofString "_stretches", Dx.toX self__stretches_16), (PySem.Str.ofString "_shrinks", Dx.toX self__shrinks_26), (PySem.Str.ofString "_ends", Dx.toX self__ends_36), (PySem.Str.ofString "_next_end", Dx.toX self__next_end_48), (PySem.Str.ofString "_next_forced", Dx.toX self__next_forced_50), (PySem.Str.ofString "_next_solid", Dx.toX self__next_solid_60), (PySem.Str.ofString "_first_kept", Dx.toX self__first_kept_70), (PySem.Str.ofString "_kept_before", Dx.toX self__kept_before_80)])] := s79
    have hF_ : m_Measures___init__ items_ = (Cl_Measures.mk self_parts_2 self_count_4 self__widths_6 self__stretches_16 self__shrinks_26 self__ends_36 self__next_end_48 self__next_forced_50 self__next_solid_60 self__first_kept_70 self__kept_before_80) := (by subst hself__kept_before_80; subst hself__first_kept_70; subst hself__next_solid_60; subst hself__next_forced_50; subst hself__next_end_48; subst hnone_46; subst hself__ends_36; subst hself__shrinks_26; subst hself__stretches_16; subst hself__widths_6; subst hself_count_4; subst hself_parts_2; first | (simp only [m_Measures___init__, if_true, if_false, Bool.false_eq_true, decide_true, decide_false, Option.getD_some, Option.isNone_none, Option.isNone_some, Bool.not_true, Bool.not_false, ↓reduceIte]; done) | (rfl; done) | ((unfold m_Measures___init__); (dsimp only); first | done | rfl))
    have sz_ := Sg.frzI (m_Measures___init__ items_) T.c_Measures (by rw [hF_]; rfl) s79
    exact q _ sz_.all sz_.im.1
theorem sums_tab (xs : List Int) : m_sums_of xs = (List.range (xs.length + 1)).map (fun j => (xs.take j).sum) := by
  unfold m_sums_of
  dsimp only
  have key := foldl_seq (f := m_sums_of_l0) xs (fun i => (List.range (i + 1)).map (fun j => (xs.take j).sum)) (fun i x hx => by
    unfold m_sums_of_l0
    dsimp only
    rw [tab_last, ← tab_snoc, take_snoc hx, List.sum_append]
    simp)
  exact key
theorem ff_tab (marks : List Bool) (b : Int) : m_first_from marks b = ((List.range (marks.length + 1)).map (wv marks b)).reverse := by
  unfold m_first_from
  dsimp only
  congr 1
  have key := loopN_seq (f := fun (s_ : (List Int)) (i_ : Int) => (m_first_from_l0 marks) s_ (((marks).length : Int) - 1 - i_)) (fun i => (List.range (i + 1)).map (wv marks b)) 0 (Int.toNat ((marks).length : Int)) (fun i hi => by
    unfold m_first_from_l0
    dsimp only
    rw [tab_last, ← tab_snoc]
    have e : (marks.length : Int) - 1 - (0 + (i : Int)) = ((marks.length - (i + 1) : Nat) : Int) := by omega
    rw [e, Int.toNat_natCast]
    rfl)
  rw [Int.toNat_natCast] at key
  rw [Int.toNat_natCast]
  exact key
theorem ff_len (marks : List Bool) (b : Int) : (m_first_from marks b).length = marks.length + 1 := by rw [ff_tab, List.length_reverse, tab_len]
theorem ff_at (marks : List Bool) (b : Int) {j : Nat} (h : j ≤ marks.length) : First marks b j ((m_first_from marks b).getD j 0) := by
  rw [ff_tab, tab_rev _ _ h]
  have := wv_first marks b (marks.length - j) (by omega)
  rwa [show marks.length - (marks.length - j) = j by omega] at this
theorem ff_nn (marks : List Bool) {b : Int} (hb : 0 ≤ b) : ∀ x ∈ m_first_from marks b, 0 ≤ x := fun x hx => by
  obtain ⟨i, hi, e⟩ := List.mem_iff_getElem.mp hx
  have hl := ff_len marks b
  have := ff_at marks b (j := i) (by omega)
  rw [List.getD_eq_getElem?_getD, List.getElem?_eq_getElem hi, Option.getD_some, e] at this
  rcases this with ⟨rfl, _⟩ | ⟨k, rfl, _⟩
  · exact hb
  · omega
theorem kept_tab (its : List Itm) : m_kept_before its = (List.range (its.length + 1)).map (kb (fun i => !m_is_blank (its.getD i Itm.forced))) := by
  unfold m_kept_before
  dsimp only
  have key := foldl_seq (f := m_kept_before_l0) (enumL its) (fun i => (List.range (i + 1)).map (kb (fun i => !m_is_blank (its.getD i Itm.forced)))) (fun i x hx => by
    have hi := (List.getElem?_eq_some_iff.mp hx).1
    rw [enumL_len] at hi
    have e := enumL_get (getD_get Itm.forced hi)
    rw [e] at hx
    cases hx
    unfold m_kept_before_l0
    dsimp only
    rw [tab_last, ← tab_snoc]
    congr 2
    show _ = if (!m_is_blank (its.getD i Itm.forced)) = true then ((i : Nat) : Int) + 1 else kb _ i
    by_cases q : m_is_blank (its.getD i Itm.forced) = true
    · rw [if_pos q, q]; rfl
    · have q' : m_is_blank (its.getD i Itm.forced) = false := by rwa [Bool.not_eq_true] at q
      rw [q']; rfl)
  rw [enumL_len] at key
  exact key
theorem ff_bd (marks : List Bool) : ∀ x ∈ m_first_from marks (marks.length : Int), 0 ≤ x ∧ x ≤ (marks.length : Int) := fun x hx => by
  obtain ⟨i, hi, e⟩ := List.mem_iff_getElem.mp hx
  have hl := ff_len marks (marks.length : Int)
  have := ff_at marks (marks.length : Int) (j := i) (by omega)
  rw [List.getD_eq_getElem?_getD, List.getElem?_eq_getElem hi, Option.getD_some, e] at this
  rcases this with ⟨rfl, _⟩ | ⟨k, rfl, _⟩ <;> omega
theorem kb_bd (its : List Itm) : ∀ x ∈ m_kept_before its, 0 ≤ x ∧ x ≤ (its.length : Int) := fun x hx => by
  rw [kept_tab] at hx
  obtain ⟨j, hj, rfl⟩ := List.mem_map.mp hx
  have := List.mem_range.mp hj
  rcases kb_last (fun i => !m_is_blank (its.getD i Itm.forced)) j with ⟨e, _⟩ | ⟨k, e, h, _⟩ <;> rw [e] <;> omega
theorem ms_ok (its : List Itm) : MsOk (m_Measures___init__ its) := by
  have c1 : ∀ xs : List Int, ((m_sums_of xs).length : Int) = (xs.length : Int) + 1 := fun xs => by rw [sums_tab, tab_len]; omega
  have c2 : ∀ (ms : List Bool) (b : Int), ((m_first_from ms b).length : Int) = (ms.length : Int) + 1 := fun ms b => by rw [ff_len]; omega
  have nn : (0 : Int) ≤ (its.length : Int) + 1 := by omega
  constructor
  · exact Int.natCast_nonneg _
  · rfl
  · refine (c1 _).trans ?_; rw [List.length_map]; rfl
  · refine (c1 _).trans ?_; rw [List.length_map]; rfl
  · refine (c1 _).trans ?_; rw [List.length_map]; rfl
  · show (((irng 0 (Int.toNat ((its.length : Int) + 1))).map (fun c => m_is_line_end its c)).length : Int) = (its.length : Int) + 1
    rw [List.length_map, irng_len]; omega
  · refine (c2 _ _).trans ?_
    show (((irng 0 (Int.toNat ((its.length : Int) + 1))).map (fun c => m_is_line_end its c)).length : Int) + 1 = (its.length : Int) + 2
    rw [List.length_map, irng_len]; omega
  · refine (c2 _ _).trans ?_; rw [List.length_map]; rfl
  · refine (c2 _ _).trans ?_; rw [List.length_map]; rfl
  · refine (c2 _ _).trans ?_; rw [List.length_map]; rfl
  · show ((m_kept_before its).length : Int) = (its.length : Int) + 1
    rw [kept_tab, tab_len]; omega
  · exact ff_nn _ nn
  · exact ff_nn _ nn
  · exact ff_nn _ nn
  · have := ff_bd (its.map (fun c => !m_is_blank c))
    rw [List.length_map] at this
    exact this
  · exact kb_bd its

/-- made of items with small numbers -/
def GoodM (o : Cl_Measures) : Prop := ∃ its : List Itm, o = m_Measures___init__ its ∧ its.length ≤ 1000 ∧ ∀ i ∈ its, ItOk i
theorem GoodM.ok {o : Cl_Measures} (h : GoodM o) : MsOk o := by obtain ⟨its, rfl, _⟩ := h; exact ms_ok its

theorem good_cnt {o : Cl_Measures} (h : GoodM o) : o.f_count ≤ 1000 := by
  obtain ⟨its, rfl, hl, _⟩ := h
  show (its.length : Int) ≤ 1000
  omega

def m_Measures_measure (self_ : Cl_Measures) (start_ : Int) (end_ : Int) : (T3 Int Int Int) :=
  let p66_ : (Int × Int) := (m_Measures_bounds self_ start_ end_)
  let first_ : Int := p66_.1
  let last_ : Int := p66_.2
  (T3.mk ((((self_.f__widths).getD (Int.toNat last_) 0) - ((self_.f__widths).getD (Int.toNat first_) 0)) + (m_Measures_hyphen_width self_ end_)) (((self_.f__stretches).getD (Int.toNat last_) 0) - ((self_.f__stretches).getD (Int.toNat first_) 0)) (((self_.f__shrinks).getD (Int.toNat last_) 0) - ((self_.f__shrinks).getD (Int.toNat first_) 0)))
abbrev s_Measures_measure : Stmt := (inClass (topS 12) 5)
theorem sc_Measures_measure : FnScope ["self", "start", "end", "first", "last"] ["self", "start", "end"] (defScope s_Measures_measure) := ⟨rfl, rfl, rfl, by decide +kernel, rfl, by decide +kernel, by decide +kernel⟩
abbrev sp_Measures_measure (K : PySem.W.Frag) : Sp := PrD K (fun c : Cl_Measures × Int × Int => [Dx.toX c.1, Dx.toX c.2.1, Dx.toX c.2.2]) (fun c => MsOk c.1 ∧ 0 ≤ c.2.1 ∧ c.2.1 ≤ c.2.2 ∧ c.2.2 ≤ c.1.f_count) (fun c => (m_Measures_measure c.1 c.2.1 c.2.2 : (T3 Int Int Int)))
theorem ok_Measures_measure (T : Txt K mg) : FnOk P w K mg base CX0 3 T.f_Measures_measure T.d_Measures_measure ["self", "start", "end"] (sp_Measures_measure K) := by
  refine T.u_Measures_measure.ok sc_Measures_measure (fun vs H Q E h => ?_) (fun cdv A outer s H vs Q E hr h => ?_)
  · obtain ⟨Mc, c, mok, da, pre, q⟩ := h
    exact (dpa_len da)
  · obtain ⟨Mc, c, mok, da, pre, q⟩ := h
    obtain ⟨self_, start_, end_⟩ := c
    dsimp only at da pre q
    obtain ⟨v0, w0, rfl, d0, da0⟩ := dpa_inv da
    obtain ⟨v1, w1, rfl, d1, da1⟩ := dpa_inv da0
    obtain ⟨v2, w2, rfl, d2, da2⟩ := dpa_inv da1
    cases dpa_inv0 da2
    cases (Dt.int d1)
    cases (Dt.int d2)
    have s0 : Sg K Mc H H [(v0, Dx.toX self_)] [] := Sg.enter mok ⟨d0, True.intro⟩
    have ok := pre.1
    have ok0 := ok.cnt
    have ok1 := ok.prt
    have ok2 := ok.wid
    have ok3 := ok.str
    have ok4 := ok.shr
    have ok5 := ok.eds
    have ok6 := ok.nen
    have ok7 := ok.nfo
    have ok8 := ok.nso
    have ok9 := ok.fke
    have oka := ok.kbe
    refine ⟨_, (pss_cons (ps_asg (pe_meth (pv 0) T.c_Measures.cl T.mt_Measures_bounds (ok_Measures_bounds T) (hr.mono (by decide)) T.b_Measures_bounds .nil pass0 (pa_cons (pv 1) (pa_cons (pv 2) pa_nil))) (pg_tup rfl (pgs_cons (pg_name (i := 3) sc_Measures_measure.nd rfl (.inl rfl)) (pgs_cons (pg_name (i := 4) sc_Measures_measure.nd rfl (.inl rfl)) pgs_nil)))) (pss_cons (ps_ret (pe_tup (pa_cons (pe_op op_add (pe_op op_sub (pe_ix ix_list (pe_fld (pv 0) rfl) (pv 4) (fun _ _ => rfl)) (pe_ix ix_list (pe_fld (pv 0) rfl) (pv 3) (fun _ _ => rfl))) (pe_meth (pv 0) T.c_Measures.cl T.mt_Measures_hyphen_width (ok_Measures_hyphen_width T) hr T.b_Measures_hyphen_width .nil pass0 (pa_cons (pv 2) pa_nil))) (pa_cons (pe_op op_sub (pe_ix ix_list (pe_fld (pv 0) rfl) (pv 4) (fun _ _ => rfl)) (pe_ix ix_list (pe_fld (pv 0) rfl) (pv 3) (fun _ _ => rfl))) (pa_cons (pe_op op_sub (pe_ix ix_list (pe_fld (pv 0) rfl) (pv 4) (fun _ _ => rfl)) (pe_ix ix_list (pe_fld (pv 0) rfl) (pv 3) (fun _ _ => rfl))) pa_nil))))) pss_nil)), ?_⟩
    refine z_unp2 s0 (hv_meth (self_, start_, end_) (hv_var (x := self_) rfl s0.im.1) T.c_Measures rfl (by decide +kernel) (hd_cons (hv_vI rfl) (hd_cons (hv_vI rfl) hd_nil)) rfl (by (try dsimp only); exact ⟨pre.1, pre.2.1, by omega, pre.2.2.2⟩)) fun first_2 last_3 hp4 vfirst_2 vlast_3 Hs1 s1 => ?_
    try dsimp only at hp4
    have bb := bounds_ok pre.1 pre.2.1 pre.2.2.1 pre.2.2.2
    rw [← hp4] at bb
    dsimp only at bb
    cases (Dt.int s1.im.1)
    cases (Dt.int s1.im.2.1)
    have hF5 : m_Measures_measure self_ start_ end_ = (T3.mk ((((self_.f__widths).getD (Int.toNat last_3) 0) - ((self_.f__widths).getD (Int.toNat first_2) 0)) + (m_Measures_hyphen_width self_ end_)) (((self_.f__stretches).getD (Int.toNat last_3) 0) - ((self_.f__stretches).getD (Int.toNat first_2) 0)) (((self_.f__shrinks).getD (Int.toNat last_3) 0) - ((self_.f__shrinks).getD (Int.toNat first_2) 0))) := (by  first | (simp only [m_Measures_measure, ← hp4, if_true, if_false, Bool.false_eq_true, decide_true, decide_false, Option.getD_some, Option.isNone_none, Option.isNone_some, Bool.not_true, Bool.not_false, ↓reduceIte]; done) | (rfl; done) | ((unfold m_Measures_measure); (dsimp only); (first | rw [← hp4] | skip); (try dsimp only); first | done | rfl))
    exact zq_ret s1 (hv_tup3 (hv_add (hv_sub (hv_at 0 (hs_of (hv_fld (x := (self_.f__widths)) 2 (hv_var (x := self_) rfl s1.im.2.2.1) T.c_Measures T.na_Measures__widths rfl nd_Measures rfl rfl)) (hv_vI rfl) (by first | omega | decide +kernel | (simp only [List.length_cons, List.length_nil]; omega) | (have h9 := hb0; simp only [kd_box, kd_glue, kd_pen, kd_hyp, kd_forced, kd_note, kd_label, kd_page, Bool.or_eq_true, Bool.and_eq_true, decide_eq_true_eq, Bool.not_eq_true', Bool.not_eq_false', Bool.or_eq_false_iff, decide_eq_false_iff_not] at h9; omega) | (have h9 := hb1; simp only [kd_box, kd_glue, kd_pen, kd_hyp, kd_forced, kd_note, kd_label, kd_page, Bool.or_eq_true, Bool.and_eq_true, decide_eq_true_eq, Bool.not_eq_true', Bool.not_eq_false', Bool.or_eq_false_iff, decide_eq_false_iff_not] at h9; omega) | (have h9 := hb2; simp only [kd_box, kd_glue, kd_pen, kd_hyp, kd_forced, kd_note, kd_label, kd_page, Bool.or_eq_true, Bool.and_eq_true, decide_eq_true_eq, Bool.not_eq_true', Bool.not_eq_false', Bool.or_eq_false_iff, decide_eq_false_iff_not] at h9; omega) | (have h9 := hi1; simp only [kd_box, kd_glue, kd_pen, kd_hyp, kd_forced, kd_note, kd_label, kd_page, Bool.or_eq_true, Bool.and_eq_true, decide_eq_true_eq, Bool.not_eq_true', Bool.not_eq_false', Bool.or_eq_false_iff, decide_eq_false_iff_not] at h9; omega) | (have h9 := hi2; simp only [kd_box, kd_glue, kd_pen, kd_hyp, kd_forced, kd_note, kd_label, kd_page, Bool.or_eq_true, Bool.and_eq_true, decide_eq_true_eq, Bool.not_eq_true', Bool.not_eq_false', Bool.or_eq_false_iff, decide_eq_false_iff_not] at h9; omega)) (by first | omega | decide +kernel | (simp only [List.length_cons, List.length_nil]; omega) | (have h9 := hb0; simp only [kd_box, kd_glue, kd_pen, kd_hyp, kd_forced, kd_note, kd_label, kd_page, Bool.or_eq_true, Bool.and_eq_true, decide_eq_true_eq, Bool.not_eq_true', Bool.not_eq_false', Bool.or_eq_false_iff, decide_eq_false_iff_not] at h9; omega) | (have h9 := hb1; simp only [kd_box, kd_glue, kd_pen, kd_hyp, kd_forced, kd_note, kd_label, kd_page, Bool.or_eq_true, Bool.and_eq_true, decide_eq_true_eq, Bool.not_eq_true', Bool.not_eq_false', Bool.or_eq_false_iff, decide_eq_false_iff_not] at h9; omega) | (have h9 := hb2; simp only [kd_box, kd_glue, kd_pen, kd_hyp, kd_forced, kd_note, kd_label, kd_page, Bool.or_eq_true, Bool.and_eq_true, decide_eq_true_eq, Bool.not_eq_true', Bool.not_eq_false', Bool.or_eq_false_iff, decide_eq_false_iff_not] at h9; omega) | (have h9 := hi1; simp only [kd_box, kd_glue, kd_pen, kd_hyp, kd_forced, kd_note, kd_label, kd_page, Bool.or_eq_true, Bool.and_eq_true, decide_eq_true_eq, Bool.not_eq_true', Bool.not_eq_false', Bool.or_eq_false_iff, decide_eq_false_iff_not] at h9; omega) | (have h9 := hi2; simp only [kd_box, kd_glue, kd_pen, kd_hyp, kd_forced, kd_note, kd_label, kd_page, Bool.or_eq_true, Bool.and_eq_true, decide_eq_true_eq, Bool.not_eq_true', Bool.not_eq_false', Bool.or_eq_false_iff, decide_eq_false_iff_not] at h9; omega))) (hv_at 0 (hs_of (hv_fld (x := (self_.f__widths)) 2 (hv_var (x := self_) rfl s1.im.2.2.1) T.c_Measures T.na_Measures__widths rfl nd_Measures rfl rfl)) (hv_vI rfl) (by first | omega | decide +kernel | (simp only [List.length_cons, List.length_nil]; omega) | (have h9 := hb0; simp only [kd_box, kd_glue, kd_pen, kd_hyp, kd_forced, kd_note, kd_label, kd_page, Bool.or_eq_true, Bool.and_eq_true, decide_eq_true_eq, Bool.not_eq_true', Bool.not_eq_false', Bool.or_eq_false_iff, decide_eq_false_iff_not] at h9; omega) | (have h9 := hb1; simp only [kd_box, kd_glue, kd_pen, kd_hyp, kd_forced, kd_note, kd_label, kd_page, Bool.or_eq_true, Bool.and_eq_true, decide_eq_true_eq, Bool.not_eq_true', Bool.not_eq_false', Bool.or_eq_false_iff, decide_eq_false_iff_not] at h9; omega) | (have h9 := hb2; simp only [kd_box, kd_glue, kd_pen, kd_hyp, kd_forced, kd_note, kd_label, kd_page, Bool.or_eq_true, Bool.and_eq_true, decide_eq_true_eq, Bool.not_eq_true', Bool.not_eq_false', Bool.or_eq_false_iff, decide_eq_false_iff_not] at h9; omega) | (have h9 := hi1; simp only [kd_box, kd_glue, kd_pen, kd_hyp, kd_forced, kd_note, kd_label, kd_page, Bool.or_eq_true, Bool.and_eq_true, decide_eq_true_eq, Bool.not_eq_true', Bool.not_eq_false', Bool.or_eq_false_iff, decide_eq_false_iff_not] at h9; omega) | (have h9 := hi2; simp only [kd_box, kd_glue, kd_pen, kd_hyp, kd_forced, kd_note, kd_label, kd_page, Bool.or_eq_true, Bool.and_eq_true, decide_eq_true_eq, Bool.not_eq_true', Bool.not_eq_false', Bool.or_eq_false_iff, decide_eq_false_iff_not] at h9; omega)) (by first | omega | decide +kernel | (simp only [List.length_cons, List.length_nil]; omega) | (have h9 := hb0; simp only [kd_box, kd_glue, kd_pen, kd_hyp, kd_forced, kd_note, kd_label, kd_page, Bool.or_eq_true, Bool.and_eq_true, decide_eq_true_eq, Bool.not_eq_true', Bool.not_eq_false', Bool.or_eq_false_iff, decide_eq_false_iff_not] at h9; omega) | (have h9 := hb1; simp only [kd_box, kd_glue, kd_pen, kd_hyp, kd_forced, kd_note, kd_label, kd_page, Bool.or_eq_true, Bool.and_eq_true, decide_eq_true_eq, Bool.not_eq_true', Bool.not_eq_false', Bool.or_eq_false_iff, decide_eq_false_iff_not] at h9; omega) | (have h9 := hb2; simp only [kd_box, kd_glue, kd_pen, kd_hyp, kd_forced, kd_note, kd_label, kd_page, Bool.or_eq_true, Bool.and_eq_true, decide_eq_true_eq, Bool.not_eq_true', Bool.not_eq_false', Bool.or_eq_false_iff, decide_eq_false_iff_not] at h9; omega) | (have h9 := hi1; simp only [kd_box, kd_glue, kd_pen, kd_hyp, kd_forced, kd_note, kd_label, kd_page, Bool.or_eq_true, Bool.and_eq_true, decide_eq_true_eq, Bool.not_eq_true', Bool.not_eq_false', Bool.or_eq_false_iff, decide_eq_false_iff_not] at h9; omega) | (have h9 := hi2; simp only [kd_box, kd_glue, kd_pen, kd_hyp, kd_forced, kd_note, kd_label, kd_page, Bool.or_eq_true, Bool.and_eq_true, decide_eq_true_eq, Bool.not_eq_true', Bool.not_eq_false', Bool.or_eq_false_iff, decide_eq_false_iff_not] at h9; omega)))) (hv_meth (self_, end_) (hv_var (x := self_) rfl s1.im.2.2.1) T.c_Measures rfl (by decide +kernel) (hd_cons (hv_vI rfl) hd_nil) rfl (by (try dsimp only); exact ⟨ok, by omega, by omega⟩))) (hv_sub (hv_at 0 (hs_of (hv_fld (x := (self_.f__stretches)) 3 (hv_var (x := self_) rfl s1.im.2.2.1) T.c_Measures T.na_Measures__stretches rfl nd_Measures rfl rfl)) (hv_vI rfl) (by first | omega | decide +kernel | (simp only [List.length_cons, List.length_nil]; omega) | (have h9 := hb0; simp only [kd_box, kd_glue, kd_pen, kd_hyp, kd_forced, kd_note, kd_label, kd_page, Bool.or_eq_true, Bool.and_eq_true, decide_eq_true_eq, Bool.not_eq_true', Bool.not_eq_false', Bool.or_eq_false_iff, decide_eq_false_iff_not] at h9; omega) | (have h9 := hb1; simp only [kd_box, kd_glue, kd_pen, kd_hyp, kd_forced, kd_note, kd_label, kd_page, Bool.or_eq_true, Bool.and_eq_true, decide_eq_true_eq, Bool.not_eq_true', Bool.not_eq_false', Bool.or_eq_false_iff, decide_eq_false_iff_not] at h9; omega) | (have h9 := hb2; simp only [kd_box, kd_glue, kd_pen, kd_hyp, kd_forced, kd_note, kd_label, kd_page, Bool.or_eq_true, Bool.and_eq_true, decide_eq_true_eq, Bool.not_eq_true', Bool.not_eq_false', Bool.or_eq_false_iff, decide_eq_false_iff_not] at h9; omega) | (have h9 := hi1; simp only [kd_box, kd_glue, kd_pen, kd_hyp, kd_forced, kd_note, kd_label, kd_page, Bool.or_eq_true, Bool.and_eq_true, decide_eq_true_eq, Bool.not_eq_true', Bool.not_eq_false', Bool.or_eq_false_iff, decide_eq_false_iff_not] at h9; omega) | (have h9 := hi2; simp only [kd_box, kd_glue, kd_pen, kd_hyp, kd_forced, kd_note, kd_label, kd_page, Bool.or_eq_true, Bool.and_eq_true, decide_eq_true_eq, Bool.not_eq_true', Bool.not_eq_false', Bool.or_eq_false_iff, decide_eq_false_iff_not] at h9; omega)) (by first | omega | decide +kernel | (simp only [List.length_cons, List.length_nil]; omega) | (have h9 := hb0; simp only [kd_box, kd_glue, kd_pen, kd_hyp, kd_forced, kd_note, kd_label, kd_page, Bool.or_eq_true, Bool.and_eq_true, decide_eq_true_eq, Bool.not_eq_true', Bool.not_eq_false', Bool.or_eq_false_iff, decide_eq_false_iff_not] at h9; omega) | (have h9 := hb1; simp only [kd_box, kd_glue, kd_pen, kd_hyp, kd_forced, kd_note, kd_label, kd_page, Bool.or_eq_true, Bool.and_eq_true, decide_eq_true_eq, Bool.not_eq_true', Bool.not_eq_false', Bool.or_eq_false_iff, decide_eq_false_iff_not] at h9; omega) | (have h9 := hb2; simp only [kd_box, kd_glue, kd_pen, kd_hyp, kd_forced, kd_note, kd_label, kd_page, Bool.or_eq_true, Bool.and_eq_true, decide_eq_true_eq, Bool.not_eq_true', Bool.not_eq_false', Bool.or_eq_false_iff, decide_eq_false_iff_not] at h9; omega) | (have h9 := hi1; simp only [kd_box, kd_glue, kd_pen, kd_hyp, kd_forced, kd_note, kd_label, kd_page, Bool.or_eq_true, Bool.and_eq_true, decide_eq_true_eq, Bool.not_eq_true', Bool.not_eq_false', Bool.or_eq_false_iff, decide_eq_false_iff_not] at h9; omega) | (have h9 := hi2; simp only [kd_box, kd_glue, kd_pen, kd_hyp, kd_forced, kd_note, kd_label, kd_page, Bool.or_eq_true, Bool.and_eq_true, decide_eq_true_eq, Bool.not_eq_true', Bool.not_eq_false', Bool.or_eq_false_iff, decide_eq_false_iff_not] at h9; omega))) (hv_at 0 (hs_of (hv_fld (x := (self_.f__stretches)) 3 (hv_var (x := self_) rfl s1.im.2.2.1) T.c_Measures T.na_Measures__stretches rfl nd_Measures rfl rfl)) (hv_vI rfl) (by first | omega | decide +kernel | (simp only [List.length_cons, List.length_nil]; omega) | (have h9 := hb0; simp only [kd_box, kd_glue, kd_pen, kd_hyp, kd_forced, kd_note, kd_label, kd_page, Bool.or_eq_true, Bool.and_eq_true, decide_eq_true_eq, Bool.not_eq_true', Bool.not_eq_false', Bool.or_eq_false_iff, decide_eq_false_iff_not] at h9; omega) | (have h9 := hb1; simp only [kd_box, kd_glue, kd_pen, kd_hyp, kd_forced, kd_note, kd_label, kd_page, Bool.or_eq_true, Bool.and_eq_true, decide_eq_true_eq, Bool.not_eq_true', Bool.not_eq_false', Bool.or_eq_false_iff, decide_eq_false_iff_not] at h9; omega) | (have h9 := hb2; simp only [kd_box, kd_glue, kd_pen, kd_hyp, kd_forced, kd_note, kd_label, kd_page, Bool.or_eq_true, Bool.and_eq_true, decide_eq_true_eq, Bool.not_eq_true', Bool.not_eq_false', Bool.or_eq_false_iff, decide_eq_false_iff_not] at h9; omega) | (have h9 := hi1; simp only [kd_box, kd_glue, kd_pen, kd_hyp, kd_forced, kd_note, kd_label, kd_page, Bool.or_eq_true, Bool.and_eq_true, decide_eq_true_eq, Bool.not_eq_true', Bool.not_eq_false', Bool.or_eq_false_iff, decide_eq_false_iff_not] at h9; omega) | (have h9 := hi2; simp only [kd_box, kd_glue, kd_pen, kd_hyp, kd_forced, kd_note, kd_label, kd_page, Bool.or_eq_true, Bool.and_eq_true, decide_eq_true_eq, Bool.not_eq_true', Bool.not_eq_false', Bool.or_eq_false_iff, decide_eq_false_iff_not] at h9; omega)) (by first | omega | decide +kernel | (simp only [List.length_cons, List.length_nil]; omega) | (have h9 := hb0; simp only [kd_box, kd_glue, kd_pen, kd_hyp, kd_forced, kd_note, kd_label, kd_page, Bool.or_eq_true, Bool.and_eq_true, decide_eq_true_eq, Bool.not_eq_true', Bool.not_eq_false', Bool.or_eq_false_iff, decide_eq_false_iff_not] at h9; omega) | (have h9 := hb1; simp only [kd_box, kd_glue, kd_pen, kd_hyp, kd_forced, kd_note, kd_label, kd_page, Bool.or_eq_true, Bool.and_eq_true, decide_eq_true_eq, Bool.not_eq_true', Bool.not_eq_false', Bool.or_eq_false_iff, decide_eq_false_iff_not] at h9; omega) | (have h9 := hb2; simp only [kd_box, kd_glue, kd_pen, kd_hyp, kd_forced, kd_note, kd_label, kd_page, Bool.or_eq_true, Bool.and_eq_true, decide_eq_true_eq, Bool.not_eq_true', Bool.not_eq_false', Bool.or_eq_false_iff, decide_eq_false_iff_not] at h9; omega) | (have h9 := hi1; simp only [kd_box, kd_glue, kd_pen, kd_hyp, kd_forced, kd_note, kd_label, kd_page, Bool.or_eq_true, Bool.and_eq_true, decide_eq_true_eq, Bool.not_eq_true', Bool.not_eq_false', Bool.or_eq_false_iff, decide_eq_false_iff_not] at h9; omega) | (have h9 := hi2; simp only [kd_box, kd_glue, kd_pen, kd_hyp, kd_forced, kd_note, kd_label, kd_page, Bool.or_eq_true, Bool.and_eq_true, decide_eq_true_eq, Bool.not_eq_true', Bool.not_eq_false', Bool.or_eq_false_iff, decide_eq_false_iff_not] at h9; omega)))) (hv_sub (hv_at 0 (hs_of (hv_fld (x := (self_.f__shrinks)) 4 (hv_var (x := self_) rfl s1.im.2.2.1) T.c_Measures T.na_Measures__shrinks rfl nd_Measures rfl rfl)) (hv_vI rfl) (by first | omega | decide +kernel | (simp only [List.length_cons, List.length_nil]; omega) | (have h9 := hb0; simp only [kd_box, kd_glue, kd_pen, kd_hyp, kd_forced, kd_note, kd_label, kd_page, Bool.or_eq_true, Bool.and_eq_true, decide_eq_true_eq, Bool.not_eq_true', Bool.not_eq_false', Bool.or_eq_false_iff, decide_eq_false_iff_not] at h9; omega) | (have h9 := hb1; simp only [kd_box, kd_glue, kd_pen, kd_hyp, kd_forced, kd_note, kd_label, kd_page, Bool.or_eq_true, Bool.and_eq_true, decide_eq_true_eq, Bool.not_eq_true', Bool.not_eq_false', Bool.or_eq_false_iff, decide_eq_false_iff_not] at h9; omega) | (have h9 := hb2; simp only [kd_box, kd_glue, kd_pen, kd_hyp, kd_forced, kd_note, kd_label, kd_page, Bool.or_eq_true, Bool.and_eq_true, decide_eq_true_eq, Bool.not_eq_true', Bool.not_eq_false', Bool.or_eq_false_iff, decide_eq_false_iff_not] at h9; omega) | (have h9 := hi1; simp only [kd_box, kd_glue, kd_pen, kd_hyp, kd_forced, kd_note, kd_label, kd_page, Bool.or_eq_true, Bool.and_eq_true, decide_eq_true_eq, Bool.not_eq_true', Bool.not_eq_false', Bool.or_eq_false_iff, decide_eq_false_iff_not] at h9; omega) | (have h9 := hi2; simp only [kd_box, kd_glue, kd_pen, kd_hyp, kd_forced, kd_note, kd_label, kd_page, Bool.or_eq_true, Bool.and_eq_true, decide_eq_true_eq, Bool.not_eq_true', Bool.not_eq_false', Bool.or_eq_false_iff, decide_eq_false_iff_not] at h9; omega)) (by first | omega | decide +kernel | (simp only [List.length_cons, List.length_nil]; omega) | (have h9 := hb0; simp only [kd_box, kd_glue, kd_pen, kd_hyp, kd_forced, kd_note, kd_label, kd_page, Bool.or_eq_true, Bool.and_eq_true, decide_eq_true_eq, Bool.not_eq_true', Bool.not_eq_false', Bool.or_eq_false_iff, decide_eq_false_iff_not] at h9; omega) | (have h9 := hb1; simp only [kd_box, kd_glue, kd_pen, kd_hyp, kd_forced, kd_note, kd_label, kd_page, Bool.or_eq_true, Bool.and_eq_true, decide_eq_true_eq, Bool.not_eq_true', Bool.not_eq_false', Bool.or_eq_false_iff, decide_eq_false_iff_not] at h9; omega) | (have h9 := hb2; simp only [kd_box, kd_glue, kd_pen, kd_hyp, kd_forced, kd_note, kd_label, kd_page, Bool.or_eq_true, Bool.and_eq_true, decide_eq_true_eq, Bool.not_eq_true', Bool.not_eq_false', Bool.or_eq_false_iff, decide_eq_false_iff_not] at h9; omega) | (have h9 := hi1; simp only [kd_box, kd_glue, kd_pen, kd_hyp, kd_forced, kd_note, kd_label, kd_page, Bool.or_eq_true, Bool.and_eq_true, decide_eq_true_eq, Bool.not_eq_true', Bool.not_eq_false', Bool.or_eq_false_iff, decide_eq_false_iff_not] at h9; omega) | (have h9 := hi2; simp only [kd_box, kd_glue, kd_pen, kd_hyp, kd_forced, kd_note, kd_label, kd_page, Bool.or_eq_true, Bool.and_eq_true, decide_eq_true_eq, Bool.not_eq_true', Bool.not_eq_false', Bool.or_eq_false_iff, decide_eq_false_iff_not] at h9; omega))) (hv_at 0 (hs_of (hv_fld (x := (self_.f__shrinks)) 4 (hv_var (x := self_) rfl s1.im.2.2.1) T.c_Measures T.na_Measures__shrinks rfl nd_Measures rfl rfl)) (hv_vI rfl) (by first | omega | decide +kernel | (simp only [List.length_cons, List.length_nil]; omega) | (have h9 := hb0; simp only [kd_box, kd_glue, kd_pen, kd_hyp, kd_forced, kd_note, kd_label, kd_page, Bool.or_eq_true, Bool.and_eq_true, decide_eq_true_eq, Bool.not_eq_true', Bool.not_eq_false', Bool.or_eq_false_iff, decide_eq_false_iff_not] at h9; omega) | (have h9 := hb1; simp only [kd_box, kd_glue, kd_pen, kd_hyp, kd_forced, kd_note, kd_label, kd_page, Bool.or_eq_true, Bool.and_eq_true, decide_eq_true_eq, Bool.not_eq_true', Bool.not_eq_false', Bool.or_eq_false_iff, decide_eq_false_iff_not] at h9; omega) | (have h9 := hb2; simp only [kd_box, kd_glue, kd_pen, kd_hyp, kd_forced, kd_note, kd_label, kd_page, Bool.or_eq_true, Bool.and_eq_true, decide_eq_true_eq, Bool.not_eq_true', Bool.not_eq_false', Bool.or_eq_false_iff, decide_eq_false_iff_not] at h9; omega) | (have h9 := hi1; simp only [kd_box, kd_glue, kd_pen, kd_hyp, kd_forced, kd_note, kd_label, kd_page, Bool.or_eq_true, Bool.and_eq_true, decide_eq_true_eq, Bool.not_eq_true', Bool.not_eq_false', Bool.or_eq_false_iff, decide_eq_false_iff_not] at h9; omega) | (have h9 := hi2; simp only [kd_box, kd_glue, kd_pen, kd_hyp, kd_forced, kd_note, kd_label, kd_page, Bool.or_eq_true, Bool.and_eq_true, decide_eq_true_eq, Bool.not_eq_true', Bool.not_eq_false', Bool.or_eq_false_iff, decide_eq_false_iff_not] at h9; omega)) (by first | omega | decide +kernel | (simp only [List.length_cons, List.length_nil]; omega) | (have h9 := hb0; simp only [kd_box, kd_glue, kd_pen, kd_hyp, kd_forced, kd_note, kd_label, kd_page, Bool.or_eq_true, Bool.and_eq_true, decide_eq_true_eq, Bool.not_eq_true', Bool.not_eq_false', Bool.or_eq_false_iff, decide_eq_false_iff_not] at h9; omega) | (have h9 := hb1; simp only [kd_box, kd_glue, kd_pen, kd_hyp, kd_forced, kd_note, kd_label, kd_page, Bool.or_eq_true, Bool.and_eq_true, decide_eq_true_eq, Bool.not_eq_true', Bool.not_eq_false', Bool.or_eq_false_iff, decide_eq_false_iff_not] at h9; omega) | (have h9 := hb2; simp only [kd_box, kd_glue, kd_pen, kd_hyp, kd_forced, kd_note, kd_label, kd_page, Bool.or_eq_true, Bool.and_eq_true, decide_eq_true_eq, Bool.not_eq_true', Bool.not_eq_false', Bool.or_eq_false_iff, decide_eq_false_iff_not] at h9; omega) | (have h9 := hi1; simp only [kd_box, kd_glue, kd_pen, kd_hyp, kd_forced, kd_note, kd_label, kd_page, Bool.or_eq_true, Bool.and_eq_true, decide_eq_true_eq, Bool.not_eq_true', Bool.not_eq_false', Bool.or_eq_false_iff, decide_eq_false_iff_not] at h9; omega) | (have h9 := hi2; simp only [kd_box, kd_glue, kd_pen, kd_hyp, kd_forced, kd_note, kd_label, kd_page, Bool.or_eq_true, Bool.and_eq_true, decide_eq_true_eq, Bool.not_eq_true', Bool.not_eq_false', Bool.or_eq_false_iff, decide_eq_false_iff_not] at h9; omega))))) fun v H' e d => q v H' e (by rw [hF5]; exact d)
/-- the parts between two places, by the program's bounds -/
theorem bounds_at (its : List Itm) {s e : Nat} (h : s ≤ e) (he : e ≤ its.length) : ∃ f l : Nat, m_Measures_bounds (m_Measures___init__ its) (s : Int) (e : Int) = ((f : Int), (l : Int)) ∧ f ≤ l ∧ l ≤ its.length ∧
    (((∀ j, s ≤ j → j < e → m_is_blank (its.getD j Itm.forced) = true) ∧ f = l) ∨
     (∃ m, l = m + 1 ∧ s ≤ f ∧ f ≤ m ∧ m < e ∧ m_is_blank (its.getD f Itm.forced) = false ∧ m_is_blank (its.getD m Itm.forced) = false ∧ (∀ j, s ≤ j → j < f → m_is_blank (its.getD j Itm.forced) = true) ∧ ∀ j, m < j → j < e → m_is_blank (its.getD j Itm.forced) = true)) := by
  unfold m_Measures_bounds
  dsimp only
  rw [Int.toNat_natCast, Int.toNat_natCast]
  have f1 : First (its.map (fun c => !m_is_blank c)) ((its.length : Int)) s ((m_Measures___init__ its).f__first_kept.getD s 0) := ff_at _ _ (by rw [List.length_map]; omega)
  have f2 : Last (fun i => !m_is_blank (its.getD i Itm.forced)) e ((m_Measures___init__ its).f__kept_before.getD e 0) := by
    show Last _ e ((m_kept_before its).getD e 0)
    rw [kept_tab, tab_at _ _ (by omega)]
    exact kb_last _ e
  generalize (m_Measures___init__ its).f__first_kept.getD s 0 = u at f1
  generalize (m_Measures___init__ its).f__kept_before.getD e 0 = v at f2
  have mk : ∀ i, i < its.length → (its.map (fun c => !m_is_blank c)).getD i false = !m_is_blank (its.getD i Itm.forced) := fun i hi => getD_map _ Itm.forced _ hi
  have ll : (its.map (fun c => !m_is_blank c)).length = its.length := List.length_map _
  have tr : ∀ i, (!m_is_blank (its.getD i Itm.forced)) = false → m_is_blank (its.getD i Itm.forced) = true := fun i hi => by simpa using hi
  have fa : ∀ i, (!m_is_blank (its.getD i Itm.forced)) = true → m_is_blank (its.getD i Itm.forced) = false := fun i hi => by simpa using hi
  have kv : 0 ≤ v ∧ v ≤ (e : Int) := by rcases f2 with ⟨rfl, _⟩ | ⟨i, rfl, hi, _⟩ <;> omega
  have blankA : (∀ j, s ≤ j → j < e → m_is_blank (its.getD j Itm.forced) = true) → v ≤ (s : Int) := fun hA => by
    rcases f2 with ⟨rfl, _⟩ | ⟨m, rfl, m1, m2, mf⟩
    · omega
    · rcases Nat.lt_or_ge m s with z | z
      · omega
      · have := hA m z m1
        rw [fa m m2] at this
        cases this
  rcases f1 with ⟨rfl, f⟩ | ⟨k, rfl, k1, k2, k3, kf⟩
  · have hA : ∀ j, s ≤ j → j < e → m_is_blank (its.getD j Itm.forced) = true := fun j a b => tr j (by rw [← mk j (by omega)]; exact f j a (by omega))
    have := blankA hA
    refine ⟨its.length, its.length, ?_, Nat.le_refl _, Nat.le_refl _, .inl ⟨hA, rfl⟩⟩
    rw [show max (its.length : Int) v = (its.length : Int) by omega]
  · rw [mk k (by omega)] at k3
    rcases Nat.lt_or_ge k e with ke | ke
    · rcases f2 with ⟨rfl, f⟩ | ⟨m, rfl, m1, m2, mf⟩
      · have t := tr k (f k ke)
        rw [fa k k3] at t
        cases t
      · have km : k ≤ m := by
          rcases Nat.lt_or_ge m k with z | z
          · have t := tr k (mf k z ke)
            rw [fa k k3] at t
            cases t
          · exact z
        refine ⟨k, m + 1, ?_, by omega, by omega, .inr ⟨m, rfl, k1, km, m1, fa k k3, fa m m2, fun j a b => tr j (by rw [← mk j (by omega)]; exact kf j a b), fun j a b => tr j (mf j a b)⟩⟩
        rw [show max (k : Int) ((m : Int) + 1) = ((m + 1 : Nat) : Int) by omega]
    · have hA : ∀ j, s ≤ j → j < e → m_is_blank (its.getD j Itm.forced) = true := fun j a b => tr j (by rw [← mk j (by omega)]; exact kf j a (by omega))
      have := blankA hA
      refine ⟨k, k, ?_, Nat.le_refl _, by omega, .inl ⟨hA, rfl⟩⟩
      rw [show max (k : Int) v = (k : Int) by omega]
/-- what the law shows is what stands between the program's bounds -/
theorem shown_eq (its : List Itm) {s e : Nat} (h : s ≤ e) (he : e ≤ its.length) {f l : Nat} (hb : m_Measures_bounds (m_Measures___init__ its) (s : Int) (e : Int) = ((f : Int), (l : Int))) :
    m_law_shown its (s : Int) (e : Int) = (its.drop f).take (l - f) := by
  obtain ⟨f', l', e1, e2, e3, e4⟩ := bounds_at its h he
  rw [hb] at e1
  have ef : f = f' := by have := congrArg Prod.fst e1; dsimp only at this; omega
  have el : l = l' := by have := congrArg Prod.snd e1; dsimp only at this; omega
  subst ef el
  have key := loopN_ind (f := m_law_shown_l0 its) (fun i L => (L = [] ∧ ∀ j, s ≤ j → j < s + i → m_is_blank (its.getD j Itm.forced) = true) ∨
      (∃ k m : Nat, 0 < L.length ∧ L.getD 0 0 = (k : Int) ∧ L.getD (L.length - 1) 0 = (m : Int) ∧ s ≤ k ∧ k ≤ m ∧ m < s + i ∧ m_is_blank (its.getD k Itm.forced) = false ∧ m_is_blank (its.getD m Itm.forced) = false ∧ (∀ j, s ≤ j → j < k → m_is_blank (its.getD j Itm.forced) = true) ∧ ∀ j, m < j → j < s + i → m_is_blank (its.getD j Itm.forced) = true))
    (s : Int) (e - s) [] (.inl ⟨rfl, fun j a b => by omega⟩) (fun i L hi p => by
      unfold m_law_shown_l0
      dsimp only
      rw [show ((s : Int) + (i : Int)).toNat = s + i by omega]
      have hbl : m_law_is_blank (its.getD (s + i) Itm.forced) = m_is_blank (its.getD (s + i) Itm.forced) := rfl
      rw [hbl]
      cases q : m_is_blank (its.getD (s + i) Itm.forced) with
      | true =>
        rw [if_neg (by simp)]
        have st : ∀ j, j < s + (i + 1) → j < s + i ∨ j = s + i := fun j hj => by omega
        rcases p with ⟨rfl, p⟩ | ⟨k, m, p0, p1, p2, p3, p4, p5, p6, p7, p8, p9⟩
        · refine .inl ⟨rfl, fun j a b => ?_⟩
          rcases st j b with z | rfl
          · exact p j a z
          · exact q
        · refine .inr ⟨k, m, p0, p1, p2, p3, p4, by omega, p6, p7, p8, fun j a b => ?_⟩
          rcases st j b with z | rfl
          · exact p9 j a z
          · exact q
      | false =>
        rw [if_pos (by simp)]
        have la : ∀ (L : List Int) (v : Int), (L ++ [v]).getD ((L ++ [v]).length - 1) 0 = v := fun L v => by
          rw [List.length_append, List.length_singleton, Nat.add_sub_cancel, List.getD_eq_getElem?_getD, List.getElem?_append_right (Nat.le_refl _), Nat.sub_self]; rfl
        rcases p with ⟨rfl, p⟩ | ⟨k, m, p0, p1, p2, p3, p4, p5, p6, p7, p8, p9⟩
        · exact .inr ⟨s + i, s + i, by simp, by simp, by rw [la]; omega, by omega, Nat.le_refl _, by omega, q, q, fun j a b => p j a b, fun j a b => by omega⟩
        · refine .inr ⟨k, s + i, by rw [List.length_append]; omega, ?_, by rw [la]; omega, p3, by omega, by omega, p6, q, p8, fun j a b => by omega⟩
          rw [List.getD_eq_getElem?_getD, List.getElem?_append_left p0, ← List.getD_eq_getElem?_getD, p1])
  unfold m_law_shown
  dsimp only
  rw [show ((e : Int) - (s : Int)).toNat = e - s by omega]
  generalize loopN (m_law_shown_l0 its) (e - s) (s : Int) [] = L at key
  rw [show s + (e - s) = e by omega] at key
  rcases key with ⟨rfl, p⟩ | ⟨k, m, p0, p1, p2, p3, p4, p5, p6, p7, p8, p9⟩
  · rw [if_pos (by simp)]
    rcases e4 with ⟨_, rfl⟩ | ⟨m, _, a, b, c, d, _, _, _⟩
    · rw [Nat.sub_self, List.take_zero]
    · have := p f a (by omega)
      rw [d] at this
      cases this
  · rw [if_neg (by simp; intro z; rw [z] at p0; simp at p0)]
    rw [show (Int.toNat (0 : Int)) = 0 from rfl, p1, p2]
    rcases e4 with ⟨hA, _⟩ | ⟨m', rfl, a, b, c, d, d', g, g'⟩
    · have := hA k p3 (by omega)
      rw [p6] at this
      cases this
    · have ek : k = f := by
        rcases Nat.lt_trichotomy k f with z | z | z
        · have := g k p3 z
          rw [p6] at this
          cases this
        · exact z
        · have := p8 f a z
          rw [d] at this
          cases this
      have em : m = m' := by
        rcases Nat.lt_trichotomy m m' with z | z | z
        · have := p9 m' z (by omega)
          rw [d'] at this
          cases this
        · exact z
        · have := g' m z (by omega)
          rw [p7] at this
          cases this
      subst ek em
      exact cutL_dt (by omega) (by omega)
/-- what measure gives -/
theorem measure_at (its : List Itm) {s e : Nat} (h : s ≤ e) (he : e ≤ its.length) {f l : Nat} (hfl : f ≤ l) (hb : m_Measures_bounds (m_Measures___init__ its) (s : Int) (e : Int) = ((f : Int), (l : Int))) (hl : l ≤ its.length) :
    m_Measures_measure (m_Measures___init__ its) (s : Int) (e : Int) = T3.mk ((((its.drop f).take (l - f)).map m_width_of_item).sum + m_Measures_hyphen_width (m_Measures___init__ its) (e : Int)) (((its.drop f).take (l - f)).map m_stretch_of_item).sum (((its.drop f).take (l - f)).map m_shrink_of_item).sum := by
  unfold m_Measures_measure
  dsimp only
  rw [hb]
  dsimp only
  rw [Int.toNat_natCast, Int.toNat_natCast]
  have at_ : ∀ (g : Itm → Int), ((m_sums_of (its.map g)).getD l 0 - (m_sums_of (its.map g)).getD f 0) = (((its.drop f).take (l - f)).map g).sum := fun g => by
    rw [sums_tab, tab_at _ _ (by rw [List.length_map]; omega), tab_at _ _ (by rw [List.length_map]; omega), sum_cut _ hfl, List.map_take, List.map_drop]
  have e1 := at_ m_width_of_item
  have e2 := at_ m_stretch_of_item
  have e3 := at_ m_shrink_of_item
  congr 1
  exact congrArg (· + _) e1

theorem sum_bd {g : Itm → Int} (hg : ∀ i, ItOk i → 0 ≤ g i ∧ g i ≤ 1000) : ∀ (xs : List Itm), (∀ i ∈ xs, ItOk i) → 0 ≤ (xs.map g).sum ∧ (xs.map g).sum ≤ 1000 * (xs.length : Int)
  | [], _ => by simp
  | x :: xs, h => by
    have a := hg x (h x List.mem_cons_self)
    have b := sum_bd hg xs fun i hi => h i (List.mem_cons_of_mem _ hi)
    rw [List.map_cons, List.sum_cons, List.length_cons]
    omega
theorem width_ok (i : Itm) (h : ItOk i) : 0 ≤ m_width_of_item i ∧ m_width_of_item i ≤ 1000 := by
  unfold m_width_of_item; split
  · exact h.1
  · omega
theorem stretch_ok (i : Itm) (h : ItOk i) : 0 ≤ m_stretch_of_item i ∧ m_stretch_of_item i ≤ 1000 := by
  unfold m_stretch_of_item; split
  · exact h.2.1
  · omega
theorem shrink_ok (i : Itm) (h : ItOk i) : 0 ≤ m_shrink_of_item i ∧ m_shrink_of_item i ≤ 1000 := by
  unfold m_shrink_of_item; split
  · exact h.2.2
  · omega
theorem getD_it {its : List Itm} (h : ∀ i ∈ its, ItOk i) (k : Nat) : ItOk (its.getD k Itm.forced) := getD_P (P := ItOk) h (by unfold ItOk; simp only [Itm.at1, Itm.at2, Itm.at3]; omega) k
theorem hyphen_bd {its : List Itm} (h : ∀ i ∈ its, ItOk i) (e : Int) : 0 ≤ m_Measures_hyphen_width (m_Measures___init__ its) e ∧ m_Measures_hyphen_width (m_Measures___init__ its) e ≤ 1000 := by
  unfold m_Measures_hyphen_width
  split
  · exact (getD_it h _).1
  · omega
theorem measure_bd {o : Cl_Measures} (g : GoodM o) {s e : Int} (h0 : 0 ≤ s) (h1 : s ≤ e) (h2 : e ≤ o.f_count) : (0 ≤ (m_Measures_measure o s e).a ∧ (m_Measures_measure o s e).a ≤ 2000000) ∧ (0 ≤ (m_Measures_measure o s e).b ∧ (m_Measures_measure o s e).b ≤ 2000000) ∧ (0 ≤ (m_Measures_measure o s e).c ∧ (m_Measures_measure o s e).c ≤ 2000000) := by
  obtain ⟨its, rfl, hl, hi⟩ := g
  have h2' : e ≤ (its.length : Int) := h2
  obtain ⟨e', rfl⟩ := Int.eq_ofNat_of_zero_le (show 0 ≤ e by omega)
  obtain ⟨s', rfl⟩ := Int.eq_ofNat_of_zero_le h0
  obtain ⟨f, l, e1, e2, e3, _⟩ := bounds_at its (s := s') (e := e') (by omega) (by omega)
  rw [measure_at its (by omega) (by omega) e2 e1 e3]
  have hs : ∀ i ∈ (its.drop f).take (l - f), ItOk i := fun i h => hi i (List.mem_of_mem_drop (List.mem_of_mem_take h))
  have hn : ((its.drop f).take (l - f)).length ≤ its.length := by rw [List.length_take, List.length_drop]; omega
  have a := sum_bd width_ok _ hs
  have b := sum_bd stretch_ok _ hs
  have c := sum_bd shrink_ok _ hs
  have d := hyphen_bd hi (e' : Int)
  dsimp only
  omega

def m_law_sums_l0  (s_ : (List Int)) (x_ : Itm) : (List Int) :=
  let sums_ : (List Int) := s_
  let item_ : Itm := x_
  let j1_ : (List Int) := if (decide ((Itm.kind item_) = (PySem.Str.ofString "box")) || decide ((Itm.kind item_) = (PySem.Str.ofString "page")) || decide ((Itm.kind item_) = (PySem.Str.ofString "glue"))) = true then
      let sums_ : (List Int) := (List.set sums_ (Int.toNat (0 : Int)) ((sums_.getD (Int.toNat (0 : Int)) 0) + (Itm.at1 item_)))
      sums_
    else
      sums_
  let sums_ : (List Int) := j1_
  if (decide ((Itm.kind item_) = (PySem.Str.ofString "glue"))) = true then
    let sums_ : (List Int) := (List.set sums_ (Int.toNat (1 : Int)) ((sums_.getD (Int.toNat (1 : Int)) 0) + (Itm.at2 item_)))
    let sums_ : (List Int) := (List.set sums_ (Int.toNat (2 : Int)) ((sums_.getD (Int.toNat (2 : Int)) 0) + (Itm.at3 item_)))
    sums_
  else
    sums_
def m_law_sums (items_ : (List Itm)) (start_ : Int) (end_ : Int) : (List Int) :=
  let sums_ : (List Int) := [(0 : Int), (0 : Int), (0 : Int)]
  let r0_ : (List Int) := List.foldl m_law_sums_l0 sums_ (m_law_shown items_ start_ end_)
  let sums_ : (List Int) := r0_
  let j2_ : (List Int) := if (decide ((Itm.kind (items_.getD (Int.toNat (end_ - (1 : Int))) Itm.forced)) = (PySem.Str.ofString "hyphen"))) = true then
      let sums_ : (List Int) := (List.set sums_ (Int.toNat (0 : Int)) ((sums_.getD (Int.toNat (0 : Int)) 0) + (Itm.at1 (items_.getD (Int.toNat (end_ - (1 : Int))) Itm.forced))))
      sums_
    else
      sums_
  let sums_ : (List Int) := j2_
  sums_
abbrev s_law_sums : Stmt := (topS 28)
theorem sc_law_sums : FnScope ["items", "start", "end", "sums", "item"] ["items", "start", "end"] (defScope s_law_sums) := ⟨rfl, rfl, rfl, by decide +kernel, rfl, by decide +kernel, by decide +kernel⟩
abbrev sp_law_sums (K : PySem.W.Frag) : Sp := PrD K (fun c : (List Itm) × Int × Int => [Dx.toX c.1, Dx.toX c.2.1, Dx.toX c.2.2]) (fun c => 0 ≤ c.2.1 ∧ c.2.1 < c.2.2 ∧ c.2.2 ≤ (c.1.length : Int) ∧ c.1.length ≤ 1000) (fun c => (m_law_sums c.1 c.2.1 c.2.2 : (List Int)))
theorem ok_law_sums (T : Txt K mg) : FnOk P w K mg base CX0 3 T.f_law_sums T.d_law_sums ["items", "start", "end"] (sp_law_sums K) := by
  refine T.u_law_sums.ok sc_law_sums (fun vs H Q E h => ?_) (fun cdv A outer s H vs Q E hr h => ?_)
  · obtain ⟨Mc, c, mok, da, pre, q⟩ := h
    exact (dpa_len da)
  · obtain ⟨Mc, c, mok, da, pre, q⟩ := h
    obtain ⟨items_, start_, end_⟩ := c
    dsimp only at da pre q
    obtain ⟨v0, w0, rfl, d0, da0⟩ := dpa_inv da
    obtain ⟨v1, w1, rfl, d1, da1⟩ := dpa_inv da0
    obtain ⟨v2, w2, rfl, d2, da2⟩ := dpa_inv da1
    cases dpa_inv0 da2
    cases (Dt.int d1)
    cases (Dt.int d2)
    have s0 : Sg K Mc H H [(v0, Dx.toX items_)] [] := Sg.enter mok ⟨d0, True.intro⟩
    refine ⟨_, (pss_cons (ps_set (i := 3) sc_law_sums.nd rfl (.inl rfl) (pe_lst (pa_cons pe_int (pa_cons pe_int (pa_cons pe_int pa_nil))))) (pss_cons (ps_for PassesOwn.never rfl (pi_list (pe_call (ok_law_shown T) hr (by rfl) T.g_law_shown T.u_law_shown.kp T.b_law_shown .nil pass0 (pa_cons (pv 0) (pa_cons (pv 1) (pa_cons (pv 2) pa_nil))))) (pg_name (i := 4) sc_law_sums.nd rfl (.inl rfl)) (pss_cut (ps_if (pt_cmpR op_in_seq (pe_ix ix_tup (pv 4) pe_int (fun _ _ => rfl)) (pe_tup (pa_cons pe_str (pa_cons pe_str (pa_cons pe_str pa_nil)))) (by rfl)) (pss_cons (ps_asg (pe_op op_add (pe_ix ix_list (pv 3) pe_int (fun _ _ => rfl)) (pe_ix ix_tup (pv 4) pe_int (fun _ _ => rfl))) (pg_sub (pv 3) pe_int set_list)) pss_nil) pss_nil) (pss_cons (ps_if (pt_cmpR op_eq (pe_ix ix_tup (pv 4) pe_int (fun _ _ => rfl)) pe_str (nomark _)) (pss_cons (ps_asg (pe_op op_add (pe_ix ix_list (pv 3) pe_int (fun _ _ => rfl)) (pe_ix ix_tup (pv 4) pe_int (fun _ _ => rfl))) (pg_sub (pv 3) pe_int set_list)) (pss_cons (ps_asg (pe_op op_add (pe_ix ix_list (pv 3) pe_int (fun _ _ => rfl)) (pe_ix ix_tup (pv 4) pe_int (fun _ _ => rfl))) (pg_sub (pv 3) pe_int set_list)) pss_nil)) pss_nil) pss_nil))) (pss_cut (ps_if (pt_cmpR op_eq (pe_ix ix_tup (pe_ix ix_list (pv 0) (pe_op op_sub (pv 2) pe_int) (fun _ _ => rfl)) pe_int (fun _ _ => rfl)) pe_str (nomark _)) (pss_cons (ps_asg (pe_op op_add (pe_ix ix_list (pv 3) pe_int (fun _ _ => rfl)) (pe_ix ix_tup (pe_ix ix_list (pv 0) (pe_op op_sub (pv 2) pe_int) (fun _ _ => rfl)) pe_int (fun _ _ => rfl))) (pg_sub (pv 3) pe_int set_list)) pss_nil) pss_nil) (pss_cons (ps_ret (pv 3)) pss_nil)))), ?_⟩
    refine z_freshG s0 (hf_lst (has_cons (hv_int 0) (has_cons (hv_int 0) (has_cons (hv_int 0) has_nil))) (Nat.le_of_ble_eq_true rfl)) fun sums_2 hsums_2 ps1 Hs1 s1 => ?_
    try dsimp only at hsums_2
    have lsums_2 := congrArg List.length hsums_2
    try simp only [List.length_map, irng_len, List.length_flatten, List.map_replicate, List.sum_replicate_nat, List.length_cons, List.length_nil] at lsums_2
    refine zq_forG s1 (hv_call (items_, start_, end_) (hd_cons (hv_var (x := items_) rfl s1.im.1) (hd_cons (hv_vI rfl) (hd_cons (hv_vI rfl) hd_nil))) (by first | omega | (dsimp only; omega) | (subst_vars; omega) | decide +kernel)) (fun vsrc0 i σ' H' => ∃ (sums_3 : (List Int)) (o4 : Option V), (List.foldl m_law_sums_l0 sums_2 (m_law_shown items_ start_ end_) : (List Int)) = (List.foldl m_law_sums_l0 sums_3 (List.drop i (m_law_shown items_ start_ end_)) : (List Int)) ∧ (sums_3.length = 3) ∧ σ' = [some v0, some (V.int start_), some (V.int end_), some (.ref ps1), o4] ∧ Sg K Mc H H' [(vsrc0, Dx.toX (m_law_shown items_ start_ end_)), (v0, Dx.toX items_)] [(ps1, .lst (List.map Dx.toX sums_3))]) (fun vsrc0 Hs5 s5 => ⟨sums_2, _, rfl, (by first | trivial | omega | (simp; done) | simp_all), rfl, s5.keep fun _ h => ⟨h.1, ⟨h.2.1, True.intro⟩⟩⟩) (fun vsrc0 i σ' H' hP => by obtain ⟨sums_3, o4, he, hg, hs, hS⟩ := hP; exact hS.im.1) (fun vsrc0 i9 x10 wx10 σ' Hs8 hi12 hP hx11 => ?_) (fun vsrc0 σ' Hs8 hP => ?_)
    · obtain ⟨sums_3, o4, he6, hg7, rfl, s8⟩ := hP
      have qx10 := (List.getElem?_eq_some_iff.mp hi12).1
      have s14 := s8.put hx11
      refine z_ifj (fun σ' H' => ∃ (sums_18 : (List Int))  , sums_18 = (if (decide ((Itm.kind x10) = (PySem.Str.ofString "box")) || decide ((Itm.kind x10) = (PySem.Str.ofString "page")) || decide ((Itm.kind x10) = (PySem.Str.ofString "glue"))) = true then
        let sums_ : (List Int) := (List.set sums_3 (Int.toNat (0 : Int)) ((sums_3.getD (Int.toNat (0 : Int)) 0) + (Itm.at1 x10)))
        sums_
      else
        sums_3) ∧ σ' = [some v0, some (V.int start_), some (V.int end_), some (.ref ps1), some wx10] ∧ Sg K Mc H H' [(wx10, Dx.toX x10), (vsrc0, Dx.toX (m_law_shown items_ start_ end_)), (v0, Dx.toX items_)] [(ps1, .lst (List.map Dx.toX sums_18))]) s14 (ht_val (K := K) ((hv_inTS (hv_it0 (hv_var (x := x10) rfl s14.im.1)) (has_cons (hv_str _) (has_cons (hv_str _) (has_cons (hv_str _) has_nil))) (Nat.le_of_ble_eq_true rfl)).is (show _ = (decide ((Itm.kind x10) = (PySem.Str.ofString "box")) || decide ((Itm.kind x10) = (PySem.Str.ofString "page")) || decide ((Itm.kind x10) = (PySem.Str.ofString "glue"))) by simp [Bool.or_assoc]))) (fun hb15 Hs16 s16 => ?_) (fun hb15 Hs17 s17 => ?_) (fun σ' Hs20 hN => ?_)
      · have hb15P := hb15
        try simp only [kd_box, kd_glue, kd_pen, kd_hyp, kd_forced, kd_note, kd_label, kd_page, decide_eq_true_eq, decide_eq_false_iff_not, Bool.not_eq_true', Bool.not_eq_false', Bool.and_eq_true, Bool.or_eq_true, Bool.or_eq_false_iff] at hb15P
        refine z_setG s16 (kk := 0) rfl (hv_add (hv_at 0 (hs_mut s16 (k := 0) rfl rfl) (hv_int 0) (by first | omega | decide +kernel | (simp only [List.length_cons, List.length_nil]; omega) | (have h9 := hb0; simp only [kd_box, kd_glue, kd_pen, kd_hyp, kd_forced, kd_note, kd_label, kd_page, Bool.or_eq_true, Bool.and_eq_true, decide_eq_true_eq, Bool.not_eq_true', Bool.not_eq_false', Bool.or_eq_false_iff, decide_eq_false_iff_not] at h9; omega) | (have h9 := hb1; simp only [kd_box, kd_glue, kd_pen, kd_hyp, kd_forced, kd_note, kd_label, kd_page, Bool.or_eq_true, Bool.and_eq_true, decide_eq_true_eq, Bool.not_eq_true', Bool.not_eq_false', Bool.or_eq_false_iff, decide_eq_false_iff_not] at h9; omega) | (have h9 := hb2; simp only [kd_box, kd_glue, kd_pen, kd_hyp, kd_forced, kd_note, kd_label, kd_page, Bool.or_eq_true, Bool.and_eq_true, decide_eq_true_eq, Bool.not_eq_true', Bool.not_eq_false', Bool.or_eq_false_iff, decide_eq_false_iff_not] at h9; omega) | (have h9 := hi1; simp only [kd_box, kd_glue, kd_pen, kd_hyp, kd_forced, kd_note, kd_label, kd_page, Bool.or_eq_true, Bool.and_eq_true, decide_eq_true_eq, Bool.not_eq_true', Bool.not_eq_false', Bool.or_eq_false_iff, decide_eq_false_iff_not] at h9; omega) | (have h9 := hi2; simp only [kd_box, kd_glue, kd_pen, kd_hyp, kd_forced, kd_note, kd_label, kd_page, Bool.or_eq_true, Bool.and_eq_true, decide_eq_true_eq, Bool.not_eq_true', Bool.not_eq_false', Bool.or_eq_false_iff, decide_eq_false_iff_not] at h9; omega)) (by first | omega | decide +kernel | (simp only [List.length_cons, List.length_nil]; omega) | (have h9 := hb0; simp only [kd_box, kd_glue, kd_pen, kd_hyp, kd_forced, kd_note, kd_label, kd_page, Bool.or_eq_true, Bool.and_eq_true, decide_eq_true_eq, Bool.not_eq_true', Bool.not_eq_false', Bool.or_eq_false_iff, decide_eq_false_iff_not] at h9; omega) | (have h9 := hb1; simp only [kd_box, kd_glue, kd_pen, kd_hyp, kd_forced, kd_note, kd_label, kd_page, Bool.or_eq_true, Bool.and_eq_true, decide_eq_true_eq, Bool.not_eq_true', Bool.not_eq_false', Bool.or_eq_false_iff, decide_eq_false_iff_not] at h9; omega) | (have h9 := hb2; simp only [kd_box, kd_glue, kd_pen, kd_hyp, kd_forced, kd_note, kd_label, kd_page, Bool.or_eq_true, Bool.and_eq_true, decide_eq_true_eq, Bool.not_eq_true', Bool.not_eq_false', Bool.or_eq_false_iff, decide_eq_false_iff_not] at h9; omega) | (have h9 := hi1; simp only [kd_box, kd_glue, kd_pen, kd_hyp, kd_forced, kd_note, kd_label, kd_page, Bool.or_eq_true, Bool.and_eq_true, decide_eq_true_eq, Bool.not_eq_true', Bool.not_eq_false', Bool.or_eq_false_iff, decide_eq_false_iff_not] at h9; omega) | (have h9 := hi2; simp only [kd_box, kd_glue, kd_pen, kd_hyp, kd_forced, kd_note, kd_label, kd_page, Bool.or_eq_true, Bool.and_eq_true, decide_eq_true_eq, Bool.not_eq_true', Bool.not_eq_false', Bool.or_eq_false_iff, decide_eq_false_iff_not] at h9; omega))) (hv_it1 (hv_var (x := x10) rfl s16.im.1) (by first | omega | (have h9 := hi1; simp only [kd_box, kd_glue, kd_pen, kd_hyp, kd_forced, kd_note, kd_label, kd_page, Bool.or_eq_true, Bool.and_eq_true, decide_eq_true_eq, Bool.not_eq_true', Bool.not_eq_false', Bool.or_eq_false_iff, decide_eq_false_iff_not] at h9; omega) | (have h9 := hi2; simp only [kd_box, kd_glue, kd_pen, kd_hyp, kd_forced, kd_note, kd_label, kd_page, Bool.or_eq_true, Bool.and_eq_true, decide_eq_true_eq, Bool.not_eq_true', Bool.not_eq_false', Bool.or_eq_false_iff, decide_eq_false_iff_not] at h9; omega) | (have h9 := hb0; simp only [kd_box, kd_glue, kd_pen, kd_hyp, kd_forced, kd_note, kd_label, kd_page, Bool.or_eq_true, Bool.and_eq_true, decide_eq_true_eq, Bool.not_eq_true', Bool.not_eq_false', Bool.or_eq_false_iff, decide_eq_false_iff_not] at h9; omega) | (have h9 := hb1; simp only [kd_box, kd_glue, kd_pen, kd_hyp, kd_forced, kd_note, kd_label, kd_page, Bool.or_eq_true, Bool.and_eq_true, decide_eq_true_eq, Bool.not_eq_true', Bool.not_eq_false', Bool.or_eq_false_iff, decide_eq_false_iff_not] at h9; omega) | (have h9 := hb2; simp only [kd_box, kd_glue, kd_pen, kd_hyp, kd_forced, kd_note, kd_label, kd_page, Bool.or_eq_true, Bool.and_eq_true, decide_eq_true_eq, Bool.not_eq_true', Bool.not_eq_false', Bool.or_eq_false_iff, decide_eq_false_iff_not] at h9; omega)))) (ev_var rfl) (hv_int 0) (by first | omega | decide +kernel | (simp only [List.length_cons, List.length_nil]; omega) | (have h9 := hb0; simp only [kd_box, kd_glue, kd_pen, kd_hyp, kd_forced, kd_note, kd_label, kd_page, Bool.or_eq_true, Bool.and_eq_true, decide_eq_true_eq, Bool.not_eq_true', Bool.not_eq_false', Bool.or_eq_false_iff, decide_eq_false_iff_not] at h9; omega) | (have h9 := hb1; simp only [kd_box, kd_glue, kd_pen, kd_hyp, kd_forced, kd_note, kd_label, kd_page, Bool.or_eq_true, Bool.and_eq_true, decide_eq_true_eq, Bool.not_eq_true', Bool.not_eq_false', Bool.or_eq_false_iff, decide_eq_false_iff_not] at h9; omega) | (have h9 := hb2; simp only [kd_box, kd_glue, kd_pen, kd_hyp, kd_forced, kd_note, kd_label, kd_page, Bool.or_eq_true, Bool.and_eq_true, decide_eq_true_eq, Bool.not_eq_true', Bool.not_eq_false', Bool.or_eq_false_iff, decide_eq_false_iff_not] at h9; omega) | (have h9 := hi1; simp only [kd_box, kd_glue, kd_pen, kd_hyp, kd_forced, kd_note, kd_label, kd_page, Bool.or_eq_true, Bool.and_eq_true, decide_eq_true_eq, Bool.not_eq_true', Bool.not_eq_false', Bool.or_eq_false_iff, decide_eq_false_iff_not] at h9; omega) | (have h9 := hi2; simp only [kd_box, kd_glue, kd_pen, kd_hyp, kd_forced, kd_note, kd_label, kd_page, Bool.or_eq_true, Bool.and_eq_true, decide_eq_true_eq, Bool.not_eq_true', Bool.not_eq_false', Bool.or_eq_false_iff, decide_eq_false_iff_not] at h9; omega)) (by first | omega | decide +kernel | (simp only [List.length_cons, List.length_nil]; omega) | (have h9 := hb0; simp only [kd_box, kd_glue, kd_pen, kd_hyp, kd_forced, kd_note, kd_label, kd_page, Bool.or_eq_true, Bool.and_eq_true, decide_eq_true_eq, Bool.not_eq_true', Bool.not_eq_false', Bool.or_eq_false_iff, decide_eq_false_iff_not] at h9; omega) | (have h9 := hb1; simp only [kd_box, kd_glue, kd_pen, kd_hyp, kd_forced, kd_note, kd_label, kd_page, Bool.or_eq_true, Bool.and_eq_true, decide_eq_true_eq, Bool.not_eq_true', Bool.not_eq_false', Bool.or_eq_false_iff, decide_eq_false_iff_not] at h9; omega) | (have h9 := hb2; simp only [kd_box, kd_glue, kd_pen, kd_hyp, kd_forced, kd_note, kd_label, kd_page, Bool.or_eq_true, Bool.and_eq_true, decide_eq_true_eq, Bool.not_eq_true', Bool.not_eq_false', Bool.or_eq_false_iff, decide_eq_false_iff_not] at h9; omega) | (have h9 := hi1; simp only [kd_box, kd_glue, kd_pen, kd_hyp, kd_forced, kd_note, kd_label, kd_page, Bool.or_eq_true, Bool.and_eq_true, decide_eq_true_eq, Bool.not_eq_true', Bool.not_eq_false', Bool.or_eq_false_iff, decide_eq_false_iff_not] at h9; omega) | (have h9 := hi2; simp only [kd_box, kd_glue, kd_pen, kd_hyp, kd_forced, kd_note, kd_label, kd_page, Bool.or_eq_true, Bool.and_eq_true, decide_eq_true_eq, Bool.not_eq_true', Bool.not_eq_false', Bool.or_eq_false_iff, decide_eq_false_iff_not] at h9; omega)) fun sums_22 hsums_22 Hs21 s21 => ?_
        try dsimp only at hsums_22
        have lsums_22 : sums_22.length = sums_3.length := by rw [hsums_22, List.length_set]
        have s21 : Sg K Mc _ _ _ [(ps1, .lst (List.map Dx.toX sums_22))] := s21
        exact ⟨sums_22, (by subst hsums_22; subst hsums_2; first | (simp only [hb15, if_true, if_false, Bool.false_eq_true, decide_true, decide_false, Option.getD_some, Option.isNone_none, Option.isNone_some, Bool.not_true, Bool.not_false, ↓reduceIte]; done) | (rfl; done) | ((skip); (dsimp only); (first | rw [ifT hb15] | rw [ifF hb15] | skip); (try dsimp only); first | done | rfl) | (exfalso; simp at hb15; done)), rfl, s21.keep fun _ h => ⟨h.1, ⟨h.2.1, ⟨h.2.2.1, True.intro⟩⟩⟩⟩
      · have hb15P := hb15
        try simp only [kd_box, kd_glue, kd_pen, kd_hyp, kd_forced, kd_note, kd_label, kd_page, decide_eq_true_eq, decide_eq_false_iff_not, Bool.not_eq_true', Bool.not_eq_false', Bool.and_eq_true, Bool.or_eq_true, Bool.or_eq_false_iff] at hb15P
        exact ⟨sums_3, (by subst hsums_2; first | (simp only [hb15, if_true, if_false, Bool.false_eq_true, decide_true, decide_false, Option.getD_some, Option.isNone_none, Option.isNone_some, Bool.not_true, Bool.not_false, ↓reduceIte]; done) | (rfl; done) | ((skip); (dsimp only); (first | rw [ifT hb15] | rw [ifF hb15] | skip); (try dsimp only); first | done | rfl) | (exfalso; simp at hb15; done)), rfl, s17.keep fun _ h => ⟨h.1, ⟨h.2.1, ⟨h.2.2.1, True.intro⟩⟩⟩⟩
      · obtain ⟨sums_18, hj19, rfl, s20⟩ := hN
        try dsimp only at hj19
        have lj1 : sums_18.length = 3 := by rw [hj19]; split <;> (try simp only [List.length_set]) <;> omega
        refine z_ifx (b := (decide ((Itm.kind x10) = (PySem.Str.ofString "glue")))) s20 (ht_val (K := K) (hv_eqS (hv_it0 (hv_var (x := x10) rfl s20.im.1)) (hv_str _))) (fun hb23 Hs24 s24 => ?_) (fun hb23 Hs25 s25 => ?_)
        · have hb23P := hb23
          try simp only [kd_box, kd_glue, kd_pen, kd_hyp, kd_forced, kd_note, kd_label, kd_page, decide_eq_true_eq, decide_eq_false_iff_not, Bool.not_eq_true', Bool.not_eq_false', Bool.and_eq_true, Bool.or_eq_true, Bool.or_eq_false_iff] at hb23P
          refine z_setG s24 (kk := 0) rfl (hv_add (hv_at 0 (hs_mut s24 (k := 0) rfl rfl) (hv_int 1) (by first | omega | decide +kernel | (simp only [List.length_cons, List.length_nil]; omega) | (have h9 := hb0; simp only [kd_box, kd_glue, kd_pen, kd_hyp, kd_forced, kd_note, kd_label, kd_page, Bool.or_eq_true, Bool.and_eq_true, decide_eq_true_eq, Bool.not_eq_true', Bool.not_eq_false', Bool.or_eq_false_iff, decide_eq_false_iff_not] at h9; omega) | (have h9 := hb1; simp only [kd_box, kd_glue, kd_pen, kd_hyp, kd_forced, kd_note, kd_label, kd_page, Bool.or_eq_true, Bool.and_eq_true, decide_eq_true_eq, Bool.not_eq_true', Bool.not_eq_false', Bool.or_eq_false_iff, decide_eq_false_iff_not] at h9; omega) | (have h9 := hb2; simp only [kd_box, kd_glue, kd_pen, kd_hyp, kd_forced, kd_note, kd_label, kd_page, Bool.or_eq_true, Bool.and_eq_true, decide_eq_true_eq, Bool.not_eq_true', Bool.not_eq_false', Bool.or_eq_false_iff, decide_eq_false_iff_not] at h9; omega) | (have h9 := hi1; simp only [kd_box, kd_glue, kd_pen, kd_hyp, kd_forced, kd_note, kd_label, kd_page, Bool.or_eq_true, Bool.and_eq_true, decide_eq_true_eq, Bool.not_eq_true', Bool.not_eq_false', Bool.or_eq_false_iff, decide_eq_false_iff_not] at h9; omega) | (have h9 := hi2; simp only [kd_box, kd_glue, kd_pen, kd_hyp, kd_forced, kd_note, kd_label, kd_page, Bool.or_eq_true, Bool.and_eq_true, decide_eq_true_eq, Bool.not_eq_true', Bool.not_eq_false', Bool.or_eq_false_iff, decide_eq_false_iff_not] at h9; omega)) (by first | omega | decide +kernel | (simp only [List.length_cons, List.length_nil]; omega) | (have h9 := hb0; simp only [kd_box, kd_glue, kd_pen, kd_hyp, kd_forced, kd_note, kd_label, kd_page, Bool.or_eq_true, Bool.and_eq_true, decide_eq_true_eq, Bool.not_eq_true', Bool.not_eq_false', Bool.or_eq_false_iff, decide_eq_false_iff_not] at h9; omega) | (have h9 := hb1; simp only [kd_box, kd_glue, kd_pen, kd_hyp, kd_forced, kd_note, kd_label, kd_page, Bool.or_eq_true, Bool.and_eq_true, decide_eq_true_eq, Bool.not_eq_true', Bool.not_eq_false', Bool.or_eq_false_iff, decide_eq_false_iff_not] at h9; omega) | (have h9 := hb2; simp only [kd_box, kd_glue, kd_pen, kd_hyp, kd_forced, kd_note, kd_label, kd_page, Bool.or_eq_true, Bool.and_eq_true, decide_eq_true_eq, Bool.not_eq_true', Bool.not_eq_false', Bool.or_eq_false_iff, decide_eq_false_iff_not] at h9; omega) | (have h9 := hi1; simp only [kd_box, kd_glue, kd_pen, kd_hyp, kd_forced, kd_note, kd_label, kd_page, Bool.or_eq_true, Bool.and_eq_true, decide_eq_true_eq, Bool.not_eq_true', Bool.not_eq_false', Bool.or_eq_false_iff, decide_eq_false_iff_not] at h9; omega) | (have h9 := hi2; simp only [kd_box, kd_glue, kd_pen, kd_hyp, kd_forced, kd_note, kd_label, kd_page, Bool.or_eq_true, Bool.and_eq_true, decide_eq_true_eq, Bool.not_eq_true', Bool.not_eq_false', Bool.or_eq_false_iff, decide_eq_false_iff_not] at h9; omega))) (hv_it2 (hv_var (x := x10) rfl s24.im.1) (by first | omega | (have h9 := hi1; simp only [kd_box, kd_glue, kd_pen, kd_hyp, kd_forced, kd_note, kd_label, kd_page, Bool.or_eq_true, Bool.and_eq_true, decide_eq_true_eq, Bool.not_eq_true', Bool.not_eq_false', Bool.or_eq_false_iff, decide_eq_false_iff_not] at h9; omega) | (have h9 := hi2; simp only [kd_box, kd_glue, kd_pen, kd_hyp, kd_forced, kd_note, kd_label, kd_page, Bool.or_eq_true, Bool.and_eq_true, decide_eq_true_eq, Bool.not_eq_true', Bool.not_eq_false', Bool.or_eq_false_iff, decide_eq_false_iff_not] at h9; omega) | (have h9 := hb0; simp only [kd_box, kd_glue, kd_pen, kd_hyp, kd_forced, kd_note, kd_label, kd_page, Bool.or_eq_true, Bool.and_eq_true, decide_eq_true_eq, Bool.not_eq_true', Bool.not_eq_false', Bool.or_eq_false_iff, decide_eq_false_iff_not] at h9; omega) | (have h9 := hb1; simp only [kd_box, kd_glue, kd_pen, kd_hyp, kd_forced, kd_note, kd_label, kd_page, Bool.or_eq_true, Bool.and_eq_true, decide_eq_true_eq, Bool.not_eq_true', Bool.not_eq_false', Bool.or_eq_false_iff, decide_eq_false_iff_not] at h9; omega) | (have h9 := hb2; simp only [kd_box, kd_glue, kd_pen, kd_hyp, kd_forced, kd_note, kd_label, kd_page, Bool.or_eq_true, Bool.and_eq_true, decide_eq_true_eq, Bool.not_eq_true', Bool.not_eq_false', Bool.or_eq_false_iff, decide_eq_false_iff_not] at h9; omega)))) (ev_var rfl) (hv_int 1) (by first | omega | decide +kernel | (simp only [List.length_cons, List.length_nil]; omega) | (have h9 := hb0; simp only [kd_box, kd_glue, kd_pen, kd_hyp, kd_forced, kd_note, kd_label, kd_page, Bool.or_eq_true, Bool.and_eq_true, decide_eq_true_eq, Bool.not_eq_true', Bool.not_eq_false', Bool.or_eq_false_iff, decide_eq_false_iff_not] at h9; omega) | (have h9 := hb1; simp only [kd_box, kd_glue, kd_pen, kd_hyp, kd_forced, kd_note, kd_label, kd_page, Bool.or_eq_true, Bool.and_eq_true, decide_eq_true_eq, Bool.not_eq_true', Bool.not_eq_false', Bool.or_eq_false_iff, decide_eq_false_iff_not] at h9; omega) | (have h9 := hb2; simp only [kd_box, kd_glue, kd_pen, kd_hyp, kd_forced, kd_note, kd_label, kd_page, Bool.or_eq_true, Bool.and_eq_true, decide_eq_true_eq, Bool.not_eq_true', Bool.not_eq_false', Bool.or_eq_false_iff, decide_eq_false_iff_not] at h9; omega) | (have h9 := hi1; simp only [kd_box, kd_glue, kd_pen, kd_hyp, kd_forced, kd_note, kd_label, kd_page, Bool.or_eq_true, Bool.and_eq_true, decide_eq_true_eq, Bool.not_eq_true', Bool.not_eq_false', Bool.or_eq_false_iff, decide_eq_false_iff_not] at h9; omega) | (have h9 := hi2; simp only [kd_box, kd_glue, kd_pen, kd_hyp, kd_forced, kd_note, kd_label, kd_page, Bool.or_eq_true, Bool.and_eq_true, decide_eq_true_eq, Bool.not_eq_true', Bool.not_eq_false', Bool.or_eq_false_iff, decide_eq_false_iff_not] at h9; omega)) (by first | omega | decide +kernel | (simp only [List.length_cons, List.length_nil]; omega) | (have h9 := hb0; simp only [kd_box, kd_glue, kd_pen, kd_hyp, kd_forced, kd_note, kd_label, kd_page, Bool.or_eq_true, Bool.and_eq_true, decide_eq_true_eq, Bool.not_eq_true', Bool.not_eq_false', Bool.or_eq_false_iff, decide_eq_false_iff_not] at h9; omega) | (have h9 := hb1; simp only [kd_box, kd_glue, kd_pen, kd_hyp, kd_forced, kd_note, kd_label, kd_page, Bool.or_eq_true, Bool.and_eq_true, decide_eq_true_eq, Bool.not_eq_true', Bool.not_eq_false', Bool.or_eq_false_iff, decide_eq_false_iff_not] at h9; omega) | (have h9 := hb2; simp only [kd_box, kd_glue, kd_pen, kd_hyp, kd_forced, kd_note, kd_label, kd_page, Bool.or_eq_true, Bool.and_eq_true, decide_eq_true_eq, Bool.not_eq_true', Bool.not_eq_false', Bool.or_eq_false_iff, decide_eq_false_iff_not] at h9; omega) | (have h9 := hi1; simp only [kd_box, kd_glue, kd_pen, kd_hyp, kd_forced, kd_note, kd_label, kd_page, Bool.or_eq_true, Bool.and_eq_true, decide_eq_true_eq, Bool.not_eq_true', Bool.not_eq_false', Bool.or_eq_false_iff, decide_eq_false_iff_not] at h9; omega) | (have h9 := hi2; simp only [kd_box, kd_glue, kd_pen, kd_hyp, kd_forced, kd_note, kd_label, kd_page, Bool.or_eq_true, Bool.and_eq_true, decide_eq_true_eq, Bool.not_eq_true', Bool.not_eq_false', Bool.or_eq_false_iff, decide_eq_false_iff_not] at h9; omega)) fun sums_27 hsums_27 Hs26 s26 => ?_
          try dsimp only at hsums_27
          have lsums_27 : sums_27.length = sums_18.length := by rw [hsums_27, List.length_set]
          have s26 : Sg K Mc _ _ _ [(ps1, .lst (List.map Dx.toX sums_27))] := s26
          refine z_setG s26 (kk := 0) rfl (hv_add (hv_at 0 (hs_mut s26 (k := 0) rfl rfl) (hv_int 2) (by first | omega | decide +kernel | (simp only [List.length_cons, List.length_nil]; omega) | (have h9 := hb0; simp only [kd_box, kd_glue, kd_pen, kd_hyp, kd_forced, kd_note, kd_label, kd_page, Bool.or_eq_true, Bool.and_eq_true, decide_eq_true_eq, Bool.not_eq_true', Bool.not_eq_false', Bool.or_eq_false_iff, decide_eq_false_iff_not] at h9; omega) | (have h9 := hb1; simp only [kd_box, kd_glue, kd_pen, kd_hyp, kd_forced, kd_note, kd_label, kd_page, Bool.or_eq_true, Bool.and_eq_true, decide_eq_true_eq, Bool.not_eq_true', Bool.not_eq_false', Bool.or_eq_false_iff, decide_eq_false_iff_not] at h9; omega) | (have h9 := hb2; simp only [kd_box, kd_glue, kd_pen, kd_hyp, kd_forced, kd_note, kd_label, kd_page, Bool.or_eq_true, Bool.and_eq_true, decide_eq_true_eq, Bool.not_eq_true', Bool.not_eq_false', Bool.or_eq_false_iff, decide_eq_false_iff_not] at h9; omega) | (have h9 := hi1; simp only [kd_box, kd_glue, kd_pen, kd_hyp, kd_forced, kd_note, kd_label, kd_page, Bool.or_eq_true, Bool.and_eq_true, decide_eq_true_eq, Bool.not_eq_true', Bool.not_eq_false', Bool.or_eq_false_iff, decide_eq_false_iff_not] at h9; omega) | (have h9 := hi2; simp only [kd_box, kd_glue, kd_pen, kd_hyp, kd_forced, kd_note, kd_label, kd_page, Bool.or_eq_true, Bool.and_eq_true, decide_eq_true_eq, Bool.not_eq_true', Bool.not_eq_false', Bool.or_eq_false_iff, decide_eq_false_iff_not] at h9; omega)) (by first | omega | decide +kernel | (simp only [List.length_cons, List.length_nil]; omega) | (have h9 := hb0; simp only [kd_box, kd_glue, kd_pen, kd_hyp, kd_forced, kd_note, kd_label, kd_page, Bool.or_eq_true, Bool.and_eq_true, decide_eq_true_eq, Bool.not_eq_true', Bool.not_eq_false', Bool.or_eq_false_iff, decide_eq_false_iff_not] at h9; omega) | (have h9 := hb1; simp only [kd_box, kd_glue, kd_pen, kd_hyp, kd_forced, kd_note, kd_label, kd_page, Bool.or_eq_true, Bool.and_eq_true, decide_eq_true_eq, Bool.not_eq_true', Bool.not_eq_false', Bool.or_eq_false_iff, decide_eq_false_iff_not] at h9; omega) | (have h9 := hb2; simp only [kd_box, kd_glue, kd_pen, kd_hyp, kd_forced, kd_note, kd_label, kd_page, Bool.or_eq_true, Bool.and_eq_true, decide_eq_true_eq, Bool.not_eq_true', Bool.not_eq_false', Bool.or_eq_false_iff, decide_eq_false_iff_not] at h9; omega) | (have h9 := hi1; simp only [kd_box, kd_glue, kd_pen, kd_hyp, kd_forced, kd_note, kd_label, kd_page, Bool.or_eq_true, Bool.and_eq_true, decide_eq_true_eq, Bool.not_eq_true', Bool.not_eq_false', Bool.or_eq_false_iff, decide_eq_false_iff_not] at h9; omega) | (have h9 := hi2; simp only [kd_box, kd_glue, kd_pen, kd_hyp, kd_forced, kd_note, kd_label, kd_page, Bool.or_eq_true, Bool.and_eq_true, decide_eq_true_eq, Bool.not_eq_true', Bool.not_eq_false', Bool.or_eq_false_iff, decide_eq_false_iff_not] at h9; omega))) (hv_it3 (hv_var (x := x10) rfl s26.im.1) (by first | omega | (have h9 := hi1; simp only [kd_box, kd_glue, kd_pen, kd_hyp, kd_forced, kd_note, kd_label, kd_page, Bool.or_eq_true, Bool.and_eq_true, decide_eq_true_eq, Bool.not_eq_true', Bool.not_eq_false', Bool.or_eq_false_iff, decide_eq_false_iff_not] at h9; omega) | (have h9 := hi2; simp only [kd_box, kd_glue, kd_pen, kd_hyp, kd_forced, kd_note, kd_label, kd_page, Bool.or_eq_true, Bool.and_eq_true, decide_eq_true_eq, Bool.not_eq_true', Bool.not_eq_false', Bool.or_eq_false_iff, decide_eq_false_iff_not] at h9; omega) | (have h9 := hb0; simp only [kd_box, kd_glue, kd_pen, kd_hyp, kd_forced, kd_note, kd_label, kd_page, Bool.or_eq_true, Bool.and_eq_true, decide_eq_true_eq, Bool.not_eq_true', Bool.not_eq_false', Bool.or_eq_false_iff, decide_eq_false_iff_not] at h9; omega) | (have h9 := hb1; simp only [kd_box, kd_glue, kd_pen, kd_hyp, kd_forced, kd_note, kd_label, kd_page, Bool.or_eq_true, Bool.and_eq_true, decide_eq_true_eq, Bool.not_eq_true', Bool.not_eq_false', Bool.or_eq_false_iff, decide_eq_false_iff_not] at h9; omega) | (have h9 := hb2; simp only [kd_box, kd_glue, kd_pen, kd_hyp, kd_forced, kd_note, kd_label, kd_page, Bool.or_eq_true, Bool.and_eq_true, decide_eq_true_eq, Bool.not_eq_true', Bool.not_eq_false', Bool.or_eq_false_iff, decide_eq_false_iff_not] at h9; omega)))) (ev_var rfl) (hv_int 2) (by first | omega | decide +kernel | (simp only [List.length_cons, List.length_nil]; omega) | (have h9 := hb0; simp only [kd_box, kd_glue, kd_pen, kd_hyp, kd_forced, kd_note, kd_label, kd_page, Bool.or_eq_true, Bool.and_eq_true, decide_eq_true_eq, Bool.not_eq_true', Bool.not_eq_false', Bool.or_eq_false_iff, decide_eq_false_iff_not] at h9; omega) | (have h9 := hb1; simp only [kd_box, kd_glue, kd_pen, kd_hyp, kd_forced, kd_note, kd_label, kd_page, Bool.or_eq_true, Bool.and_eq_true, decide_eq_true_eq, Bool.not_eq_true', Bool.not_eq_false', Bool.or_eq_false_iff, decide_eq_false_iff_not] at h9; omega) | (have h9 := hb2; simp only [kd_box, kd_glue, kd_pen, kd_hyp, kd_forced, kd_note, kd_label, kd_page, Bool.or_eq_true, Bool.and_eq_true, decide_eq_true_eq, Bool.not_eq_true', Bool.not_eq_false', Bool.or_eq_false_iff, decide_eq_false_iff_not] at h9; omega) | (have h9 := hi1; simp only [kd_box, kd_glue, kd_pen, kd_hyp, kd_forced, kd_note, kd_label, kd_page, Bool.or_eq_true, Bool.and_eq_true, decide_eq_true_eq, Bool.not_eq_true', Bool.not_eq_false', Bool.or_eq_false_iff, decide_eq_false_iff_not] at h9; omega) | (have h9 := hi2; simp only [kd_box, kd_glue, kd_pen, kd_hyp, kd_forced, kd_note, kd_label, kd_page, Bool.or_eq_true, Bool.and_eq_true, decide_eq_true_eq, Bool.not_eq_true', Bool.not_eq_false', Bool.or_eq_false_iff, decide_eq_false_iff_not] at h9; omega)) (by first | omega | decide +kernel | (simp only [List.length_cons, List.length_nil]; omega) | (have h9 := hb0; simp only [kd_box, kd_glue, kd_pen, kd_hyp, kd_forced, kd_note, kd_label, kd_page, Bool.or_eq_true, Bool.and_eq_true, decide_eq_true_eq, Bool.not_eq_true', Bool.not_eq_false', Bool.or_eq_false_iff, decide_eq_false_iff_not] at h9; omega) | (have h9 := hb1; simp only [kd_box, kd_glue, kd_pen, kd_hyp, kd_forced, kd_note, kd_label, kd_page, Bool.or_eq_true, Bool.and_eq_true, decide_eq_true_eq, Bool.not_eq_true', Bool.not_eq_false', Bool.or_eq_false_iff, decide_eq_false_iff_not] at h9; omega) | (have h9 := hb2; simp only [kd_box, kd_glue, kd_pen, kd_hyp, kd_forced, kd_note, kd_label, kd_page, Bool.or_eq_true, Bool.and_eq_true, decide_eq_true_eq, Bool.not_eq_true', Bool.not_eq_false', Bool.or_eq_false_iff, decide_eq_false_iff_not] at h9; omega) | (have h9 := hi1; simp only [kd_box, kd_glue, kd_pen, kd_hyp, kd_forced, kd_note, kd_label, kd_page, Bool.or_eq_true, Bool.and_eq_true, decide_eq_true_eq, Bool.not_eq_true', Bool.not_eq_false', Bool.or_eq_false_iff, decide_eq_false_iff_not] at h9; omega) | (have h9 := hi2; simp only [kd_box, kd_glue, kd_pen, kd_hyp, kd_forced, kd_note, kd_label, kd_page, Bool.or_eq_true, Bool.and_eq_true, decide_eq_true_eq, Bool.not_eq_true', Bool.not_eq_false', Bool.or_eq_false_iff, decide_eq_false_iff_not] at h9; omega)) fun sums_29 hsums_29 Hs28 s28 => ?_
          try dsimp only at hsums_29
          have lsums_29 : sums_29.length = sums_27.length := by rw [hsums_29, List.length_set]
          have s28 : Sg K Mc _ _ _ [(ps1, .lst (List.map Dx.toX sums_29))] := s28
          have hf30 : m_law_sums_l0 sums_3 x10 = sums_29 := (by subst hsums_29; subst hsums_27; subst hsums_2; first | (simp only [m_law_sums_l0, hj19, hb23, if_true, if_false, Bool.false_eq_true, decide_true, decide_false, Option.getD_some, Option.isNone_none, Option.isNone_some, Bool.not_true, Bool.not_false, ↓reduceIte]; done) | (simp only [m_law_sums_l0, ← hj19, hb23, if_true, if_false, Bool.false_eq_true, decide_true, decide_false, Option.getD_some, Option.isNone_none, Option.isNone_some, Bool.not_true, Bool.not_false, ↓reduceIte]; done) | (rfl; done) | ((unfold m_law_sums_l0); (dsimp only); (first | rw [← hj19] | rw [hj19] | skip); (try dsimp only); (first | rw [ifT hb23] | rw [ifF hb23] | skip); (try dsimp only); first | done | rfl) | (exfalso; simp at hb23; done))
          exact ⟨sums_29, _, he6.trans ((foldl_step hi12).trans (by rw [hf30])), (by first | trivial | omega | (simp_all; done) | (simp_all; omega)), rfl, s28.keep fun _ h => ⟨h.2.1, ⟨h.2.2.1, True.intro⟩⟩⟩
        · have hb23P := hb23
          try simp only [kd_box, kd_glue, kd_pen, kd_hyp, kd_forced, kd_note, kd_label, kd_page, decide_eq_true_eq, decide_eq_false_iff_not, Bool.not_eq_true', Bool.not_eq_false', Bool.and_eq_true, Bool.or_eq_true, Bool.or_eq_false_iff] at hb23P
          have hf31 : m_law_sums_l0 sums_3 x10 = sums_18 := (by subst hsums_2; first | (simp only [m_law_sums_l0, hj19, hb23, if_true, if_false, Bool.false_eq_true, decide_true, decide_false, Option.getD_some, Option.isNone_none, Option.isNone_some, Bool.not_true, Bool.not_false, ↓reduceIte]; done) | (simp only [m_law_sums_l0, ← hj19, hb23, if_true, if_false, Bool.false_eq_true, decide_true, decide_false, Option.getD_some, Option.isNone_none, Option.isNone_some, Bool.not_true, Bool.not_false, ↓reduceIte]; done) | (rfl; done) | ((unfold m_law_sums_l0); (dsimp only); (first | rw [← hj19] | rw [hj19] | skip); (try dsimp only); (first | rw [ifT hb23] | rw [ifF hb23] | skip); (try dsimp only); first | done | rfl) | (exfalso; simp at hb23; done))
          exact ⟨sums_18, _, he6.trans ((foldl_step hi12).trans (by rw [hf31])), (by first | trivial | omega | (simp_all; done) | (simp_all; omega)), rfl, s25.keep fun _ h => ⟨h.2.1, ⟨h.2.2.1, True.intro⟩⟩⟩
    · obtain ⟨sums_32, o33, he35, hg36, rfl, s34⟩ := hP
      rw [foldl_end] at he35
      refine z_ifj (fun σ' H' => ∃ (sums_40 : (List Int))  (o43 : Option V), sums_40 = (if (decide ((Itm.kind (items_.getD (Int.toNat (end_ - (1 : Int))) Itm.forced)) = (PySem.Str.ofString "hyphen"))) = true then
        let sums_ : (List Int) := (List.set sums_32 (Int.toNat (0 : Int)) ((sums_32.getD (Int.toNat (0 : Int)) 0) + (Itm.at1 (items_.getD (Int.toNat (end_ - (1 : Int))) Itm.forced))))
        sums_
      else
        sums_32) ∧ σ' = [some v0, some (V.int start_), some (V.int end_), some (.ref ps1), o43] ∧ Sg K Mc H H' [(v0, Dx.toX items_)] [(ps1, .lst (List.map Dx.toX sums_40))]) s34 (ht_val (K := K) (hv_eqS (hv_it0 (hv_at Itm.forced (hs_of (hv_var (x := items_) rfl s34.im.2.1)) (hv_sub (hv_vI rfl) (hv_int 1)) (by first | omega | decide +kernel | (simp only [List.length_cons, List.length_nil]; omega) | (have h9 := hb0; simp only [kd_box, kd_glue, kd_pen, kd_hyp, kd_forced, kd_note, kd_label, kd_page, Bool.or_eq_true, Bool.and_eq_true, decide_eq_true_eq, Bool.not_eq_true', Bool.not_eq_false', Bool.or_eq_false_iff, decide_eq_false_iff_not] at h9; omega) | (have h9 := hb1; simp only [kd_box, kd_glue, kd_pen, kd_hyp, kd_forced, kd_note, kd_label, kd_page, Bool.or_eq_true, Bool.and_eq_true, decide_eq_true_eq, Bool.not_eq_true', Bool.not_eq_false', Bool.or_eq_false_iff, decide_eq_false_iff_not] at h9; omega) | (have h9 := hb2; simp only [kd_box, kd_glue, kd_pen, kd_hyp, kd_forced, kd_note, kd_label, kd_page, Bool.or_eq_true, Bool.and_eq_true, decide_eq_true_eq, Bool.not_eq_true', Bool.not_eq_false', Bool.or_eq_false_iff, decide_eq_false_iff_not] at h9; omega) | (have h9 := hi1; simp only [kd_box, kd_glue, kd_pen, kd_hyp, kd_forced, kd_note, kd_label, kd_page, Bool.or_eq_true, Bool.and_eq_true, decide_eq_true_eq, Bool.not_eq_true', Bool.not_eq_false', Bool.or_eq_false_iff, decide_eq_false_iff_not] at h9; omega) | (have h9 := hi2; simp only [kd_box, kd_glue, kd_pen, kd_hyp, kd_forced, kd_note, kd_label, kd_page, Bool.or_eq_true, Bool.and_eq_true, decide_eq_true_eq, Bool.not_eq_true', Bool.not_eq_false', Bool.or_eq_false_iff, decide_eq_false_iff_not] at h9; omega)) (by first | omega | decide +kernel | (simp only [List.length_cons, List.length_nil]; omega) | (have h9 := hb0; simp only [kd_box, kd_glue, kd_pen, kd_hyp, kd_forced, kd_note, kd_label, kd_page, Bool.or_eq_true, Bool.and_eq_true, decide_eq_true_eq, Bool.not_eq_true', Bool.not_eq_false', Bool.or_eq_false_iff, decide_eq_false_iff_not] at h9; omega) | (have h9 := hb1; simp only [kd_box, kd_glue, kd_pen, kd_hyp, kd_forced, kd_note, kd_label, kd_page, Bool.or_eq_true, Bool.and_eq_true, decide_eq_true_eq, Bool.not_eq_true', Bool.not_eq_false', Bool.or_eq_false_iff, decide_eq_false_iff_not] at h9; omega) | (have h9 := hb2; simp only [kd_box, kd_glue, kd_pen, kd_hyp, kd_forced, kd_note, kd_label, kd_page, Bool.or_eq_true, Bool.and_eq_true, decide_eq_true_eq, Bool.not_eq_true', Bool.not_eq_false', Bool.or_eq_false_iff, decide_eq_false_iff_not] at h9; omega) | (have h9 := hi1; simp only [kd_box, kd_glue, kd_pen, kd_hyp, kd_forced, kd_note, kd_label, kd_page, Bool.or_eq_true, Bool.and_eq_true, decide_eq_true_eq, Bool.not_eq_true', Bool.not_eq_false', Bool.or_eq_false_iff, decide_eq_false_iff_not] at h9; omega) | (have h9 := hi2; simp only [kd_box, kd_glue, kd_pen, kd_hyp, kd_forced, kd_note, kd_label, kd_page, Bool.or_eq_true, Bool.and_eq_true, decide_eq_true_eq, Bool.not_eq_true', Bool.not_eq_false', Bool.or_eq_false_iff, decide_eq_false_iff_not] at h9; omega)))) (hv_str _))) (fun hb37 Hs38 s38 => ?_) (fun hb37 Hs39 s39 => ?_) (fun σ' Hs42 hN => ?_)
      · have hb37P := hb37
        try simp only [kd_box, kd_glue, kd_pen, kd_hyp, kd_forced, kd_note, kd_label, kd_page, decide_eq_true_eq, decide_eq_false_iff_not, Bool.not_eq_true', Bool.not_eq_false', Bool.and_eq_true, Bool.or_eq_true, Bool.or_eq_false_iff] at hb37P
        refine z_setG s38 (kk := 0) rfl (hv_add (hv_at 0 (hs_mut s38 (k := 0) rfl rfl) (hv_int 0) (by first | omega | decide +kernel | (simp only [List.length_cons, List.length_nil]; omega) | (have h9 := hb0; simp only [kd_box, kd_glue, kd_pen, kd_hyp, kd_forced, kd_note, kd_label, kd_page, Bool.or_eq_true, Bool.and_eq_true, decide_eq_true_eq, Bool.not_eq_true', Bool.not_eq_false', Bool.or_eq_false_iff, decide_eq_false_iff_not] at h9; omega) | (have h9 := hb1; simp only [kd_box, kd_glue, kd_pen, kd_hyp, kd_forced, kd_note, kd_label, kd_page, Bool.or_eq_true, Bool.and_eq_true, decide_eq_true_eq, Bool.not_eq_true', Bool.not_eq_false', Bool.or_eq_false_iff, decide_eq_false_iff_not] at h9; omega) | (have h9 := hb2; simp only [kd_box, kd_glue, kd_pen, kd_hyp, kd_forced, kd_note, kd_label, kd_page, Bool.or_eq_true, Bool.and_eq_true, decide_eq_true_eq, Bool.not_eq_true', Bool.not_eq_false', Bool.or_eq_false_iff, decide_eq_false_iff_not] at h9; omega) | (have h9 := hi1; simp only [kd_box, kd_glue, kd_pen, kd_hyp, kd_forced, kd_note, kd_label, kd_page, Bool.or_eq_true, Bool.and_eq_true, decide_eq_true_eq, Bool.not_eq_true', Bool.not_eq_false', Bool.or_eq_false_iff, decide_eq_false_iff_not] at h9; omega) | (have h9 := hi2; simp only [kd_box, kd_glue, kd_pen, kd_hyp, kd_forced, kd_note, kd_label, kd_page, Bool.or_eq_true, Bool.and_eq_true, decide_eq_true_eq, Bool.not_eq_true', Bool.not_eq_false', Bool.or_eq_false_iff, decide_eq_false_iff_not] at h9; omega)) (by first | omega | decide +kernel | (simp only [List.length_cons, List.length_nil]; omega) | (have h9 := hb0; simp only [kd_box, kd_glue, kd_pen, kd_hyp, kd_forced, kd_note, kd_label, kd_page, Bool.or_eq_true, Bool.and_eq_true, decide_eq_true_eq, Bool.not_eq_true', Bool.not_eq_false', Bool.or_eq_false_iff, decide_eq_false_iff_not] at h9; omega) | (have h9 := hb1; simp only [kd_box, kd_glue, kd_pen, kd_hyp, kd_forced, kd_note, kd_label, kd_page, Bool.or_eq_true, Bool.and_eq_true, decide_eq_true_eq, Bool.not_eq_true', Bool.not_eq_false', Bool.or_eq_false_iff, decide_eq_false_iff_not] at h9; omega) | (have h9 := hb2; simp only [kd_box, kd_glue, kd_pen, kd_hyp, kd_forced, kd_note, kd_label, kd_page, Bool.or_eq_true, Bool.and_eq_true, decide_eq_true_eq, Bool.not_eq_true', Bool.not_eq_false', Bool.or_eq_false_iff, decide_eq_false_iff_not] at h9; omega) | (have h9 := hi1; simp only [kd_box, kd_glue, kd_pen, kd_hyp, kd_forced, kd_note, kd_label, kd_page, Bool.or_eq_true, Bool.and_eq_true, decide_eq_true_eq, Bool.not_eq_true', Bool.not_eq_false', Bool.or_eq_false_iff, decide_eq_false_iff_not] at h9; omega) | (have h9 := hi2; simp only [kd_box, kd_glue, kd_pen, kd_hyp, kd_forced, kd_note, kd_label, kd_page, Bool.or_eq_true, Bool.and_eq_true, decide_eq_true_eq, Bool.not_eq_true', Bool.not_eq_false', Bool.or_eq_false_iff, decide_eq_false_iff_not] at h9; omega))) (hv_it1 (hv_at Itm.forced (hs_of (hv_var (x := items_) rfl s38.im.2.1)) (hv_sub (hv_vI rfl) (hv_int 1)) (by first | omega | decide +kernel | (simp only [List.length_cons, List.length_nil]; omega) | (have h9 := hb0; simp only [kd_box, kd_glue, kd_pen, kd_hyp, kd_forced, kd_note, kd_label, kd_page, Bool.or_eq_true, Bool.and_eq_true, decide_eq_true_eq, Bool.not_eq_true', Bool.not_eq_false', Bool.or_eq_false_iff, decide_eq_false_iff_not] at h9; omega) | (have h9 := hb1; simp only [kd_box, kd_glue, kd_pen, kd_hyp, kd_forced, kd_note, kd_label, kd_page, Bool.or_eq_true, Bool.and_eq_true, decide_eq_true_eq, Bool.not_eq_true', Bool.not_eq_false', Bool.or_eq_false_iff, decide_eq_false_iff_not] at h9; omega) | (have h9 := hb2; simp only [kd_box, kd_glue, kd_pen, kd_hyp, kd_forced, kd_note, kd_label, kd_page, Bool.or_eq_true, Bool.and_eq_true, decide_eq_true_eq, Bool.not_eq_true', Bool.not_eq_false', Bool.or_eq_false_iff, decide_eq_false_iff_not] at h9; omega) | (have h9 := hi1; simp only [kd_box, kd_glue, kd_pen, kd_hyp, kd_forced, kd_note, kd_label, kd_page, Bool.or_eq_true, Bool.and_eq_true, decide_eq_true_eq, Bool.not_eq_true', Bool.not_eq_false', Bool.or_eq_false_iff, decide_eq_false_iff_not] at h9; omega) | (have h9 := hi2; simp only [kd_box, kd_glue, kd_pen, kd_hyp, kd_forced, kd_note, kd_label, kd_page, Bool.or_eq_true, Bool.and_eq_true, decide_eq_true_eq, Bool.not_eq_true', Bool.not_eq_false', Bool.or_eq_false_iff, decide_eq_false_iff_not] at h9; omega)) (by first | omega | decide +kernel | (simp only [List.length_cons, List.length_nil]; omega) | (have h9 := hb0; simp only [kd_box, kd_glue, kd_pen, kd_hyp, kd_forced, kd_note, kd_label, kd_page, Bool.or_eq_true, Bool.and_eq_true, decide_eq_true_eq, Bool.not_eq_true', Bool.not_eq_false', Bool.or_eq_false_iff, decide_eq_false_iff_not] at h9; omega) | (have h9 := hb1; simp only [kd_box, kd_glue, kd_pen, kd_hyp, kd_forced, kd_note, kd_label, kd_page, Bool.or_eq_true, Bool.and_eq_true, decide_eq_true_eq, Bool.not_eq_true', Bool.not_eq_false', Bool.or_eq_false_iff, decide_eq_false_iff_not] at h9; omega) | (have h9 := hb2; simp only [kd_box, kd_glue, kd_pen, kd_hyp, kd_forced, kd_note, kd_label, kd_page, Bool.or_eq_true, Bool.and_eq_true, decide_eq_true_eq, Bool.not_eq_true', Bool.not_eq_false', Bool.or_eq_false_iff, decide_eq_false_iff_not] at h9; omega) | (have h9 := hi1; simp only [kd_box, kd_glue, kd_pen, kd_hyp, kd_forced, kd_note, kd_label, kd_page, Bool.or_eq_true, Bool.and_eq_true, decide_eq_true_eq, Bool.not_eq_true', Bool.not_eq_false', Bool.or_eq_false_iff, decide_eq_false_iff_not] at h9; omega) | (have h9 := hi2; simp only [kd_box, kd_glue, kd_pen, kd_hyp, kd_forced, kd_note, kd_label, kd_page, Bool.or_eq_true, Bool.and_eq_true, decide_eq_true_eq, Bool.not_eq_true', Bool.not_eq_false', Bool.or_eq_false_iff, decide_eq_false_iff_not] at h9; omega))) (by first | omega | (have h9 := hi1; simp only [kd_box, kd_glue, kd_pen, kd_hyp, kd_forced, kd_note, kd_label, kd_page, Bool.or_eq_true, Bool.and_eq_true, decide_eq_true_eq, Bool.not_eq_true', Bool.not_eq_false', Bool.or_eq_false_iff, decide_eq_false_iff_not] at h9; omega) | (have h9 := hi2; simp only [kd_box, kd_glue, kd_pen, kd_hyp, kd_forced, kd_note, kd_label, kd_page, Bool.or_eq_true, Bool.and_eq_true, decide_eq_true_eq, Bool.not_eq_true', Bool.not_eq_false', Bool.or_eq_false_iff, decide_eq_false_iff_not] at h9; omega) | (have h9 := hb0; simp only [kd_box, kd_glue, kd_pen, kd_hyp, kd_forced, kd_note, kd_label, kd_page, Bool.or_eq_true, Bool.and_eq_true, decide_eq_true_eq, Bool.not_eq_true', Bool.not_eq_false', Bool.or_eq_false_iff, decide_eq_false_iff_not] at h9; omega) | (have h9 := hb1; simp only [kd_box, kd_glue, kd_pen, kd_hyp, kd_forced, kd_note, kd_label, kd_page, Bool.or_eq_true, Bool.and_eq_true, decide_eq_true_eq, Bool.not_eq_true', Bool.not_eq_false', Bool.or_eq_false_iff, decide_eq_false_iff_not] at h9; omega) | (have h9 := hb2; simp only [kd_box, kd_glue, kd_pen, kd_hyp, kd_forced, kd_note, kd_label, kd_page, Bool.or_eq_true, Bool.and_eq_true, decide_eq_true_eq, Bool.not_eq_true', Bool.not_eq_false', Bool.or_eq_false_iff, decide_eq_false_iff_not] at h9; omega)))) (ev_var rfl) (hv_int 0) (by first | omega | decide +kernel | (simp only [List.length_cons, List.length_nil]; omega) | (have h9 := hb0; simp only [kd_box, kd_glue, kd_pen, kd_hyp, kd_forced, kd_note, kd_label, kd_page, Bool.or_eq_true, Bool.and_eq_true, decide_eq_true_eq, Bool.not_eq_true', Bool.not_eq_false', Bool.or_eq_false_iff, decide_eq_false_iff_not] at h9; omega) | (have h9 := hb1; simp only [kd_box, kd_glue, kd_pen, kd_hyp, kd_forced, kd_note, kd_label, kd_page, Bool.or_eq_true, Bool.and_eq_true, decide_eq_true_eq, Bool.not_eq_true', Bool.not_eq_false', Bool.or_eq_false_iff, decide_eq_false_iff_not] at h9; omega) | (have h9 := hb2; simp only [kd_box, kd_glue, kd_pen, kd_hyp, kd_forced, kd_note, kd_label, kd_page, Bool.or_eq_true, Bool.and_eq_true, decide_eq_true_eq, Bool.not_eq_true', Bool.not_eq_false', Bool.or_eq_false_iff, decide_eq_false_iff_not] at h9; omega) | (have h9 := hi1; simp only [kd_box, kd_glue, kd_pen, kd_hyp, kd_forced, kd_note, kd_label, kd_page, Bool.or_eq_true, Bool.and_eq_true, decide_eq_true_eq, Bool.not_eq_true', Bool.not_eq_false', Bool.or_eq_false_iff, decide_eq_false_iff_not] at h9; omega) | (have h9 := hi2; simp only [kd_box, kd_glue, kd_pen, kd_hyp, kd_forced, kd_note, kd_label, kd_page, Bool.or_eq_true, Bool.and_eq_true, decide_eq_true_eq, Bool.not_eq_true', Bool.not_eq_false', Bool.or_eq_false_iff, decide_eq_false_iff_not] at h9; omega)) (by first | omega | decide +kernel | (simp only [List.length_cons, List.length_nil]; omega) | (have h9 := hb0; simp only [kd_box, kd_glue, kd_pen, kd_hyp, kd_forced, kd_note, kd_label, kd_page, Bool.or_eq_true, Bool.and_eq_true, decide_eq_true_eq, Bool.not_eq_true', Bool.not_eq_false', Bool.or_eq_false_iff, decide_eq_false_iff_not] at h9; omega) | (have h9 := hb1; simp only [kd_box, kd_glue, kd_pen, kd_hyp, kd_forced, kd_note, kd_label, kd_page, Bool.or_eq_true, Bool.and_eq_true, decide_eq_true_eq, Bool.not_eq_true', Bool.not_eq_false', Bool.or_eq_false_iff, decide_eq_false_iff_not] at h9; omega) | (have h9 := hb2; simp only [kd_box, kd_glue, kd_pen, kd_hyp, kd_forced, kd_note, kd_label, kd_page, Bool.or_eq_true, Bool.and_eq_true, decide_eq_true_eq, Bool.not_eq_true', Bool.not_eq_false', Bool.or_eq_false_iff, decide_eq_false_iff_not] at h9; omega) | (have h9 := hi1; simp only [kd_box, kd_glue, kd_pen, kd_hyp, kd_forced, kd_note, kd_label, kd_page, Bool.or_eq_true, Bool.and_eq_true, decide_eq_true_eq, Bool.not_eq_true', Bool.not_eq_false', Bool.or_eq_false_iff, decide_eq_false_iff_not] at h9; omega) | (have h9 := hi2; simp only [kd_box, kd_glue, kd_pen, kd_hyp, kd_forced, kd_note, kd_label, kd_page, Bool.or_eq_true, Bool.and_eq_true, decide_eq_true_eq, Bool.not_eq_true', Bool.not_eq_false', Bool.or_eq_false_iff, decide_eq_false_iff_not] at h9; omega)) fun sums_45 hsums_45 Hs44 s44 => ?_
        try dsimp only at hsums_45
        have lsums_45 : sums_45.length = sums_32.length := by rw [hsums_45, List.length_set]
        have s44 : Sg K Mc _ _ _ [(ps1, .lst (List.map Dx.toX sums_45))] := s44
        exact ⟨sums_45, _, (by subst hsums_45; subst hsums_2; first | (simp only [he35, hb37, if_true, if_false, Bool.false_eq_true, decide_true, decide_false, Option.getD_some, Option.isNone_none, Option.isNone_some, Bool.not_true, Bool.not_false, ↓reduceIte]; done) | (rfl; done) | ((skip); (dsimp only); (first | rw [he35] | skip); (try dsimp only); (first | rw [ifT hb37] | rw [ifF hb37] | skip); (try dsimp only); first | done | rfl) | (exfalso; simp at hb37; done)), rfl, s44.keep fun _ h => ⟨h.2.1, True.intro⟩⟩
      · have hb37P := hb37
        try simp only [kd_box, kd_glue, kd_pen, kd_hyp, kd_forced, kd_note, kd_label, kd_page, decide_eq_true_eq, decide_eq_false_iff_not, Bool.not_eq_true', Bool.not_eq_false', Bool.and_eq_true, Bool.or_eq_true, Bool.or_eq_false_iff] at hb37P
        exact ⟨sums_32, _, (by subst hsums_2; first | (simp only [he35, hb37, if_true, if_false, Bool.false_eq_true, decide_true, decide_false, Option.getD_some, Option.isNone_none, Option.isNone_some, Bool.not_true, Bool.not_false, ↓reduceIte]; done) | (rfl; done) | ((skip); (dsimp only); (first | rw [he35] | skip); (try dsimp only); (first | rw [ifT hb37] | rw [ifF hb37] | skip); (try dsimp only); first | done | rfl) | (exfalso; simp at hb37; done)), rfl, s39.keep fun _ h => ⟨h.2.1, True.intro⟩⟩
      · obtain ⟨sums_40, o43, hj41, rfl, s42⟩ := hN
        try dsimp only at hj41
        have lj3 : sums_40.length = 3 := by rw [hj41]; split <;> (try simp only [List.length_set]) <;> omega
        have s46 := Sg.frz (xs := sums_40) s42
        have hF47 : m_law_sums items_ start_ end_ = sums_40 := (by subst hsums_2; first | (simp only [m_law_sums, he35, hj41, if_true, if_false, Bool.false_eq_true, decide_true, decide_false, Option.getD_some, Option.isNone_none, Option.isNone_some, Bool.not_true, Bool.not_false, ↓reduceIte]; done) | (simp only [m_law_sums, he35, ← hj41, if_true, if_false, Bool.false_eq_true, decide_true, decide_false, Option.getD_some, Option.isNone_none, Option.isNone_some, Bool.not_true, Bool.not_false, ↓reduceIte]; done) | (rfl; done) | ((unfold m_law_sums); (dsimp only); (first | rw [he35] | skip); (try dsimp only); (first | rw [← hj41] | rw [hj41] | skip); (try dsimp only); first | done | rfl))
        exact zq_ret s46 (hv_var (x := sums_40) rfl s46.im.1) fun v H' e d => q v H' e (by rw [hF47]; exact d)
theorem sums_fold (xs : List Itm) : ∀ a b c : Int, xs.foldl m_law_sums_l0 [a, b, c] = [a + (xs.map m_width_of_item).sum, b + (xs.map m_stretch_of_item).sum, c + (xs.map m_shrink_of_item).sum] := by
  induction xs with
  | nil => intro a b c; simp
  | cons x xs ih =>
    intro a b c
    have e : m_law_sums_l0 [a, b, c] x = [a + m_width_of_item x, b + m_stretch_of_item x, c + m_shrink_of_item x] := by
      unfold m_law_sums_l0 m_width_of_item m_stretch_of_item m_shrink_of_item
      dsimp only
      split <;> split <;> simp_all
    rw [List.foldl_cons, e, ih]
    simp only [List.map_cons, List.sum_cons, Int.add_assoc]
theorem sums_val (its : List Itm) (s e : Int) : m_law_sums its s e = [((m_law_shown its s e).map m_width_of_item).sum + (if (decide ((Itm.kind (its.getD (Int.toNat (e - 1)) Itm.forced)) = (PySem.Str.ofString "hyphen"))) = true then (its.getD (Int.toNat (e - 1)) Itm.forced).at1 else 0), ((m_law_shown its s e).map m_stretch_of_item).sum, ((m_law_shown its s e).map m_shrink_of_item).sum] := by
  unfold m_law_sums
  dsimp only
  rw [sums_fold]
  split
  · simp
  · simp
theorem sums_len (its : List Itm) (s e : Int) : (m_law_sums its s e).length = 3 := by rw [sums_val]; rfl

theorem measure_sums (its : List Itm) {s e : Int} (h0 : 0 ≤ s) (h1 : s < e) (h2 : e ≤ (its.length : Int)) : m_Measures_measure (m_Measures___init__ its) s e = T3.mk ((m_law_sums its s e).getD (Int.toNat 0) 0) ((m_law_sums its s e).getD (Int.toNat 1) 0) ((m_law_sums its s e).getD (Int.toNat 2) 0) := by
  obtain ⟨e', rfl⟩ := Int.eq_ofNat_of_zero_le (show 0 ≤ e by omega)
  obtain ⟨s', rfl⟩ := Int.eq_ofNat_of_zero_le h0
  obtain ⟨f, l, e1, e2, e3, _⟩ := bounds_at its (s := s') (e := e') (by omega) (by omega)
  rw [measure_at its (by omega) (by omega) e2 e1 e3, sums_val, shown_eq its (by omega) (by omega) e1]
  have hh : m_Measures_hyphen_width (m_Measures___init__ its) (e' : Int) = (if (decide ((Itm.kind (its.getD (Int.toNat ((e' : Int) - 1)) Itm.forced)) = (PySem.Str.ofString "hyphen"))) = true then (its.getD (Int.toNat ((e' : Int) - 1)) Itm.forced).at1 else 0) := by
    unfold m_Measures_hyphen_width m_Measures_has_hyphen
    rw [decide_eq_true (show (0 : Int) < (e' : Int) by omega), Bool.true_and]
    rfl
  rw [hh]
  rfl
theorem law_sums_bd {its : List Itm} (hl : its.length ≤ 1000) (hi : ∀ i ∈ its, ItOk i) {s e : Int} (h0 : 0 ≤ s) (h1 : s < e) (h2 : e ≤ (its.length : Int)) : (m_law_sums its s e).length = 3 ∧ (0 ≤ (m_law_sums its s e).getD (Int.toNat 0) 0 ∧ (m_law_sums its s e).getD (Int.toNat 0) 0 ≤ 2000000) ∧ (0 ≤ (m_law_sums its s e).getD (Int.toNat 1) 0 ∧ (m_law_sums its s e).getD (Int.toNat 1) 0 ≤ 2000000) ∧ (0 ≤ (m_law_sums its s e).getD (Int.toNat 2) 0 ∧ (m_law_sums its s e).getD (Int.toNat 2) 0 ≤ 2000000) := by
  refine ⟨sums_len _ _ _, ?_⟩
  have := measure_bd (o := m_Measures___init__ its) ⟨its, rfl, hl, hi⟩ (s := s) (e := e) h0 (by omega) h2
  rw [measure_sums its h0 h1 h2] at this
  exact this

def m_least_width_l0  (s_ : (List (Option Int))) (x_ : Int) : (List (Option Int)) :=
  let least_ : (List (Option Int)) := s_
  let __ : Int := x_
  let least_ : (List (Option Int)) := least_ ++ [none]
  least_
def m_least_width_l2 (start_ : Int) (measures_ : Cl_Measures) (s_ : (List (Option Int))) (x_ : Int) : (List (Option Int)) :=
  let least_ : (List (Option Int)) := s_
  let end_ : Int := x_
  let needed_ : Int := (max (Option.getD (least_.getD (Int.toNat start_) none) 0) (m_Measures_measure measures_ start_ end_).a)
  if ((Option.isNone (least_.getD (Int.toNat end_) none)) || (decide (needed_ < (Option.getD (least_.getD (Int.toNat end_) none) 0)))) = true then
    let least_ : (List (Option Int)) := (List.set least_ (Int.toNat end_) needed_)
    least_
  else
    least_
def m_least_width_l1 (measures_ : Cl_Measures) (s_ : (List (Option Int))) (x_ : Int) : (List (Option Int)) :=
  let least_ : (List (Option Int)) := s_
  let start_ : Int := x_
  if (Option.isNone (least_.getD (Int.toNat start_) none)) = true then
    least_
  else
    let r2_ : (List (Option Int)) := List.foldl (m_least_width_l2 start_ measures_) least_ (m_Measures_ends_behind measures_ start_)
    let least_ : (List (Option Int)) := r2_
    least_
def m_least_width (measures_ : Cl_Measures) : (Option Int) :=
  let least_ : (List (Option Int)) := [(0 : Int)]
  let r0_ : (List (Option Int)) := loopN m_least_width_l0 (Int.toNat (measures_.f_count)) (0 : Int) least_
  let least_ : (List (Option Int)) := r0_
  let r1_ : (List (Option Int)) := loopN (m_least_width_l1 measures_) (Int.toNat (measures_.f_count)) (0 : Int) least_
  let least_ : (List (Option Int)) := r1_
  (least_.getD (Int.toNat (measures_.f_count)) none)
abbrev s_least_width : Stmt := (topS 16)
theorem sc_least_width : FnScope ["measures", "least", "_", "start", "end", "needed"] ["measures"] (defScope s_least_width) := ⟨rfl, rfl, rfl, by decide +kernel, rfl, by decide +kernel, by decide +kernel⟩
abbrev sp_least_width (K : PySem.W.Frag) : Sp := PrD K (fun c : Cl_Measures => [Dx.toX c]) (fun c => GoodM c) (fun c => (m_least_width c : (Option Int)))
theorem ok_least_width (T : Txt K mg) : FnOk P w K mg base CX0 4 T.f_least_width T.d_least_width ["measures"] (sp_least_width K) := by
  refine T.u_least_width.ok sc_least_width (fun vs H Q E h => ?_) (fun cdv A outer s H vs Q E hr h => ?_)
  · obtain ⟨Mc, c, mok, da, pre, q⟩ := h
    exact (dpa_len da)
  · obtain ⟨Mc, c, mok, da, pre, q⟩ := h
    obtain ⟨measures_, rfl⟩ : ∃ z, z = c := ⟨c, rfl⟩
    dsimp only at da pre q
    obtain ⟨v0, w0, rfl, d0, da0⟩ := dpa_inv da
    cases dpa_inv0 da0
    have s0 : Sg K Mc H H [(v0, Dx.toX measures_)] [] := Sg.enter mok ⟨d0, True.intro⟩
    have ok := pre.ok
    have ok0 := ok.cnt
    have ok1 := ok.prt
    have ok2 := ok.wid
    have ok3 := ok.str
    have ok4 := ok.shr
    have ok5 := ok.eds
    have ok6 := ok.nen
    have ok7 := ok.nfo
    have ok8 := ok.nso
    have ok9 := ok.fke
    have oka := ok.kbe
    have cn := good_cnt pre
    refine ⟨_, (pss_cons (ps_set (i := 1) sc_least_width.nd rfl (.inl rfl) (pe_lst (pa_cons pe_int pa_nil))) (pss_cons (ps_for PassesOwn.never rfl (pi_range1 (by rfl) T.n_range (pa_cons (pe_fld (pv 0) rfl) pa_nil)) (pg_name (i := 2) sc_least_width.nd rfl (.inl rfl)) (pss_cons (ps_expr (pe_bm PySem.F.plainAttrs_list PySem.F.slot_list_append PySem.F.type_list_append mt_append (pv 1) (pa_cons pe_non pa_nil))) pss_nil)) (pss_cons (ps_for PassesOwn.never rfl (pi_range1 (by rfl) T.n_range (pa_cons (pe_fld (pv 0) rfl) pa_nil)) (pg_name (i := 3) sc_least_width.nd rfl (.inl rfl)) (pss_cons (ps_if (pt_cmpR op_isN (pe_ix ix_list (pv 1) (pv 3) (fun _ _ => rfl)) pe_non (nomark _)) (pss_cons ps_continue pss_nil) pss_nil) (pss_cons (ps_for PassesOwn.never rfl (pi_list (pe_meth (pv 0) T.c_Measures.cl T.mt_Measures_ends_behind (ok_Measures_ends_behind T) (hr.mono (by decide)) T.b_Measures_ends_behind .nil pass0 (pa_cons (pv 3) pa_nil))) (pg_name (i := 4) sc_least_width.nd rfl (.inl rfl)) (pss_cons (ps_set (i := 5) sc_least_width.nd rfl (.inl rfl) (pe_callB (call_max2 rfl) (by rfl) T.n_max (by decide +kernel) (pa_cons (pe_ix ix_list (pv 1) (pv 3) (fun _ _ => rfl)) (pa_cons (pe_ix ix_tup (pe_meth (pv 0) T.c_Measures.cl T.mt_Measures_measure (ok_Measures_measure T) hr T.b_Measures_measure .nil pass0 (pa_cons (pv 3) (pa_cons (pv 4) pa_nil))) pe_int (fun _ _ => rfl)) pa_nil)))) (pss_cons (ps_if (PW.pt (pw_or (pt_cmpR op_isN (pe_ix ix_list (pv 1) (pv 4) (fun _ _ => rfl)) pe_non (nomark _)) (pw_or1 (pt_cmpR op_lt (pv 5) (pe_ix ix_list (pv 1) (pv 4) (fun _ _ => rfl)) (nomark _))))) (pss_cons (ps_asg (pv 5) (pg_sub (pv 1) (pv 4) set_list)) pss_nil) pss_nil) pss_nil))) pss_nil))) (pss_cons (ps_ret (pe_ix ix_list (pv 1) (pe_fld (pv 0) rfl) (fun _ _ => rfl))) pss_nil)))), ?_⟩
    refine z_freshG s0 (hf_lst (has_cons (hv_some (hv_int 0)) has_nil) (Nat.le_of_ble_eq_true rfl)) fun least_2 hleast_2 ps1 Hs1 s1 => ?_
    try dsimp only at hleast_2
    have lleast_2 := congrArg List.length hleast_2
    try simp only [List.length_map, irng_len, List.length_flatten, List.map_replicate, List.sum_replicate_nat, List.length_cons, List.length_nil] at lleast_2
    refine zq_forR1G s1 (hv_fld (x := (measures_.f_count)) 1 (hv_var (x := measures_) rfl s1.im.1) T.c_Measures T.na_Measures_count rfl nd_Measures rfl rfl) (by first | omega | decide +kernel | (simp only [List.length_cons, List.length_nil]; omega) | (have h9 := hb0; simp only [kd_box, kd_glue, kd_pen, kd_hyp, kd_forced, kd_note, kd_label, kd_page, Bool.or_eq_true, Bool.and_eq_true, decide_eq_true_eq, Bool.not_eq_true', Bool.not_eq_false', Bool.or_eq_false_iff, decide_eq_false_iff_not] at h9; omega) | (have h9 := hb1; simp only [kd_box, kd_glue, kd_pen, kd_hyp, kd_forced, kd_note, kd_label, kd_page, Bool.or_eq_true, Bool.and_eq_true, decide_eq_true_eq, Bool.not_eq_true', Bool.not_eq_false', Bool.or_eq_false_iff, decide_eq_false_iff_not] at h9; omega) | (have h9 := hb2; simp only [kd_box, kd_glue, kd_pen, kd_hyp, kd_forced, kd_note, kd_label, kd_page, Bool.or_eq_true, Bool.and_eq_true, decide_eq_true_eq, Bool.not_eq_true', Bool.not_eq_false', Bool.or_eq_false_iff, decide_eq_false_iff_not] at h9; omega) | (have h9 := hi1; simp only [kd_box, kd_glue, kd_pen, kd_hyp, kd_forced, kd_note, kd_label, kd_page, Bool.or_eq_true, Bool.and_eq_true, decide_eq_true_eq, Bool.not_eq_true', Bool.not_eq_false', Bool.or_eq_false_iff, decide_eq_false_iff_not] at h9; omega) | (have h9 := hi2; simp only [kd_box, kd_glue, kd_pen, kd_hyp, kd_forced, kd_note, kd_label, kd_page, Bool.or_eq_true, Bool.and_eq_true, decide_eq_true_eq, Bool.not_eq_true', Bool.not_eq_false', Bool.or_eq_false_iff, decide_eq_false_iff_not] at h9; omega)) (fun i σ' H' => ∃ (least_3 : (List (Option Int))) (o4 : Option V) (o5 : Option V) (o6 : Option V) (o7 : Option V), (loopN m_least_width_l0 (Int.toNat (measures_.f_count)) (0 : Int) least_2 : (List (Option Int))) = (loopN m_least_width_l0 ((Int.toNat (measures_.f_count)) - i) ((0 : Int) + (i : Int)) least_3 : (List (Option Int))) ∧ (least_3.length = (i) + 1) ∧ σ' = [some v0, some (.ref ps1), o4, o5, o6, o7] ∧ Sg K Mc H H' [(v0, Dx.toX measures_)] [(ps1, .lst (List.map Dx.toX least_3))]) (fun Hs8 s8 => ⟨least_2, _, _, _, _, (by simp), (by first | trivial | omega | (simp; done) | simp_all), rfl, s8.keep fun _ h => ⟨h.1, True.intro⟩⟩) (fun i12 x13 σ' Hs11 hx14 hi15 hP => ?_) (fun σ' Hs11 hP => ?_)
    · obtain ⟨least_3, o4, o5, o6, o7, he9, hg10, rfl, s11⟩ := hP
      refine zq_appG s11 (kk := 0) rfl (ev_var rfl) (hv_none (α := Int)) (by first | omega | decide +kernel | (simp only [List.length_cons, List.length_nil]; omega) | (have h9 := hb0; simp only [kd_box, kd_glue, kd_pen, kd_hyp, kd_forced, kd_note, kd_label, kd_page, Bool.or_eq_true, Bool.and_eq_true, decide_eq_true_eq, Bool.not_eq_true', Bool.not_eq_false', Bool.or_eq_false_iff, decide_eq_false_iff_not] at h9; omega) | (have h9 := hb1; simp only [kd_box, kd_glue, kd_pen, kd_hyp, kd_forced, kd_note, kd_label, kd_page, Bool.or_eq_true, Bool.and_eq_true, decide_eq_true_eq, Bool.not_eq_true', Bool.not_eq_false', Bool.or_eq_false_iff, decide_eq_false_iff_not] at h9; omega) | (have h9 := hb2; simp only [kd_box, kd_glue, kd_pen, kd_hyp, kd_forced, kd_note, kd_label, kd_page, Bool.or_eq_true, Bool.and_eq_true, decide_eq_true_eq, Bool.not_eq_true', Bool.not_eq_false', Bool.or_eq_false_iff, decide_eq_false_iff_not] at h9; omega) | (have h9 := hi1; simp only [kd_box, kd_glue, kd_pen, kd_hyp, kd_forced, kd_note, kd_label, kd_page, Bool.or_eq_true, Bool.and_eq_true, decide_eq_true_eq, Bool.not_eq_true', Bool.not_eq_false', Bool.or_eq_false_iff, decide_eq_false_iff_not] at h9; omega) | (have h9 := hi2; simp only [kd_box, kd_glue, kd_pen, kd_hyp, kd_forced, kd_note, kd_label, kd_page, Bool.or_eq_true, Bool.and_eq_true, decide_eq_true_eq, Bool.not_eq_true', Bool.not_eq_false', Bool.or_eq_false_iff, decide_eq_false_iff_not] at h9; omega)) fun least_18 hleast_18 Hs17 s17 => ?_
      have lleast_18 : least_18.length = least_3.length + 1 := by rw [hleast_18, List.length_append]; rfl
      have s17 : Sg K Mc _ _ _ [(ps1, .lst (List.map Dx.toX least_18))] := s17
      have hf19 : m_least_width_l0 least_3 x13 = least_18 := (by subst hleast_18; subst hleast_2; first | (simp only [m_least_width_l0, if_true, if_false, Bool.false_eq_true, decide_true, decide_false, Option.getD_some, Option.isNone_none, Option.isNone_some, Bool.not_true, Bool.not_false, ↓reduceIte]; done) | (rfl; done) | ((unfold m_least_width_l0); (dsimp only); first | done | rfl))
      exact ⟨least_18, _, _, _, _, he9.trans ((loopN_step hi15).trans (by rw [← hx14, hf19])), (by first | trivial | omega | (simp_all; done) | (simp_all; omega)), rfl, s17.keep fun _ h => ⟨h.1, True.intro⟩⟩
    · obtain ⟨least_20, o21, o22, o23, o24, he26, hg27, rfl, s25⟩ := hP
      rw [loopN_end] at he26
      refine zq_forR1G s25 (hv_fld (x := (measures_.f_count)) 1 (hv_var (x := measures_) rfl s25.im.1) T.c_Measures T.na_Measures_count rfl nd_Measures rfl rfl) (by first | omega | decide +kernel | (simp only [List.length_cons, List.length_nil]; omega) | (have h9 := hb0; simp only [kd_box, kd_glue, kd_pen, kd_hyp, kd_forced, kd_note, kd_label, kd_page, Bool.or_eq_true, Bool.and_eq_true, decide_eq_true_eq, Bool.not_eq_true', Bool.not_eq_false', Bool.or_eq_false_iff, decide_eq_false_iff_not] at h9; omega) | (have h9 := hb1; simp only [kd_box, kd_glue, kd_pen, kd_hyp, kd_forced, kd_note, kd_label, kd_page, Bool.or_eq_true, Bool.and_eq_true, decide_eq_true_eq, Bool.not_eq_true', Bool.not_eq_false', Bool.or_eq_false_iff, decide_eq_false_iff_not] at h9; omega) | (have h9 := hb2; simp only [kd_box, kd_glue, kd_pen, kd_hyp, kd_forced, kd_note, kd_label, kd_page, Bool.or_eq_true, Bool.and_eq_true, decide_eq_true_eq, Bool.not_eq_true', Bool.not_eq_false', Bool.or_eq_false_iff, decide_eq_false_iff_not] at h9; omega) | (have h9 := hi1; simp only [kd_box, kd_glue, kd_pen, kd_hyp, kd_forced, kd_note, kd_label, kd_page, Bool.or_eq_true, Bool.and_eq_true, decide_eq_true_eq, Bool.not_eq_true', Bool.not_eq_false', Bool.or_eq_false_iff, decide_eq_false_iff_not] at h9; omega) | (have h9 := hi2; simp only [kd_box, kd_glue, kd_pen, kd_hyp, kd_forced, kd_note, kd_label, kd_page, Bool.or_eq_true, Bool.and_eq_true, decide_eq_true_eq, Bool.not_eq_true', Bool.not_eq_false', Bool.or_eq_false_iff, decide_eq_false_iff_not] at h9; omega)) (fun i σ' H' => ∃ (least_28 : (List (Option Int))) (o29 : Option V) (o30 : Option V) (o31 : Option V) (o32 : Option V), (loopN (m_least_width_l1 measures_) (Int.toNat (measures_.f_count)) (0 : Int) least_20 : (List (Option Int))) = (loopN (m_least_width_l1 measures_) ((Int.toNat (measures_.f_count)) - i) ((0 : Int) + (i : Int)) least_28 : (List (Option Int))) ∧ ((least_28.length : Int) = measures_.f_count + 1) ∧ σ' = [some v0, some (.ref ps1), o29, o30, o31, o32] ∧ Sg K Mc H H' [(v0, Dx.toX measures_)] [(ps1, .lst (List.map Dx.toX least_28))]) (fun Hs33 s33 => ⟨least_20, _, _, _, _, (by simp), (by first | trivial | omega | (simp; done) | simp_all), rfl, s33.keep fun _ h => ⟨h.1, True.intro⟩⟩) (fun i37 x38 σ' Hs36 hx39 hi40 hP => ?_) (fun σ' Hs36 hP => ?_)
      · obtain ⟨least_28, o29, o30, o31, o32, he34, hg35, rfl, s36⟩ := hP
        refine z_ifx (b := (Option.isNone (least_28.getD (Int.toNat x38) none))) s36 (ht_val (K := K) (hv_isN (hv_at none (hs_mut s36 (k := 0) rfl rfl) (hv_vI rfl) (by first | omega | decide +kernel | (simp only [List.length_cons, List.length_nil]; omega) | (have h9 := hb0; simp only [kd_box, kd_glue, kd_pen, kd_hyp, kd_forced, kd_note, kd_label, kd_page, Bool.or_eq_true, Bool.and_eq_true, decide_eq_true_eq, Bool.not_eq_true', Bool.not_eq_false', Bool.or_eq_false_iff, decide_eq_false_iff_not] at h9; omega) | (have h9 := hb1; simp only [kd_box, kd_glue, kd_pen, kd_hyp, kd_forced, kd_note, kd_label, kd_page, Bool.or_eq_true, Bool.and_eq_true, decide_eq_true_eq, Bool.not_eq_true', Bool.not_eq_false', Bool.or_eq_false_iff, decide_eq_false_iff_not] at h9; omega) | (have h9 := hb2; simp only [kd_box, kd_glue, kd_pen, kd_hyp, kd_forced, kd_note, kd_label, kd_page, Bool.or_eq_true, Bool.and_eq_true, decide_eq_true_eq, Bool.not_eq_true', Bool.not_eq_false', Bool.or_eq_false_iff, decide_eq_false_iff_not] at h9; omega) | (have h9 := hi1; simp only [kd_box, kd_glue, kd_pen, kd_hyp, kd_forced, kd_note, kd_label, kd_page, Bool.or_eq_true, Bool.and_eq_true, decide_eq_true_eq, Bool.not_eq_true', Bool.not_eq_false', Bool.or_eq_false_iff, decide_eq_false_iff_not] at h9; omega) | (have h9 := hi2; simp only [kd_box, kd_glue, kd_pen, kd_hyp, kd_forced, kd_note, kd_label, kd_page, Bool.or_eq_true, Bool.and_eq_true, decide_eq_true_eq, Bool.not_eq_true', Bool.not_eq_false', Bool.or_eq_false_iff, decide_eq_false_iff_not] at h9; omega)) (by first | omega | decide +kernel | (simp only [List.length_cons, List.length_nil]; omega) | (have h9 := hb0; simp only [kd_box, kd_glue, kd_pen, kd_hyp, kd_forced, kd_note, kd_label, kd_page, Bool.or_eq_true, Bool.and_eq_true, decide_eq_true_eq, Bool.not_eq_true', Bool.not_eq_false', Bool.or_eq_false_iff, decide_eq_false_iff_not] at h9; omega) | (have h9 := hb1; simp only [kd_box, kd_glue, kd_pen, kd_hyp, kd_forced, kd_note, kd_label, kd_page, Bool.or_eq_true, Bool.and_eq_true, decide_eq_true_eq, Bool.not_eq_true', Bool.not_eq_false', Bool.or_eq_false_iff, decide_eq_false_iff_not] at h9; omega) | (have h9 := hb2; simp only [kd_box, kd_glue, kd_pen, kd_hyp, kd_forced, kd_note, kd_label, kd_page, Bool.or_eq_true, Bool.and_eq_true, decide_eq_true_eq, Bool.not_eq_true', Bool.not_eq_false', Bool.or_eq_false_iff, decide_eq_false_iff_not] at h9; omega) | (have h9 := hi1; simp only [kd_box, kd_glue, kd_pen, kd_hyp, kd_forced, kd_note, kd_label, kd_page, Bool.or_eq_true, Bool.and_eq_true, decide_eq_true_eq, Bool.not_eq_true', Bool.not_eq_false', Bool.or_eq_false_iff, decide_eq_false_iff_not] at h9; omega) | (have h9 := hi2; simp only [kd_box, kd_glue, kd_pen, kd_hyp, kd_forced, kd_note, kd_label, kd_page, Bool.or_eq_true, Bool.and_eq_true, decide_eq_true_eq, Bool.not_eq_true', Bool.not_eq_false', Bool.or_eq_false_iff, decide_eq_false_iff_not] at h9; omega))))) (fun hb42 Hs43 s43 => ?_) (fun hb42 Hs44 s44 => ?_)
        · have hb42P := hb42
          try simp only [kd_box, kd_glue, kd_pen, kd_hyp, kd_forced, kd_note, kd_label, kd_page, decide_eq_true_eq, decide_eq_false_iff_not, Bool.not_eq_true', Bool.not_eq_false', Bool.and_eq_true, Bool.or_eq_true, Bool.or_eq_false_iff] at hb42P
          have hf45 : (m_least_width_l1 measures_) least_28 x38 = least_28 := (by subst hleast_2; first | (simp only [m_least_width_l1, he26, hb42, if_true, if_false, Bool.false_eq_true, decide_true, decide_false, Option.getD_some, Option.isNone_none, Option.isNone_some, Bool.not_true, Bool.not_false, ↓reduceIte]; done) | (rfl; done) | ((unfold m_least_width_l1); (dsimp only); (first | rw [he26] | skip); (try dsimp only); (first | rw [ifT hb42] | rw [ifF hb42] | skip); (try dsimp only); first | done | rfl) | (exfalso; simp at hb42; done))
          exact ⟨least_28, _, _, _, _, he34.trans ((loopN_step hi40).trans (by rw [← hx39, hf45])), (by first | trivial | omega | (simp_all; done) | (simp_all; omega)), rfl, s43.keep fun _ h => ⟨h.1, True.intro⟩⟩
        · have hb42P := hb42
          try simp only [kd_box, kd_glue, kd_pen, kd_hyp, kd_forced, kd_note, kd_label, kd_page, decide_eq_true_eq, decide_eq_false_iff_not, Bool.not_eq_true', Bool.not_eq_false', Bool.and_eq_true, Bool.or_eq_true, Bool.or_eq_false_iff] at hb42P
          refine zq_forG s44 (hv_meth (measures_, x38) (hv_var (x := measures_) rfl s44.im.1) T.c_Measures rfl (by decide +kernel) (hd_cons (hv_vI rfl) hd_nil) rfl (by (try dsimp only); exact ⟨pre.ok, by omega, by omega, by omega⟩)) (fun vsrc2 i σ' H' => ∃ (least_46 : (List (Option Int))) (o47 : Option V) (o48 : Option V) (o49 : Option V), (List.foldl (m_least_width_l2 x38 measures_) least_28 (m_Measures_ends_behind measures_ x38) : (List (Option Int))) = (List.foldl (m_least_width_l2 x38 measures_) least_46 (List.drop i (m_Measures_ends_behind measures_ x38)) : (List (Option Int))) ∧ ((least_46.length : Int) = measures_.f_count + 1 ∧ least_46.getD (Int.toNat x38) none ≠ none) ∧ σ' = [some v0, some (.ref ps1), o47, some (V.int x38), o48, o49] ∧ Sg K Mc H H' [(vsrc2, Dx.toX (m_Measures_ends_behind measures_ x38)), (v0, Dx.toX measures_)] [(ps1, .lst (List.map Dx.toX least_46))]) (fun vsrc2 Hs50 s50 => ⟨least_28, _, _, _, rfl, (by refine ⟨by omega, fun z => ?_⟩; have h9 := ‹Option.isNone _ = false›; rw [z] at h9; cases h9), rfl, s50.keep fun _ h => ⟨h.1, ⟨h.2.1, True.intro⟩⟩⟩) (fun vsrc2 i σ' H' hP => by obtain ⟨least_46, o47, o48, o49, he, hg, hs, hS⟩ := hP; exact hS.im.1) (fun vsrc2 i54 x55 wx55 σ' Hs53 hi57 hP hx56 => ?_) (fun vsrc2 σ' Hs53 hP => ?_)
          · obtain ⟨least_46, o47, o48, o49, he51, hg52, rfl, s53⟩ := hP
            have qx55 := (List.getElem?_eq_some_iff.mp hi57).1
            cases (Dt.int hx56)
            have hg52q0 := hg52.1
            have hg52q1 := hg52.2
            have ls9 := hg52.2
            have e9 := ends_in measures_ x38 (by omega) x55 (List.mem_of_getElem? hi57)
            refine z_asgIG s53 (hv_max2 (hv_unopt (hv_at none (hs_mut s53 (k := 0) rfl rfl) (hv_vI rfl) (by first | omega | decide +kernel | (simp only [List.length_cons, List.length_nil]; omega) | (have h9 := hb0; simp only [kd_box, kd_glue, kd_pen, kd_hyp, kd_forced, kd_note, kd_label, kd_page, Bool.or_eq_true, Bool.and_eq_true, decide_eq_true_eq, Bool.not_eq_true', Bool.not_eq_false', Bool.or_eq_false_iff, decide_eq_false_iff_not] at h9; omega) | (have h9 := hb1; simp only [kd_box, kd_glue, kd_pen, kd_hyp, kd_forced, kd_note, kd_label, kd_page, Bool.or_eq_true, Bool.and_eq_true, decide_eq_true_eq, Bool.not_eq_true', Bool.not_eq_false', Bool.or_eq_false_iff, decide_eq_false_iff_not] at h9; omega) | (have h9 := hb2; simp only [kd_box, kd_glue, kd_pen, kd_hyp, kd_forced, kd_note, kd_label, kd_page, Bool.or_eq_true, Bool.and_eq_true, decide_eq_true_eq, Bool.not_eq_true', Bool.not_eq_false', Bool.or_eq_false_iff, decide_eq_false_iff_not] at h9; omega) | (have h9 := hi1; simp only [kd_box, kd_glue, kd_pen, kd_hyp, kd_forced, kd_note, kd_label, kd_page, Bool.or_eq_true, Bool.and_eq_true, decide_eq_true_eq, Bool.not_eq_true', Bool.not_eq_false', Bool.or_eq_false_iff, decide_eq_false_iff_not] at h9; omega) | (have h9 := hi2; simp only [kd_box, kd_glue, kd_pen, kd_hyp, kd_forced, kd_note, kd_label, kd_page, Bool.or_eq_true, Bool.and_eq_true, decide_eq_true_eq, Bool.not_eq_true', Bool.not_eq_false', Bool.or_eq_false_iff, decide_eq_false_iff_not] at h9; omega)) (by first | omega | decide +kernel | (simp only [List.length_cons, List.length_nil]; omega) | (have h9 := hb0; simp only [kd_box, kd_glue, kd_pen, kd_hyp, kd_forced, kd_note, kd_label, kd_page, Bool.or_eq_true, Bool.and_eq_true, decide_eq_true_eq, Bool.not_eq_true', Bool.not_eq_false', Bool.or_eq_false_iff, decide_eq_false_iff_not] at h9; omega) | (have h9 := hb1; simp only [kd_box, kd_glue, kd_pen, kd_hyp, kd_forced, kd_note, kd_label, kd_page, Bool.or_eq_true, Bool.and_eq_true, decide_eq_true_eq, Bool.not_eq_true', Bool.not_eq_false', Bool.or_eq_false_iff, decide_eq_false_iff_not] at h9; omega) | (have h9 := hb2; simp only [kd_box, kd_glue, kd_pen, kd_hyp, kd_forced, kd_note, kd_label, kd_page, Bool.or_eq_true, Bool.and_eq_true, decide_eq_true_eq, Bool.not_eq_true', Bool.not_eq_false', Bool.or_eq_false_iff, decide_eq_false_iff_not] at h9; omega) | (have h9 := hi1; simp only [kd_box, kd_glue, kd_pen, kd_hyp, kd_forced, kd_note, kd_label, kd_page, Bool.or_eq_true, Bool.and_eq_true, decide_eq_true_eq, Bool.not_eq_true', Bool.not_eq_false', Bool.or_eq_false_iff, decide_eq_false_iff_not] at h9; omega) | (have h9 := hi2; simp only [kd_box, kd_glue, kd_pen, kd_hyp, kd_forced, kd_note, kd_label, kd_page, Bool.or_eq_true, Bool.and_eq_true, decide_eq_true_eq, Bool.not_eq_true', Bool.not_eq_false', Bool.or_eq_false_iff, decide_eq_false_iff_not] at h9; omega))) (by exact ls9)) (hv_t30 (p := (m_Measures_measure measures_ x38 x55)) (hv_meth (measures_, x38, x55) (hv_var (x := measures_) rfl s53.im.2.1) T.c_Measures rfl (by decide +kernel) (hd_cons (hv_vI rfl) (hd_cons (hv_vI rfl) hd_nil)) rfl (by (try dsimp only); exact ⟨pre.ok, by omega, by omega, by omega⟩)))) fun needed_60 hneeded_60 Hs59 s59 => ?_
            try dsimp only at hneeded_60
            refine z_ifx (b := ((Option.isNone (least_46.getD (Int.toNat x55) none)) || (decide (needed_60 < (Option.getD (least_46.getD (Int.toNat x55) none) 0))))) s59 (ht_or (ht_val (K := K) (hv_isN (hv_at none (hs_mut s59 (k := 0) rfl rfl) (hv_vI rfl) (by first | omega | decide +kernel | (simp only [List.length_cons, List.length_nil]; omega) | (have h9 := hb0; simp only [kd_box, kd_glue, kd_pen, kd_hyp, kd_forced, kd_note, kd_label, kd_page, Bool.or_eq_true, Bool.and_eq_true, decide_eq_true_eq, Bool.not_eq_true', Bool.not_eq_false', Bool.or_eq_false_iff, decide_eq_false_iff_not] at h9; omega) | (have h9 := hb1; simp only [kd_box, kd_glue, kd_pen, kd_hyp, kd_forced, kd_note, kd_label, kd_page, Bool.or_eq_true, Bool.and_eq_true, decide_eq_true_eq, Bool.not_eq_true', Bool.not_eq_false', Bool.or_eq_false_iff, decide_eq_false_iff_not] at h9; omega) | (have h9 := hb2; simp only [kd_box, kd_glue, kd_pen, kd_hyp, kd_forced, kd_note, kd_label, kd_page, Bool.or_eq_true, Bool.and_eq_true, decide_eq_true_eq, Bool.not_eq_true', Bool.not_eq_false', Bool.or_eq_false_iff, decide_eq_false_iff_not] at h9; omega) | (have h9 := hi1; simp only [kd_box, kd_glue, kd_pen, kd_hyp, kd_forced, kd_note, kd_label, kd_page, Bool.or_eq_true, Bool.and_eq_true, decide_eq_true_eq, Bool.not_eq_true', Bool.not_eq_false', Bool.or_eq_false_iff, decide_eq_false_iff_not] at h9; omega) | (have h9 := hi2; simp only [kd_box, kd_glue, kd_pen, kd_hyp, kd_forced, kd_note, kd_label, kd_page, Bool.or_eq_true, Bool.and_eq_true, decide_eq_true_eq, Bool.not_eq_true', Bool.not_eq_false', Bool.or_eq_false_iff, decide_eq_false_iff_not] at h9; omega)) (by first | omega | decide +kernel | (simp only [List.length_cons, List.length_nil]; omega) | (have h9 := hb0; simp only [kd_box, kd_glue, kd_pen, kd_hyp, kd_forced, kd_note, kd_label, kd_page, Bool.or_eq_true, Bool.and_eq_true, decide_eq_true_eq, Bool.not_eq_true', Bool.not_eq_false', Bool.or_eq_false_iff, decide_eq_false_iff_not] at h9; omega) | (have h9 := hb1; simp only [kd_box, kd_glue, kd_pen, kd_hyp, kd_forced, kd_note, kd_label, kd_page, Bool.or_eq_true, Bool.and_eq_true, decide_eq_true_eq, Bool.not_eq_true', Bool.not_eq_false', Bool.or_eq_false_iff, decide_eq_false_iff_not] at h9; omega) | (have h9 := hb2; simp only [kd_box, kd_glue, kd_pen, kd_hyp, kd_forced, kd_note, kd_label, kd_page, Bool.or_eq_true, Bool.and_eq_true, decide_eq_true_eq, Bool.not_eq_true', Bool.not_eq_false', Bool.or_eq_false_iff, decide_eq_false_iff_not] at h9; omega) | (have h9 := hi1; simp only [kd_box, kd_glue, kd_pen, kd_hyp, kd_forced, kd_note, kd_label, kd_page, Bool.or_eq_true, Bool.and_eq_true, decide_eq_true_eq, Bool.not_eq_true', Bool.not_eq_false', Bool.or_eq_false_iff, decide_eq_false_iff_not] at h9; omega) | (have h9 := hi2; simp only [kd_box, kd_glue, kd_pen, kd_hyp, kd_forced, kd_note, kd_label, kd_page, Bool.or_eq_true, Bool.and_eq_true, decide_eq_true_eq, Bool.not_eq_true', Bool.not_eq_false', Bool.or_eq_false_iff, decide_eq_false_iff_not] at h9; omega))))) (fun hb0 => (ht_val (K := K) (hv_lt (hv_vI rfl) (hv_unopt (hv_at none (hs_mut s59 (k := 0) rfl rfl) (hv_vI rfl) (by first | omega | decide +kernel | (simp only [List.length_cons, List.length_nil]; omega) | (have h9 := hb0; simp only [kd_box, kd_glue, kd_pen, kd_hyp, kd_forced, kd_note, kd_label, kd_page, Bool.or_eq_true, Bool.and_eq_true, decide_eq_true_eq, Bool.not_eq_true', Bool.not_eq_false', Bool.or_eq_false_iff, decide_eq_false_iff_not] at h9; omega) | (have h9 := hb1; simp only [kd_box, kd_glue, kd_pen, kd_hyp, kd_forced, kd_note, kd_label, kd_page, Bool.or_eq_true, Bool.and_eq_true, decide_eq_true_eq, Bool.not_eq_true', Bool.not_eq_false', Bool.or_eq_false_iff, decide_eq_false_iff_not] at h9; omega) | (have h9 := hb2; simp only [kd_box, kd_glue, kd_pen, kd_hyp, kd_forced, kd_note, kd_label, kd_page, Bool.or_eq_true, Bool.and_eq_true, decide_eq_true_eq, Bool.not_eq_true', Bool.not_eq_false', Bool.or_eq_false_iff, decide_eq_false_iff_not] at h9; omega) | (have h9 := hi1; simp only [kd_box, kd_glue, kd_pen, kd_hyp, kd_forced, kd_note, kd_label, kd_page, Bool.or_eq_true, Bool.and_eq_true, decide_eq_true_eq, Bool.not_eq_true', Bool.not_eq_false', Bool.or_eq_false_iff, decide_eq_false_iff_not] at h9; omega) | (have h9 := hi2; simp only [kd_box, kd_glue, kd_pen, kd_hyp, kd_forced, kd_note, kd_label, kd_page, Bool.or_eq_true, Bool.and_eq_true, decide_eq_true_eq, Bool.not_eq_true', Bool.not_eq_false', Bool.or_eq_false_iff, decide_eq_false_iff_not] at h9; omega)) (by first | omega | decide +kernel | (simp only [List.length_cons, List.length_nil]; omega) | (have h9 := hb0; simp only [kd_box, kd_glue, kd_pen, kd_hyp, kd_forced, kd_note, kd_label, kd_page, Bool.or_eq_true, Bool.and_eq_true, decide_eq_true_eq, Bool.not_eq_true', Bool.not_eq_false', Bool.or_eq_false_iff, decide_eq_false_iff_not] at h9; omega) | (have h9 := hb1; simp only [kd_box, kd_glue, kd_pen, kd_hyp, kd_forced, kd_note, kd_label, kd_page, Bool.or_eq_true, Bool.and_eq_true, decide_eq_true_eq, Bool.not_eq_true', Bool.not_eq_false', Bool.or_eq_false_iff, decide_eq_false_iff_not] at h9; omega) | (have h9 := hb2; simp only [kd_box, kd_glue, kd_pen, kd_hyp, kd_forced, kd_note, kd_label, kd_page, Bool.or_eq_true, Bool.and_eq_true, decide_eq_true_eq, Bool.not_eq_true', Bool.not_eq_false', Bool.or_eq_false_iff, decide_eq_false_iff_not] at h9; omega) | (have h9 := hi1; simp only [kd_box, kd_glue, kd_pen, kd_hyp, kd_forced, kd_note, kd_label, kd_page, Bool.or_eq_true, Bool.and_eq_true, decide_eq_true_eq, Bool.not_eq_true', Bool.not_eq_false', Bool.or_eq_false_iff, decide_eq_false_iff_not] at h9; omega) | (have h9 := hi2; simp only [kd_box, kd_glue, kd_pen, kd_hyp, kd_forced, kd_note, kd_label, kd_page, Bool.or_eq_true, Bool.and_eq_true, decide_eq_true_eq, Bool.not_eq_true', Bool.not_eq_false', Bool.or_eq_false_iff, decide_eq_false_iff_not] at h9; omega))) (by intro z; rw [z] at hb0; cases hb0)))))) (fun hb61 Hs62 s62 => ?_) (fun hb61 Hs63 s63 => ?_)
            · have hb61P := hb61
              try simp only [kd_box, kd_glue, kd_pen, kd_hyp, kd_forced, kd_note, kd_label, kd_page, decide_eq_true_eq, decide_eq_false_iff_not, Bool.not_eq_true', Bool.not_eq_false', Bool.and_eq_true, Bool.or_eq_true, Bool.or_eq_false_iff] at hb61P
              refine z_setG s62 (kk := 0) rfl (hv_some (hv_vI rfl)) (ev_var rfl) (hv_vI rfl) (by first | omega | decide +kernel | (simp only [List.length_cons, List.length_nil]; omega) | (have h9 := hb0; simp only [kd_box, kd_glue, kd_pen, kd_hyp, kd_forced, kd_note, kd_label, kd_page, Bool.or_eq_true, Bool.and_eq_true, decide_eq_true_eq, Bool.not_eq_true', Bool.not_eq_false', Bool.or_eq_false_iff, decide_eq_false_iff_not] at h9; omega) | (have h9 := hb1; simp only [kd_box, kd_glue, kd_pen, kd_hyp, kd_forced, kd_note, kd_label, kd_page, Bool.or_eq_true, Bool.and_eq_true, decide_eq_true_eq, Bool.not_eq_true', Bool.not_eq_false', Bool.or_eq_false_iff, decide_eq_false_iff_not] at h9; omega) | (have h9 := hb2; simp only [kd_box, kd_glue, kd_pen, kd_hyp, kd_forced, kd_note, kd_label, kd_page, Bool.or_eq_true, Bool.and_eq_true, decide_eq_true_eq, Bool.not_eq_true', Bool.not_eq_false', Bool.or_eq_false_iff, decide_eq_false_iff_not] at h9; omega) | (have h9 := hi1; simp only [kd_box, kd_glue, kd_pen, kd_hyp, kd_forced, kd_note, kd_label, kd_page, Bool.or_eq_true, Bool.and_eq_true, decide_eq_true_eq, Bool.not_eq_true', Bool.not_eq_false', Bool.or_eq_false_iff, decide_eq_false_iff_not] at h9; omega) | (have h9 := hi2; simp only [kd_box, kd_glue, kd_pen, kd_hyp, kd_forced, kd_note, kd_label, kd_page, Bool.or_eq_true, Bool.and_eq_true, decide_eq_true_eq, Bool.not_eq_true', Bool.not_eq_false', Bool.or_eq_false_iff, decide_eq_false_iff_not] at h9; omega)) (by first | omega | decide +kernel | (simp only [List.length_cons, List.length_nil]; omega) | (have h9 := hb0; simp only [kd_box, kd_glue, kd_pen, kd_hyp, kd_forced, kd_note, kd_label, kd_page, Bool.or_eq_true, Bool.and_eq_true, decide_eq_true_eq, Bool.not_eq_true', Bool.not_eq_false', Bool.or_eq_false_iff, decide_eq_false_iff_not] at h9; omega) | (have h9 := hb1; simp only [kd_box, kd_glue, kd_pen, kd_hyp, kd_forced, kd_note, kd_label, kd_page, Bool.or_eq_true, Bool.and_eq_true, decide_eq_true_eq, Bool.not_eq_true', Bool.not_eq_false', Bool.or_eq_false_iff, decide_eq_false_iff_not] at h9; omega) | (have h9 := hb2; simp only [kd_box, kd_glue, kd_pen, kd_hyp, kd_forced, kd_note, kd_label, kd_page, Bool.or_eq_true, Bool.and_eq_true, decide_eq_true_eq, Bool.not_eq_true', Bool.not_eq_false', Bool.or_eq_false_iff, decide_eq_false_iff_not] at h9; omega) | (have h9 := hi1; simp only [kd_box, kd_glue, kd_pen, kd_hyp, kd_forced, kd_note, kd_label, kd_page, Bool.or_eq_true, Bool.and_eq_true, decide_eq_true_eq, Bool.not_eq_true', Bool.not_eq_false', Bool.or_eq_false_iff, decide_eq_false_iff_not] at h9; omega) | (have h9 := hi2; simp only [kd_box, kd_glue, kd_pen, kd_hyp, kd_forced, kd_note, kd_label, kd_page, Bool.or_eq_true, Bool.and_eq_true, decide_eq_true_eq, Bool.not_eq_true', Bool.not_eq_false', Bool.or_eq_false_iff, decide_eq_false_iff_not] at h9; omega)) fun least_65 hleast_65 Hs64 s64 => ?_
              try dsimp only at hleast_65
              have lleast_65 : least_65.length = least_46.length := by rw [hleast_65, List.length_set]
              have s64 : Sg K Mc _ _ _ [(ps1, .lst (List.map Dx.toX least_65))] := s64
              have hf66 : (m_least_width_l2 x38 measures_) least_46 x55 = least_65 := (by subst hleast_65; subst hneeded_60; subst hleast_2; first | (simp only [m_least_width_l2, he26, hb42, hb61, if_true, if_false, Bool.false_eq_true, decide_true, decide_false, Option.getD_some, Option.isNone_none, Option.isNone_some, Bool.not_true, Bool.not_false, ↓reduceIte]; done) | (rfl; done) | ((unfold m_least_width_l2); (dsimp only); (first | rw [he26] | skip); (try dsimp only); (first | rw [ifT hb42] | rw [ifF hb42] | skip); (try dsimp only); (first | rw [ifT hb61] | rw [ifF hb61] | skip); (try dsimp only); first | done | rfl) | (exfalso; simp at hb61; done) | (exfalso; simp at hb42; done))
              exact ⟨least_65, _, _, _, he51.trans ((foldl_step hi57).trans (by rw [hf66])), (by first | exact ⟨by omega, ls9⟩ | (refine ⟨by omega, ?_⟩; subst_vars; unfold m_least_width_l2; dsimp only; split <;> first | exact ls9 | (rw [getD_set_ne _ _ _ (by omega)]; exact ls9))), rfl, s64.keep fun _ h => ⟨h.1, ⟨h.2.1, True.intro⟩⟩⟩
            · have hb61P := hb61
              try simp only [kd_box, kd_glue, kd_pen, kd_hyp, kd_forced, kd_note, kd_label, kd_page, decide_eq_true_eq, decide_eq_false_iff_not, Bool.not_eq_true', Bool.not_eq_false', Bool.and_eq_true, Bool.or_eq_true, Bool.or_eq_false_iff] at hb61P
              have hf67 : (m_least_width_l2 x38 measures_) least_46 x55 = least_46 := (by subst hneeded_60; subst hleast_2; first | (simp only [m_least_width_l2, he26, hb42, hb61, if_true, if_false, Bool.false_eq_true, decide_true, decide_false, Option.getD_some, Option.isNone_none, Option.isNone_some, Bool.not_true, Bool.not_false, ↓reduceIte]; done) | (rfl; done) | ((unfold m_least_width_l2); (dsimp only); (first | rw [he26] | skip); (try dsimp only); (first | rw [ifT hb42] | rw [ifF hb42] | skip); (try dsimp only); (first | rw [ifT hb61] | rw [ifF hb61] | skip); (try dsimp only); first | done | rfl) | (exfalso; simp at hb61; done) | (exfalso; simp at hb42; done))
              exact ⟨least_46, _, _, _, he51.trans ((foldl_step hi57).trans (by rw [hf67])), (by first | exact ⟨by omega, ls9⟩ | (refine ⟨by omega, ?_⟩; subst_vars; unfold m_least_width_l2; dsimp only; split <;> first | exact ls9 | (rw [getD_set_ne _ _ _ (by omega)]; exact ls9))), rfl, s63.keep fun _ h => ⟨h.1, ⟨h.2.1, True.intro⟩⟩⟩
          · obtain ⟨least_68, o69, o70, o71, he73, hg74, rfl, s72⟩ := hP
            have hg74q0 := hg74.1
            have hg74q1 := hg74.2
            rw [foldl_end] at he73
            have hf75 : (m_least_width_l1 measures_) least_28 x38 = least_68 := (by subst hleast_2; first | (simp only [m_least_width_l1, he26, hb42, he73, if_true, if_false, Bool.false_eq_true, decide_true, decide_false, Option.getD_some, Option.isNone_none, Option.isNone_some, Bool.not_true, Bool.not_false, ↓reduceIte]; done) | (rfl; done) | ((unfold m_least_width_l1); (dsimp only); (first | rw [he26] | skip); (try dsimp only); (first | rw [ifT hb42] | rw [ifF hb42] | skip); (try dsimp only); (first | rw [he73] | skip); (try dsimp only); first | done | rfl) | (exfalso; simp at hb42; done))
            exact ⟨least_68, _, _, _, _, he34.trans ((loopN_step hi40).trans (by rw [← hx39, hf75])), (by first | trivial | omega | (simp_all; done) | (simp_all; omega)), rfl, s72.keep fun _ h => ⟨h.2.1, True.intro⟩⟩
      · obtain ⟨least_76, o77, o78, o79, o80, he82, hg83, rfl, s81⟩ := hP
        rw [loopN_end] at he82
        have s84 := Sg.frz (xs := least_76) s81
        have hF85 : m_least_width measures_ = (least_76.getD (Int.toNat (measures_.f_count)) none) := (by subst hleast_2; first | (simp only [m_least_width, he26, he82, if_true, if_false, Bool.false_eq_true, decide_true, decide_false, Option.getD_some, Option.isNone_none, Option.isNone_some, Bool.not_true, Bool.not_false, ↓reduceIte]; done) | (rfl; done) | ((unfold m_least_width); (dsimp only); (first | rw [he26] | skip); (try dsimp only); (first | rw [he82] | skip); (try dsimp only); first | done | rfl))
        exact zq_ret s84 (hv_at none (hs_of (hv_var (x := least_76) rfl s84.im.1)) (hv_fld (x := (measures_.f_count)) 1 (hv_var (x := measures_) rfl s84.im.2.1) T.c_Measures T.na_Measures_count rfl nd_Measures rfl rfl) (by first | omega | decide +kernel | (simp only [List.length_cons, List.length_nil]; omega) | (have h9 := hb0; simp only [kd_box, kd_glue, kd_pen, kd_hyp, kd_forced, kd_note, kd_label, kd_page, Bool.or_eq_true, Bool.and_eq_true, decide_eq_true_eq, Bool.not_eq_true', Bool.not_eq_false', Bool.or_eq_false_iff, decide_eq_false_iff_not] at h9; omega) | (have h9 := hb1; simp only [kd_box, kd_glue, kd_pen, kd_hyp, kd_forced, kd_note, kd_label, kd_page, Bool.or_eq_true, Bool.and_eq_true, decide_eq_true_eq, Bool.not_eq_true', Bool.not_eq_false', Bool.or_eq_false_iff, decide_eq_false_iff_not] at h9; omega) | (have h9 := hb2; simp only [kd_box, kd_glue, kd_pen, kd_hyp, kd_forced, kd_note, kd_label, kd_page, Bool.or_eq_true, Bool.and_eq_true, decide_eq_true_eq, Bool.not_eq_true', Bool.not_eq_false', Bool.or_eq_false_iff, decide_eq_false_iff_not] at h9; omega) | (have h9 := hi1; simp only [kd_box, kd_glue, kd_pen, kd_hyp, kd_forced, kd_note, kd_label, kd_page, Bool.or_eq_true, Bool.and_eq_true, decide_eq_true_eq, Bool.not_eq_true', Bool.not_eq_false', Bool.or_eq_false_iff, decide_eq_false_iff_not] at h9; omega) | (have h9 := hi2; simp only [kd_box, kd_glue, kd_pen, kd_hyp, kd_forced, kd_note, kd_label, kd_page, Bool.or_eq_true, Bool.and_eq_true, decide_eq_true_eq, Bool.not_eq_true', Bool.not_eq_false', Bool.or_eq_false_iff, decide_eq_false_iff_not] at h9; omega)) (by first | omega | decide +kernel | (simp only [List.length_cons, List.length_nil]; omega) | (have h9 := hb0; simp only [kd_box, kd_glue, kd_pen, kd_hyp, kd_forced, kd_note, kd_label, kd_page, Bool.or_eq_true, Bool.and_eq_true, decide_eq_true_eq, Bool.not_eq_true', Bool.not_eq_false', Bool.or_eq_false_iff, decide_eq_false_iff_not] at h9; omega) | (have h9 := hb1; simp only [kd_box, kd_glue, kd_pen, kd_hyp, kd_forced, kd_note, kd_label, kd_page, Bool.or_eq_true, Bool.and_eq_true, decide_eq_true_eq, Bool.not_eq_true', Bool.not_eq_false', Bool.or_eq_false_iff, decide_eq_false_iff_not] at h9; omega) | (have h9 := hb2; simp only [kd_box, kd_glue, kd_pen, kd_hyp, kd_forced, kd_note, kd_label, kd_page, Bool.or_eq_true, Bool.and_eq_true, decide_eq_true_eq, Bool.not_eq_true', Bool.not_eq_false', Bool.or_eq_false_iff, decide_eq_false_iff_not] at h9; omega) | (have h9 := hi1; simp only [kd_box, kd_glue, kd_pen, kd_hyp, kd_forced, kd_note, kd_label, kd_page, Bool.or_eq_true, Bool.and_eq_true, decide_eq_true_eq, Bool.not_eq_true', Bool.not_eq_false', Bool.or_eq_false_iff, decide_eq_false_iff_not] at h9; omega) | (have h9 := hi2; simp only [kd_box, kd_glue, kd_pen, kd_hyp, kd_forced, kd_note, kd_label, kd_page, Bool.or_eq_true, Bool.and_eq_true, decide_eq_true_eq, Bool.not_eq_true', Bool.not_eq_false', Bool.or_eq_false_iff, decide_eq_false_iff_not] at h9; omega))) fun v H' e d => q v H' e (by rw [hF85]; exact d)
def nofo (its : List Itm) (s e : Nat) : Prop := ∀ k, s ≤ k → k + 2 ≤ e → decide ((Itm.kind (its.getD k Itm.forced)) = (PySem.Str.ofString "forced")) = false
theorem eb_mem {its : List Itm} {s e : Nat} (hs : s < its.length) : ((e : Int) ∈ m_Measures_ends_behind (m_Measures___init__ its) (s : Int)) ↔ s < e ∧ e ≤ its.length ∧ m_is_line_end its (e : Int) = true ∧ nofo its s e := by
  have f1 : First (its.map (fun c => decide ((Itm.kind c) = (PySem.Str.ofString "forced")))) ((its.length : Int) + 1) s ((m_Measures___init__ its).f__next_forced.getD s 0) := ff_at _ _ (by rw [List.length_map]; omega)
  have hc : (m_Measures___init__ its).f_count = (its.length : Int) := rfl
  have ge : e ≤ its.length → (m_Measures___init__ its).f__ends.getD e false = m_is_line_end its (e : Int) := fun he => by
    have h0 : (m_Measures___init__ its).f__ends = (irng 0 (Int.toNat ((its.length : Int) + 1))).map (fun c => m_is_line_end its c) := rfl
    rw [h0, getD_map _ (0 : Int) _ (by rw [irng_len]; omega), irng_getD _ (by omega), Int.zero_add]
  have gm : ∀ k, k < its.length → (its.map (fun c => decide ((Itm.kind c) = (PySem.Str.ofString "forced")))).getD k false = decide ((Itm.kind (its.getD k Itm.forced)) = (PySem.Str.ofString "forced")) := fun k hk => getD_map _ Itm.forced _ hk
  have ll : (its.map (fun c => decide ((Itm.kind c) = (PySem.Str.ofString "forced")))).length = its.length := List.length_map _
  unfold m_Measures_ends_behind
  dsimp only
  rw [List.map_id', List.mem_filter, irng_mem, Int.toNat_natCast, Int.toNat_natCast, hc]
  generalize (m_Measures___init__ its).f__next_forced.getD s 0 = v at f1
  have key : e ≤ its.length → ((e : Int) ≤ v + 1 ↔ nofo its s e) := fun he => by
    rcases f1 with ⟨rfl, f⟩ | ⟨k0, rfl, g1, g2, g3, g4⟩
    · refine ⟨fun _ k k1 k2 => ?_, fun _ => by omega⟩
      rw [← gm k (by omega)]
      exact f k k1 (by omega)
    · refine ⟨fun h k k1 k2 => ?_, fun h => ?_⟩
      · rw [← gm k (by omega)]
        exact g4 k k1 (by omega)
      · rcases Nat.lt_or_ge (k0 + 1) e with z | z
        · have := h k0 g1 (by omega)
          rw [← gm k0 (by omega), g3] at this
          cases this
        · omega
  constructor
  · rintro ⟨⟨a1, a2⟩, a3⟩
    have he : e ≤ its.length := by omega
    exact ⟨by omega, he, (ge he).symm.trans a3, (key he).mp (by omega)⟩
  · rintro ⟨a1, a2, a3, a4⟩
    have := (key a2).mpr a4
    exact ⟨⟨by omega, by omega⟩, (ge a2).trans a3⟩
/-- what can be reached with lines no wider than m -/
inductive Rch (its : List Itm) (m : Int) : Nat → Prop
  | zero : Rch its m 0
  | step {s e : Nat} : Rch its m s → s < its.length → (e : Int) ∈ m_Measures_ends_behind (m_Measures___init__ its) (s : Int) → (m_Measures_measure (m_Measures___init__ its) (s : Int) (e : Int)).a ≤ m → Rch its m e
def leq (L : List (Option Int)) (e : Nat) (m : Int) : Prop := ∃ v, L.getD e none = some v ∧ v ≤ m
theorem l2_one (o : Cl_Measures) (i x : Nat) (a : Int) (L : List (Option Int)) (hx : i < x ∧ x < L.length) (ha : L.getD i none = some a) :
    (m_least_width_l2 (i : Int) o L (x : Int)).length = L.length ∧ (∀ j, j ≤ i → (m_least_width_l2 (i : Int) o L (x : Int)).getD j none = L.getD j none) ∧
    ∀ e m, leq (m_least_width_l2 (i : Int) o L (x : Int)) e m ↔ leq L e m ∨ (e = x ∧ max a (m_Measures_measure o (i : Int) (x : Int)).a ≤ m) := by
  unfold m_least_width_l2
  dsimp only
  rw [Int.toNat_natCast, Int.toNat_natCast, ha, Option.getD_some]
  generalize max a (m_Measures_measure o (i : Int) (x : Int)).a = w
  split
  · rename_i q
    refine ⟨List.length_set, fun j hj => getD_set_ne _ _ _ (by omega), fun e m => ?_⟩
    by_cases he : e = x
    · subst he
      have h1 : (L.set e (some w)).getD e none = some w := by rw [List.getD_eq_getElem?_getD, List.getElem?_set_self hx.2]; rfl
      constructor
      · rintro ⟨v, hv, hm⟩
        rw [h1] at hv
        cases hv
        exact .inr ⟨rfl, hm⟩
      · rintro (⟨v, hv, hm⟩ | ⟨_, hm⟩)
        · rw [hv] at q
          simp at q
          exact ⟨w, h1, by omega⟩
        · exact ⟨w, h1, hm⟩
    · unfold leq
      rw [getD_set_ne _ _ _ (fun z => he z.symm)]
      exact ⟨.inl, fun h => h.elim id fun z => absurd z.1 he⟩
  · rename_i q
    refine ⟨rfl, fun j hj => rfl, fun e m => ⟨.inl, ?_⟩⟩
    rintro (h | ⟨rfl, hm⟩)
    · exact h
    · cases z : L.getD e none with
      | none => rw [z] at q; simp at q
      | some v =>
        rw [z] at q
        simp at q
        exact ⟨v, z, by omega⟩
theorem l2_fold (o : Cl_Measures) (i : Nat) (a : Int) : ∀ (E : List Int) (L : List (Option Int)), (∀ e ∈ E, (i : Int) < e ∧ e < (L.length : Int)) → L.getD i none = some a →
    (E.foldl (m_least_width_l2 (i : Int) o) L).length = L.length ∧ (∀ j, j ≤ i → (E.foldl (m_least_width_l2 (i : Int) o) L).getD j none = L.getD j none) ∧
    ∀ e m, leq (E.foldl (m_least_width_l2 (i : Int) o) L) e m ↔ leq L e m ∨ ((e : Int) ∈ E ∧ max a (m_Measures_measure o (i : Int) (e : Int)).a ≤ m)
  | [], L, _, _ => ⟨rfl, fun _ _ => rfl, fun e m => ⟨.inl, fun h => h.elim id fun z => by cases z.1⟩⟩
  | x :: E, L, hE, ha => by
    have hx := hE x List.mem_cons_self
    obtain ⟨x', rfl⟩ := Int.eq_ofNat_of_zero_le (show 0 ≤ x by omega)
    obtain ⟨p1, p2, p3⟩ := l2_one o i x' a L (by omega) ha
    obtain ⟨r1, r2, r3⟩ := l2_fold o i a E (m_least_width_l2 (i : Int) o L (x' : Int)) (fun e he => by
      have := hE e (List.mem_cons_of_mem _ he)
      rw [p1]; exact this) ((p2 i (Nat.le_refl _)).trans ha)
    refine ⟨r1.trans p1, fun j hj => (r2 j hj).trans (p2 j hj), fun e m => ?_⟩
    show leq (E.foldl _ _) e m ↔ _
    rw [r3, p3, List.mem_cons]
    constructor
    · rintro ((h | ⟨rfl, h⟩) | ⟨h1, h2⟩)
      · exact .inl h
      · exact .inr ⟨.inl rfl, h⟩
      · exact .inr ⟨.inr h1, h2⟩
    · rintro (h | ⟨h1 | h1, h2⟩)
      · exact .inl (.inl h)
      · have : e = x' := by omega
        subst this
        exact .inl (.inr ⟨rfl, h2⟩)
      · exact .inr ⟨h1, h2⟩
theorem rch_inv {its : List Itm} {m : Int} {e : Nat} (h : Rch its m e) (he : 1 ≤ e) : ∃ s, s < e ∧ Rch its m s ∧ s < its.length ∧ (e : Int) ∈ m_Measures_ends_behind (m_Measures___init__ its) (s : Int) ∧ (m_Measures_measure (m_Measures___init__ its) (s : Int) (e : Int)).a ≤ m := by
  cases h with
  | zero => omega
  | @step s e h1 h2 h3 h4 => exact ⟨s, ((eb_mem h2).mp h3).1, h1, h2, h3, h4⟩
theorem nones (n : Nat) : ∀ (i : Nat) (L : List (Option Int)), loopN m_least_width_l0 n (i : Int) L = L ++ List.replicate n none := by
  induction n with
  | zero => intro i L; simp [loopN]
  | succ n ih =>
    intro i L
    have e : loopN m_least_width_l0 (n + 1) (i : Int) L = loopN m_least_width_l0 n ((i + 1 : Nat) : Int) (L ++ [none]) := rfl
    rw [e, ih, List.append_assoc]
    rfl
theorem nones_get (n e : Nat) : (([some 0] ++ List.replicate n none : List (Option Int))).getD (e + 1) none = none := by
  rw [List.getD_eq_getElem?_getD]
  simp only [List.cons_append, List.nil_append, List.getElem?_cons_succ, List.getElem?_replicate]
  by_cases h : e < n
  · rw [if_pos h]; rfl
  · rw [if_neg h]; rfl
theorem least_run (its : List Itm) : ∃ L : List (Option Int), m_least_width (m_Measures___init__ its) = L.getD its.length none ∧ L.length = its.length + 1 ∧ L.getD 0 none = some 0 ∧
    ∀ e, 1 ≤ e → ∀ m, 0 ≤ m → (leq L e m ↔ ∃ s, s < its.length ∧ s < its.length ∧ Rch its m s ∧ (e : Int) ∈ m_Measures_ends_behind (m_Measures___init__ its) (s : Int) ∧ (m_Measures_measure (m_Measures___init__ its) (s : Int) (e : Int)).a ≤ m) := by
  have start0 : ∀ e, 1 ≤ e → ∀ m, 0 ≤ m → (leq ([some 0] ++ List.replicate its.length none) e m ↔ ∃ s, s < 0 ∧ s < its.length ∧ Rch its m s ∧ (e : Int) ∈ m_Measures_ends_behind (m_Measures___init__ its) (s : Int) ∧ (m_Measures_measure (m_Measures___init__ its) (s : Int) (e : Int)).a ≤ m) := by
    intro e he m hm
    constructor
    · rintro ⟨v, hv, _⟩
      obtain ⟨e', rfl⟩ : ∃ e', e = e' + 1 := ⟨e - 1, by omega⟩
      rw [nones_get] at hv
      cases hv
    · rintro ⟨s, hs, _⟩
      omega
  have key := loopN_ind (f := m_least_width_l1 (m_Measures___init__ its)) (fun i L => L.length = its.length + 1 ∧ L.getD 0 none = some 0 ∧
    ∀ e, 1 ≤ e → ∀ m, 0 ≤ m → (leq L e m ↔ ∃ s, s < i ∧ s < its.length ∧ Rch its m s ∧ (e : Int) ∈ m_Measures_ends_behind (m_Measures___init__ its) (s : Int) ∧ (m_Measures_measure (m_Measures___init__ its) (s : Int) (e : Int)).a ≤ m))
    (0 : Int) its.length ([some 0] ++ List.replicate its.length none) ⟨by simp, rfl, start0⟩ (fun i L hi p => by
      obtain ⟨p1, p2, p3⟩ := p
      have at_i : ∀ m, 0 ≤ m → (leq L i m ↔ Rch its m i) := fun m hm => by
        rcases Nat.eq_zero_or_pos i with rfl | hp
        · exact ⟨fun _ => .zero, fun _ => ⟨0, p2, hm⟩⟩
        · rw [p3 i hp m hm]
          constructor
          · rintro ⟨s, _, h2, h3, h4, h5⟩
            exact .step h3 h2 h4 h5
          · intro h
            obtain ⟨s, h1, h2, h3, h4, h5⟩ := rch_inv h hp
            exact ⟨s, h1, h3, h2, h4, h5⟩
      unfold m_least_width_l1
      dsimp only
      rw [show ((0 : Int) + (i : Int)).toNat = i by omega, Int.zero_add]
      cases z : L.getD i none with
      | none =>
        rw [if_pos (show (Option.isNone (none : Option Int)) = true from rfl)]
        refine ⟨p1, p2, fun e he m hm => ?_⟩
        rw [p3 e he m hm]
        constructor
        · rintro ⟨s, h1, h⟩
          exact ⟨s, by omega, h⟩
        · rintro ⟨s, h1, h2, h3, h⟩
          rcases Nat.lt_or_ge s i with q | q
          · exact ⟨s, q, h2, h3, h⟩
          · have : s = i := by omega
            subst this
            obtain ⟨v, hv, _⟩ := (at_i m hm).mpr h3
            rw [z] at hv
            cases hv
      | some a =>
        rw [if_neg (by simp)]
        obtain ⟨r1, r2, r3⟩ := l2_fold (m_Measures___init__ its) i a (m_Measures_ends_behind (m_Measures___init__ its) (i : Int)) L (fun e he => by
          have e0 := ends_in (m_Measures___init__ its) (i : Int) (by omega) e he
          have : (m_Measures___init__ its).f_count = (its.length : Int) := rfl
          omega) z
        refine ⟨r1.trans p1, (r2 0 (Nat.zero_le _)).trans p2, fun e he m hm => ?_⟩
        rw [r3, p3 e he m hm]
        have ha : a ≤ m ↔ Rch its m i := by
          rw [← at_i m hm]
          constructor
          · intro h; exact ⟨a, z, h⟩
          · rintro ⟨v, hv, h⟩
            rw [z] at hv
            cases hv
            exact h
        constructor
        · rintro (⟨s, h1, h⟩ | ⟨h1, h2⟩)
          · exact ⟨s, by omega, h⟩
          · exact ⟨i, by omega, hi, ha.mp (by omega), h1, by omega⟩
        · rintro ⟨s, h1, h2, h3, h4, h5⟩
          rcases Nat.lt_or_ge s i with q | q
          · exact .inl ⟨s, q, h2, h3, h4, h5⟩
          · have : s = i := by omega
            subst this
            have := ha.mpr h3
            exact .inr ⟨h4, by omega⟩)
  refine ⟨_, ?_, key⟩
  unfold m_least_width
  dsimp only
  have hc : (m_Measures___init__ its).f_count = (its.length : Int) := rfl
  rw [hc, Int.toNat_natCast]
  have := nones its.length 0 [some 0]
  rw [show ((0 : Nat) : Int) = (0 : Int) from rfl] at this
  rw [this]
theorem least_at {its : List Itm} (hn : 1 ≤ its.length) {m : Int} (hm : 0 ≤ m) : (∃ v, m_least_width (m_Measures___init__ its) = some v ∧ v ≤ m) ↔ Rch its m its.length := by
  obtain ⟨L, e1, _, _, e4⟩ := least_run its
  rw [e1]
  show leq L its.length m ↔ _
  rw [e4 _ hn m hm]
  constructor
  · rintro ⟨s, _, h2, h3, h4, h5⟩
    exact .step h3 h2 h4 h5
  · intro h
    obtain ⟨s, h1, h2, h3, h4, h5⟩ := rch_inv h hn
    exact ⟨s, h3, h3, h2, h4, h5⟩
theorem far (its : List Itm) : ∀ e : Nat, ∃ s, s < e + 1 ∧ (s = 0 ∨ decide ((Itm.kind (its.getD (s - 1) Itm.forced)) = (PySem.Str.ofString "forced")) = true) ∧ nofo its s (e + 1)
  | 0 => ⟨0, by omega, .inl rfl, fun k _ h => by omega⟩
  | e + 1 => by
    cases q : decide ((Itm.kind (its.getD e Itm.forced)) = (PySem.Str.ofString "forced")) with
    | true => exact ⟨e + 1, by omega, .inr q, fun k h1 h2 => by omega⟩
    | false =>
      obtain ⟨s, h1, h2, h3⟩ := far its e
      refine ⟨s, by omega, h2, fun k k1 k2 => ?_⟩
      rcases Nat.lt_or_ge k e with z | z
      · exact h3 k k1 (by omega)
      · have : k = e := by omega
        subst this
        exact q
theorem all_rch {its : List Itm} (hl : its.length ≤ 1000) (hi : ∀ i ∈ its, ItOk i) : ∀ (n e : Nat), e ≤ n → e ≤ its.length → (e = 0 ∨ m_is_line_end its (e : Int) = true) → Rch its 2000000 e := by
  intro n
  induction n with
  | zero => intro e h1 _ _; have : e = 0 := by omega
            subst this; exact .zero
  | succ n ih =>
    intro e h1 h2 h3
    rcases Nat.eq_zero_or_pos e with rfl | hp
    · exact .zero
    · obtain ⟨e', rfl⟩ : ∃ e', e = e' + 1 := ⟨e - 1, by omega⟩
      obtain ⟨s, s1, s2, s3⟩ := far its e'
      have hs : s = 0 ∨ m_is_line_end its (s : Int) = true := by
        rcases s2 with z | z
        · exact .inl z
        · rcases Nat.eq_zero_or_pos s with y | y
          · exact .inl y
          · right
            unfold m_is_line_end
            rw [show ((s : Int) - 1).toNat = s - 1 by omega]
            have z' := of_decide_eq_true z
            simp only [z']
            simp
            omega
      refine .step (s := s) (ih s (by omega) (by omega) hs) (by omega) ((eb_mem (by omega)).mpr ⟨s1, h2, by rcases h3 with z | z; omega; exact z, s3⟩) ?_
      have g : GoodM (m_Measures___init__ its) := ⟨its, rfl, hl, hi⟩
      have := measure_bd g (s := (s : Int)) (e := ((e' + 1 : Nat) : Int)) (by omega) (by omega) (show _ ≤ (its.length : Int) by omega)
      omega
theorem least_some {o : Cl_Measures} (g : GoodM o) : m_least_width o ≠ none := by
  obtain ⟨its, rfl, hl, hi⟩ := g
  rcases Nat.eq_zero_or_pos its.length with z | z
  · obtain ⟨L, e1, _, e3, _⟩ := least_run its
    rw [e1, z, e3]
    intro h; cases h
  · have h := (least_at (its := its) z (m := 2000000) (by omega)).mpr (all_rch hl hi its.length its.length (Nat.le_refl _) (Nat.le_refl _) (.inr (by
      unfold m_is_line_end
      simp
      omega)))
    obtain ⟨v, hv, _⟩ := h
    rw [hv]
    intro h; cases h

def m_widest_width_l0 (measures_ : Cl_Measures) (s_ : Int × Int) (x_ : Int) : Int × Int :=
  let widest_ : Int := s_.1
  let start_ : Int := s_.2
  let end_ : Int := x_
  if (m_Measures_is_loose measures_ end_) = true then
    let widest_ : Int := (max widest_ (m_Measures_measure measures_ start_ end_).a)
    let start_ : Int := end_
    (widest_, start_)
  else
    (widest_, start_)
def m_widest_width (measures_ : Cl_Measures) : Int :=
  let widest_ : Int := (0 : Int)
  let start_ : Int := (0 : Int)
  let r0_ : Int × Int := loopN (m_widest_width_l0 measures_) (Int.toNat (((measures_.f_count) + (1 : Int)) - (1 : Int))) (1 : Int) (widest_, start_)
  let widest_ : Int := r0_.1
  let start_ : Int := r0_.2
  widest_
abbrev s_widest_width : Stmt := (topS 17)
theorem sc_widest_width : FnScope ["measures", "widest", "start", "end"] ["measures"] (defScope s_widest_width) := ⟨rfl, rfl, rfl, by decide +kernel, rfl, by decide +kernel, by decide +kernel⟩
abbrev sp_widest_width (K : PySem.W.Frag) : Sp := PrD K (fun c : Cl_Measures => [Dx.toX c]) (fun c => GoodM c) (fun c => (m_widest_width c : Int))
theorem ok_widest_width (T : Txt K mg) : FnOk P w K mg base CX0 4 T.f_widest_width T.d_widest_width ["measures"] (sp_widest_width K) := by
  refine T.u_widest_width.ok sc_widest_width (fun vs H Q E h => ?_) (fun cdv A outer s H vs Q E hr h => ?_)
  · obtain ⟨Mc, c, mok, da, pre, q⟩ := h
    exact (dpa_len da)
  · obtain ⟨Mc, c, mok, da, pre, q⟩ := h
    obtain ⟨measures_, rfl⟩ : ∃ z, z = c := ⟨c, rfl⟩
    dsimp only at da pre q
    obtain ⟨v0, w0, rfl, d0, da0⟩ := dpa_inv da
    cases dpa_inv0 da0
    have s0 : Sg K Mc H H [(v0, Dx.toX measures_)] [] := Sg.enter mok ⟨d0, True.intro⟩
    have ok := pre.ok
    have ok0 := ok.cnt
    have ok1 := ok.prt
    have ok2 := ok.wid
    have ok3 := ok.str
    have ok4 := ok.shr
    have ok5 := ok.eds
    have ok6 := ok.nen
    have ok7 := ok.nfo
    have ok8 := ok.nso
    have ok9 := ok.fke
    have oka := ok.kbe
    have cn := good_cnt pre
    refine ⟨_, (pss_cons (ps_set (i := 1) sc_widest_width.nd rfl (.inl rfl) pe_int) (pss_cons (ps_set (i := 2) sc_widest_width.nd rfl (.inl rfl) pe_int) (pss_cons (ps_for PassesOwn.never rfl (pi_range2 (by rfl) T.n_range (pa_cons pe_int (pa_cons (pe_op op_add (pe_fld (pv 0) rfl) pe_int) pa_nil))) (pg_name (i := 3) sc_widest_width.nd rfl (.inl rfl)) (pss_cons (ps_if (pt_val (pe_meth (pv 0) T.c_Measures.cl T.mt_Measures_is_loose (ok_Measures_is_loose T) (hr.mono (by decide)) T.b_Measures_is_loose .nil pass0 (pa_cons (pv 3) pa_nil))) (pss_cons (ps_set (i := 1) sc_widest_width.nd rfl (.inl rfl) (pe_callB (call_max2 rfl) (by rfl) T.n_max (by decide +kernel) (pa_cons (pv 1) (pa_cons (pe_ix ix_tup (pe_meth (pv 0) T.c_Measures.cl T.mt_Measures_measure (ok_Measures_measure T) hr T.b_Measures_measure .nil pass0 (pa_cons (pv 2) (pa_cons (pv 3) pa_nil))) pe_int (fun _ _ => rfl)) pa_nil)))) (pss_cons (ps_set (i := 2) sc_widest_width.nd rfl (.inl rfl) (pv 3)) pss_nil)) pss_nil) pss_nil)) (pss_cons (ps_ret (pv 1)) pss_nil)))), ?_⟩
    refine z_asgIG s0 (hv_int 0) fun widest_2 hwidest_2 Hs1 s1 => ?_
    try dsimp only at hwidest_2
    refine z_asgIG s1 (hv_int 0) fun start_4 hstart_4 Hs3 s3 => ?_
    try dsimp only at hstart_4
    refine zq_forR2G s3 (hv_int 1) (hv_add (hv_fld (x := (measures_.f_count)) 1 (hv_var (x := measures_) rfl s3.im.1) T.c_Measures T.na_Measures_count rfl nd_Measures rfl rfl) (hv_int 1)) (by first | omega | decide +kernel | (simp only [List.length_cons, List.length_nil]; omega) | (have h9 := hb0; simp only [kd_box, kd_glue, kd_pen, kd_hyp, kd_forced, kd_note, kd_label, kd_page, Bool.or_eq_true, Bool.and_eq_true, decide_eq_true_eq, Bool.not_eq_true', Bool.not_eq_false', Bool.or_eq_false_iff, decide_eq_false_iff_not] at h9; omega) | (have h9 := hb1; simp only [kd_box, kd_glue, kd_pen, kd_hyp, kd_forced, kd_note, kd_label, kd_page, Bool.or_eq_true, Bool.and_eq_true, decide_eq_true_eq, Bool.not_eq_true', Bool.not_eq_false', Bool.or_eq_false_iff, decide_eq_false_iff_not] at h9; omega) | (have h9 := hb2; simp only [kd_box, kd_glue, kd_pen, kd_hyp, kd_forced, kd_note, kd_label, kd_page, Bool.or_eq_true, Bool.and_eq_true, decide_eq_true_eq, Bool.not_eq_true', Bool.not_eq_false', Bool.or_eq_false_iff, decide_eq_false_iff_not] at h9; omega) | (have h9 := hi1; simp only [kd_box, kd_glue, kd_pen, kd_hyp, kd_forced, kd_note, kd_label, kd_page, Bool.or_eq_true, Bool.and_eq_true, decide_eq_true_eq, Bool.not_eq_true', Bool.not_eq_false', Bool.or_eq_false_iff, decide_eq_false_iff_not] at h9; omega) | (have h9 := hi2; simp only [kd_box, kd_glue, kd_pen, kd_hyp, kd_forced, kd_note, kd_label, kd_page, Bool.or_eq_true, Bool.and_eq_true, decide_eq_true_eq, Bool.not_eq_true', Bool.not_eq_false', Bool.or_eq_false_iff, decide_eq_false_iff_not] at h9; omega)) (fun i σ' H' => ∃ (widest_5 : Int) (start_6 : Int) (o7 : Option V), (loopN (m_widest_width_l0 measures_) (Int.toNat (((measures_.f_count) + (1 : Int)) - (1 : Int))) (1 : Int) (widest_2, start_4) : Int × Int) = (loopN (m_widest_width_l0 measures_) ((Int.toNat (((measures_.f_count) + (1 : Int)) - (1 : Int))) - i) ((1 : Int) + (i : Int)) (widest_5, start_6) : Int × Int) ∧ (0 ≤ start_6 ∧ start_6 ≤ ((i) : Int)) ∧ σ' = [some v0, some (V.int widest_5), some (V.int start_6), o7] ∧ Sg K Mc H H' [(v0, Dx.toX measures_)] []) (fun Hs8 s8 => ⟨widest_2, start_4, _, (by simp), (by first | trivial | omega | (simp; done) | simp_all), rfl, s8.keep fun _ h => ⟨h.1, True.intro⟩⟩) (fun i12 x13 σ' Hs11 hx14 hi15 hP => ?_) (fun σ' Hs11 hP => ?_)
    · obtain ⟨widest_5, start_6, o7, he9, hg10, rfl, s11⟩ := hP
      have hg10q0 := hg10.1
      have hg10q1 := hg10.2
      refine z_ifx (b := (m_Measures_is_loose measures_ x13)) s11 (ht_B (K := K) (hv_meth (measures_, x13) (hv_var (x := measures_) rfl s11.im.1) T.c_Measures rfl (by decide +kernel) (hd_cons (hv_vI rfl) hd_nil) rfl (by (try dsimp only); exact ⟨pre.ok, by omega, by omega⟩))) (fun hb17 Hs18 s18 => ?_) (fun hb17 Hs19 s19 => ?_)
      · have hb17P := hb17
        try simp only [kd_box, kd_glue, kd_pen, kd_hyp, kd_forced, kd_note, kd_label, kd_page, decide_eq_true_eq, decide_eq_false_iff_not, Bool.not_eq_true', Bool.not_eq_false', Bool.and_eq_true, Bool.or_eq_true, Bool.or_eq_false_iff] at hb17P
        refine z_asgIG s18 (hv_max2 (hv_vI rfl) (hv_t30 (p := (m_Measures_measure measures_ start_6 x13)) (hv_meth (measures_, start_6, x13) (hv_var (x := measures_) rfl s18.im.1) T.c_Measures rfl (by decide +kernel) (hd_cons (hv_vI rfl) (hd_cons (hv_vI rfl) hd_nil)) rfl (by (try dsimp only); exact ⟨pre.ok, by omega, by omega, by omega⟩)))) fun widest_21 hwidest_21 Hs20 s20 => ?_
        try dsimp only at hwidest_21
        refine z_asgIG s20 (hv_vI rfl) fun start_23 hstart_23 Hs22 s22 => ?_
        try dsimp only at hstart_23
        have hf24 : (m_widest_width_l0 measures_) (widest_5, start_6) x13 = (widest_21, start_23) := (by subst hstart_23; subst hwidest_21; subst hstart_4; subst hwidest_2; first | (simp only [m_widest_width_l0, hb17, if_true, if_false, Bool.false_eq_true, decide_true, decide_false, Option.getD_some, Option.isNone_none, Option.isNone_some, Bool.not_true, Bool.not_false, ↓reduceIte]; done) | (rfl; done) | ((unfold m_widest_width_l0); (dsimp only); (first | rw [ifT hb17] | rw [ifF hb17] | skip); (try dsimp only); first | done | rfl) | (exfalso; simp at hb17; done))
        exact ⟨widest_21, start_23, _, he9.trans ((loopN_step hi15).trans (by rw [← hx14, hf24])), (by first | trivial | omega | (simp_all; done) | (simp_all; omega)), rfl, s22.keep fun _ h => ⟨h.1, True.intro⟩⟩
      · have hb17P := hb17
        try simp only [kd_box, kd_glue, kd_pen, kd_hyp, kd_forced, kd_note, kd_label, kd_page, decide_eq_true_eq, decide_eq_false_iff_not, Bool.not_eq_true', Bool.not_eq_false', Bool.and_eq_true, Bool.or_eq_true, Bool.or_eq_false_iff] at hb17P
        have hf25 : (m_widest_width_l0 measures_) (widest_5, start_6) x13 = (widest_5, start_6) := (by subst hstart_4; subst hwidest_2; first | (simp only [m_widest_width_l0, hb17, if_true, if_false, Bool.false_eq_true, decide_true, decide_false, Option.getD_some, Option.isNone_none, Option.isNone_some, Bool.not_true, Bool.not_false, ↓reduceIte]; done) | (rfl; done) | ((unfold m_widest_width_l0); (dsimp only); (first | rw [ifT hb17] | rw [ifF hb17] | skip); (try dsimp only); first | done | rfl) | (exfalso; simp at hb17; done))
        exact ⟨widest_5, start_6, _, he9.trans ((loopN_step hi15).trans (by rw [← hx14, hf25])), (by first | trivial | omega | (simp_all; done) | (simp_all; omega)), rfl, s19.keep fun _ h => ⟨h.1, True.intro⟩⟩
    · obtain ⟨widest_26, start_27, o28, he30, hg31, rfl, s29⟩ := hP
      have hg31q0 := hg31.1
      have hg31q1 := hg31.2
      rw [loopN_end] at he30
      have hF32 : m_widest_width measures_ = widest_26 := (by subst hstart_4; subst hwidest_2; first | (simp only [m_widest_width, he30, if_true, if_false, Bool.false_eq_true, decide_true, decide_false, Option.getD_some, Option.isNone_none, Option.isNone_some, Bool.not_true, Bool.not_false, ↓reduceIte]; done) | (rfl; done) | ((unfold m_widest_width); (dsimp only); (first | rw [he30] | skip); (try dsimp only); first | done | rfl))
      exact zq_ret s29 (hv_vI rfl) fun v H' e d => q v H' e (by rw [hF32]; exact d)
def m_law_can_be_set_l1 (end_ : Int) (items_ : (List Itm)) (most_ : Int) (s_ : (List Int)) (x_ : Int) : Lp Unit ((List Int)) :=
  let reached_ : (List Int) := s_
  let start_ : Int := x_
  if ((decide (start_ < (end_ - (1 : Int)))) && (decide ((Itm.kind (items_.getD (Int.toNat start_) Itm.forced)) = (PySem.Str.ofString "forced")))) = true then
    Lp.brk reached_
  else
    if ((decide (start_ ∈ reached_)) && (decide (((m_law_sums items_ start_ end_).getD (Int.toNat (0 : Int)) 0) ≤ most_))) = true then
      let reached_ : (List Int) := reached_ ++ [end_]
      Lp.brk reached_
    else
      Lp.nxt reached_
def m_law_can_be_set_l0 (items_ : (List Itm)) (most_ : Int) (s_ : (List Int)) (x_ : Int) : (List Int) :=
  let reached_ : (List Int) := s_
  let end_ : Int := x_
  if (!(m_law_may_end items_ end_)) = true then
    reached_
  else
    let r1_ : (List Int) := loopB (fun (s_ : (List Int)) (i_ : Int) => (m_law_can_be_set_l1 end_ items_ most_) s_ ((end_ - (1 : Int)) - i_)) (Int.toNat ((end_ - (1 : Int)) - (-1 : Int))) (0 : Int) reached_
    let reached_ : (List Int) := r1_
    reached_
def m_law_can_be_set (items_ : (List Itm)) (most_ : Int) : Bool :=
  let reached_ : (List Int) := [(0 : Int)]
  let r0_ : (List Int) := loopN (m_law_can_be_set_l0 items_ most_) (Int.toNat ((((items_).length : Int) + (1 : Int)) - (1 : Int))) (1 : Int) reached_
  let reached_ : (List Int) := r0_
  (decide (((items_).length : Int) ∈ reached_))
abbrev s_law_can_be_set : Stmt := (topS 29)
theorem sc_law_can_be_set : FnScope ["items", "most", "reached", "end", "start"] ["items", "most"] (defScope s_law_can_be_set) := ⟨rfl, rfl, rfl, by decide +kernel, rfl, by decide +kernel, by decide +kernel⟩
abbrev sp_law_can_be_set (K : PySem.W.Frag) : Sp := PrD K (fun c : (List Itm) × Int => [Dx.toX c.1, Dx.toX c.2]) (fun c => c.1.length ≤ 1000) (fun c => (m_law_can_be_set c.1 c.2 : Bool))
theorem ok_law_can_be_set (T : Txt K mg) : FnOk P w K mg base CX0 4 T.f_law_can_be_set T.d_law_can_be_set ["items", "most"] (sp_law_can_be_set K) := by
  refine T.u_law_can_be_set.ok sc_law_can_be_set (fun vs H Q E h => ?_) (fun cdv A outer s H vs Q E hr h => ?_)
  · obtain ⟨Mc, c, mok, da, pre, q⟩ := h
    exact (dpa_len da)
  · obtain ⟨Mc, c, mok, da, pre, q⟩ := h
    obtain ⟨items_, most_⟩ := c
    dsimp only at da pre q
    obtain ⟨v0, w0, rfl, d0, da0⟩ := dpa_inv da
    obtain ⟨v1, w1, rfl, d1, da1⟩ := dpa_inv da0
    cases dpa_inv0 da1
    cases (Dt.int d1)
    have s0 : Sg K Mc H H [(v0, Dx.toX items_)] [] := Sg.enter mok ⟨d0, True.intro⟩
    refine ⟨_, (pss_cons (ps_set (i := 2) sc_law_can_be_set.nd rfl (.inl rfl) (pe_lst (pa_cons pe_int pa_nil))) (pss_cons (ps_for PassesOwn.never rfl (pi_range2 (by rfl) T.n_range (pa_cons pe_int (pa_cons (pe_op op_add (pe_callB call_len (by rfl) T.n_len (by decide +kernel) (pa_cons (pv 0) pa_nil)) pe_int) pa_nil))) (pg_name (i := 3) sc_law_can_be_set.nd rfl (.inl rfl)) (pss_cons (ps_if (pt_not (pt_val (pe_call (ok_law_may_end T) (hr.mono (by decide)) (by rfl) T.g_law_may_end T.u_law_may_end.kp T.b_law_may_end .nil pass0 (pa_cons (pv 0) (pa_cons (pv 3) pa_nil))))) (pss_cons ps_continue pss_nil) pss_nil) (pss_cut (ps_for PassesOwn.never rfl (pi_range3 (by rfl) T.n_range (pa_cons (pe_op op_sub (pv 3) pe_int) (pa_cons (pe_un un_neg pe_int) (pa_cons (pe_un un_neg pe_int) pa_nil)))) (pg_name (i := 4) sc_law_can_be_set.nd rfl (.inl rfl)) (pss_cons (ps_if (PW.pt (pw_and (pt_cmpR op_lt (pv 4) (pe_op op_sub (pv 3) pe_int) (nomark _)) (pw_and1 (pt_cmpR op_eq (pe_ix ix_tup (pe_ix ix_list (pv 0) (pv 4) (fun _ _ => rfl)) pe_int (fun _ _ => rfl)) pe_str (nomark _))))) (pss_cons ps_break pss_nil) pss_nil) (pss_cons (ps_if (PW.pt (pw_and (pt_cmpR op_in_seq (pv 4) (pv 2) (by rfl)) (pw_and1 (pt_cmpR op_le (pe_ix ix_list (pe_call (ok_law_sums T) hr (by rfl) T.g_law_sums T.u_law_sums.kp T.b_law_sums .nil pass0 (pa_cons (pv 0) (pa_cons (pv 4) (pa_cons (pv 3) pa_nil)))) pe_int (fun _ _ => rfl)) (pv 1) (nomark _))))) (pss_cons (ps_expr (pe_bm PySem.F.plainAttrs_list PySem.F.slot_list_append PySem.F.type_list_append mt_append (pv 2) (pa_cons (pv 3) pa_nil))) (pss_cons ps_break pss_nil)) pss_nil) pss_nil))) pss_nil))) (pss_cons (ps_ret (pe_cmpR op_in_seq (pe_callB call_len (by rfl) T.n_len (by decide +kernel) (pa_cons (pv 0) pa_nil)) (pv 2) (by rfl))) pss_nil))), ?_⟩
    refine z_freshG s0 (hf_lst (has_cons (hv_int 0) has_nil) (Nat.le_of_ble_eq_true rfl)) fun reached_2 hreached_2 ps1 Hs1 s1 => ?_
    try dsimp only at hreached_2
    have lreached_2 := congrArg List.length hreached_2
    try simp only [List.length_map, irng_len, List.length_flatten, List.map_replicate, List.sum_replicate_nat, List.length_cons, List.length_nil] at lreached_2
    refine zq_forR2G s1 (hv_int 1) (hv_add (hv_len (hs_of (hv_var (x := items_) rfl s1.im.1))) (hv_int 1)) (by first | omega | decide +kernel | (simp only [List.length_cons, List.length_nil]; omega) | (have h9 := hb0; simp only [kd_box, kd_glue, kd_pen, kd_hyp, kd_forced, kd_note, kd_label, kd_page, Bool.or_eq_true, Bool.and_eq_true, decide_eq_true_eq, Bool.not_eq_true', Bool.not_eq_false', Bool.or_eq_false_iff, decide_eq_false_iff_not] at h9; omega) | (have h9 := hb1; simp only [kd_box, kd_glue, kd_pen, kd_hyp, kd_forced, kd_note, kd_label, kd_page, Bool.or_eq_true, Bool.and_eq_true, decide_eq_true_eq, Bool.not_eq_true', Bool.not_eq_false', Bool.or_eq_false_iff, decide_eq_false_iff_not] at h9; omega) | (have h9 := hb2; simp only [kd_box, kd_glue, kd_pen, kd_hyp, kd_forced, kd_note, kd_label, kd_page, Bool.or_eq_true, Bool.and_eq_true, decide_eq_true_eq, Bool.not_eq_true', Bool.not_eq_false', Bool.or_eq_false_iff, decide_eq_false_iff_not] at h9; omega) | (have h9 := hi1; simp only [kd_box, kd_glue, kd_pen, kd_hyp, kd_forced, kd_note, kd_label, kd_page, Bool.or_eq_true, Bool.and_eq_true, decide_eq_true_eq, Bool.not_eq_true', Bool.not_eq_false', Bool.or_eq_false_iff, decide_eq_false_iff_not] at h9; omega) | (have h9 := hi2; simp only [kd_box, kd_glue, kd_pen, kd_hyp, kd_forced, kd_note, kd_label, kd_page, Bool.or_eq_true, Bool.and_eq_true, decide_eq_true_eq, Bool.not_eq_true', Bool.not_eq_false', Bool.or_eq_false_iff, decide_eq_false_iff_not] at h9; omega)) (fun i σ' H' => ∃ (reached_3 : (List Int)) (o4 : Option V) (o5 : Option V), (loopN (m_law_can_be_set_l0 items_ most_) (Int.toNat ((((items_).length : Int) + (1 : Int)) - (1 : Int))) (1 : Int) reached_2 : (List Int)) = (loopN (m_law_can_be_set_l0 items_ most_) ((Int.toNat ((((items_).length : Int) + (1 : Int)) - (1 : Int))) - i) ((1 : Int) + (i : Int)) reached_3 : (List Int)) ∧ (reached_3.length ≤ (i) + 1) ∧ σ' = [some v0, some (V.int most_), some (.ref ps1), o4, o5] ∧ Sg K Mc H H' [(v0, Dx.toX items_)] [(ps1, .lst (List.map Dx.toX reached_3))]) (fun Hs6 s6 => ⟨reached_2, _, _, (by simp), (by first | trivial | omega | (simp; done) | simp_all), rfl, s6.keep fun _ h => ⟨h.1, True.intro⟩⟩) (fun i10 x11 σ' Hs9 hx12 hi13 hP => ?_) (fun σ' Hs9 hP => ?_)
    · obtain ⟨reached_3, o4, o5, he7, hg8, rfl, s9⟩ := hP
      refine z_ifx (b := (!(m_law_may_end items_ x11))) s9 (ht_not (ht_B (K := K) (hv_call (items_, x11) (hd_cons (hv_var (x := items_) rfl s9.im.1) (hd_cons (hv_vI rfl) hd_nil)) (by first | omega | (dsimp only; omega) | (subst_vars; omega) | decide +kernel)))) (fun hb15 Hs16 s16 => ?_) (fun hb15 Hs17 s17 => ?_)
      · have hb15P := hb15
        try simp only [kd_box, kd_glue, kd_pen, kd_hyp, kd_forced, kd_note, kd_label, kd_page, decide_eq_true_eq, decide_eq_false_iff_not, Bool.not_eq_true', Bool.not_eq_false', Bool.and_eq_true, Bool.or_eq_true, Bool.or_eq_false_iff] at hb15P
        have hf18 : (m_law_can_be_set_l0 items_ most_) reached_3 x11 = reached_3 := (by subst hreached_2; first | (simp only [m_law_can_be_set_l0, hb15, if_true, if_false, Bool.false_eq_true, decide_true, decide_false, Option.getD_some, Option.isNone_none, Option.isNone_some, Bool.not_true, Bool.not_false, ↓reduceIte]; done) | (rfl; done) | ((unfold m_law_can_be_set_l0); (dsimp only); (first | rw [ifT hb15] | rw [ifF hb15] | skip); (try dsimp only); first | done | rfl) | (exfalso; simp at hb15; done))
        exact ⟨reached_3, _, _, he7.trans ((loopN_step hi13).trans (by rw [← hx12, hf18])), (by first | trivial | omega | (simp_all; done) | (simp_all; omega)), rfl, s16.keep fun _ h => ⟨h.1, True.intro⟩⟩
      · have hb15P := hb15
        try simp only [kd_box, kd_glue, kd_pen, kd_hyp, kd_forced, kd_note, kd_label, kd_page, decide_eq_true_eq, decide_eq_false_iff_not, Bool.not_eq_true', Bool.not_eq_false', Bool.and_eq_true, Bool.or_eq_true, Bool.or_eq_false_iff] at hb15P
        refine ⟨(fun σ' H' => ∃ (reached_19 : (List Int)) (o20 : Option V), (loopB (fun (s_ : (List Int)) (i_ : Int) => (m_law_can_be_set_l1 x11 items_ most_) s_ ((x11 - (1 : Int)) - i_)) (Int.toNat ((x11 - (1 : Int)) - (-1 : Int))) (0 : Int) reached_3 : (List Int)) = reached_19 ∧ ((reached_19.length : Int) ≤ x11 + 1) ∧ σ' = [some v0, some (V.int most_), some (.ref ps1), some (V.int x11), o20] ∧ Sg K Mc H H' [(v0, Dx.toX items_)] [(ps1, .lst (List.map Dx.toX reached_19))]), ?_, fun σ' Hs30 hP => ?_⟩
        · refine z_forRC s17 (hv_sub (hv_vI rfl) (hv_int 1)) (hv_neg (hv_int 1)) (hv_neg (hv_int 1)) (by rfl) (by first | omega | decide +kernel | (simp only [List.length_cons, List.length_nil]; omega) | (have h9 := hb0; simp only [kd_box, kd_glue, kd_pen, kd_hyp, kd_forced, kd_note, kd_label, kd_page, Bool.or_eq_true, Bool.and_eq_true, decide_eq_true_eq, Bool.not_eq_true', Bool.not_eq_false', Bool.or_eq_false_iff, decide_eq_false_iff_not] at h9; omega) | (have h9 := hb1; simp only [kd_box, kd_glue, kd_pen, kd_hyp, kd_forced, kd_note, kd_label, kd_page, Bool.or_eq_true, Bool.and_eq_true, decide_eq_true_eq, Bool.not_eq_true', Bool.not_eq_false', Bool.or_eq_false_iff, decide_eq_false_iff_not] at h9; omega) | (have h9 := hb2; simp only [kd_box, kd_glue, kd_pen, kd_hyp, kd_forced, kd_note, kd_label, kd_page, Bool.or_eq_true, Bool.and_eq_true, decide_eq_true_eq, Bool.not_eq_true', Bool.not_eq_false', Bool.or_eq_false_iff, decide_eq_false_iff_not] at h9; omega) | (have h9 := hi1; simp only [kd_box, kd_glue, kd_pen, kd_hyp, kd_forced, kd_note, kd_label, kd_page, Bool.or_eq_true, Bool.and_eq_true, decide_eq_true_eq, Bool.not_eq_true', Bool.not_eq_false', Bool.or_eq_false_iff, decide_eq_false_iff_not] at h9; omega) | (have h9 := hi2; simp only [kd_box, kd_glue, kd_pen, kd_hyp, kd_forced, kd_note, kd_label, kd_page, Bool.or_eq_true, Bool.and_eq_true, decide_eq_true_eq, Bool.not_eq_true', Bool.not_eq_false', Bool.or_eq_false_iff, decide_eq_false_iff_not] at h9; omega)) (fun i σ' H' => ∃ (reached_19 : (List Int)) (o20 : Option V), (loopB (fun (s_ : (List Int)) (i_ : Int) => (m_law_can_be_set_l1 x11 items_ most_) s_ ((x11 - (1 : Int)) - i_)) (Int.toNat ((x11 - (1 : Int)) - (-1 : Int))) (0 : Int) reached_3 : (List Int)) = (loopB (fun (s_ : (List Int)) (i_ : Int) => (m_law_can_be_set_l1 x11 items_ most_) s_ ((x11 - (1 : Int)) - i_)) ((Int.toNat ((x11 - (1 : Int)) - (-1 : Int))) - i) ((0 : Int) + (i : Int)) reached_19 : (List Int)) ∧ ((reached_19.length : Int) ≤ x11) ∧ σ' = [some v0, some (V.int most_), some (.ref ps1), some (V.int x11), o20] ∧ Sg K Mc H H' [(v0, Dx.toX items_)] [(ps1, .lst (List.map Dx.toX reached_19))]) (fun Hs21 s21 => ⟨reached_3, _, (by simp), (by first | trivial | omega | (simp; done) | simp_all), rfl, s21.keep fun _ h => ⟨h.1, True.intro⟩⟩) (fun i25 x26 σ' Hs24 hx27 hi28 hP => ?_) (fun σ' Hs24 hP => ?_)
          · obtain ⟨reached_19, o20, he22, hg23, rfl, s24⟩ := hP
            refine z_ifx (b := ((decide (x26 < (x11 - (1 : Int)))) && (decide ((Itm.kind (items_.getD (Int.toNat x26) Itm.forced)) = (PySem.Str.ofString "forced"))))) s24 (ht_and (ht_val (K := K) (hv_lt (hv_vI rfl) (hv_sub (hv_vI rfl) (hv_int 1)))) (fun hb0 => (ht_val (K := K) (hv_eqS (hv_it0 (hv_at Itm.forced (hs_of (hv_var (x := items_) rfl s24.im.1)) (hv_vI rfl) (by first | omega | decide +kernel | (simp only [List.length_cons, List.length_nil]; omega) | (have h9 := hb0; simp only [kd_box, kd_glue, kd_pen, kd_hyp, kd_forced, kd_note, kd_label, kd_page, Bool.or_eq_true, Bool.and_eq_true, decide_eq_true_eq, Bool.not_eq_true', Bool.not_eq_false', Bool.or_eq_false_iff, decide_eq_false_iff_not] at h9; omega) | (have h9 := hb1; simp only [kd_box, kd_glue, kd_pen, kd_hyp, kd_forced, kd_note, kd_label, kd_page, Bool.or_eq_true, Bool.and_eq_true, decide_eq_true_eq, Bool.not_eq_true', Bool.not_eq_false', Bool.or_eq_false_iff, decide_eq_false_iff_not] at h9; omega) | (have h9 := hb2; simp only [kd_box, kd_glue, kd_pen, kd_hyp, kd_forced, kd_note, kd_label, kd_page, Bool.or_eq_true, Bool.and_eq_true, decide_eq_true_eq, Bool.not_eq_true', Bool.not_eq_false', Bool.or_eq_false_iff, decide_eq_false_iff_not] at h9; omega) | (have h9 := hi1; simp only [kd_box, kd_glue, kd_pen, kd_hyp, kd_forced, kd_note, kd_label, kd_page, Bool.or_eq_true, Bool.and_eq_true, decide_eq_true_eq, Bool.not_eq_true', Bool.not_eq_false', Bool.or_eq_false_iff, decide_eq_false_iff_not] at h9; omega) | (have h9 := hi2; simp only [kd_box, kd_glue, kd_pen, kd_hyp, kd_forced, kd_note, kd_label, kd_page, Bool.or_eq_true, Bool.and_eq_true, decide_eq_true_eq, Bool.not_eq_true', Bool.not_eq_false', Bool.or_eq_false_iff, decide_eq_false_iff_not] at h9; omega)) (by first | omega | decide +kernel | (simp only [List.length_cons, List.length_nil]; omega) | (have h9 := hb0; simp only [kd_box, kd_glue, kd_pen, kd_hyp, kd_forced, kd_note, kd_label, kd_page, Bool.or_eq_true, Bool.and_eq_true, decide_eq_true_eq, Bool.not_eq_true', Bool.not_eq_false', Bool.or_eq_false_iff, decide_eq_false_iff_not] at h9; omega) | (have h9 := hb1; simp only [kd_box, kd_glue, kd_pen, kd_hyp, kd_forced, kd_note, kd_label, kd_page, Bool.or_eq_true, Bool.and_eq_true, decide_eq_true_eq, Bool.not_eq_true', Bool.not_eq_false', Bool.or_eq_false_iff, decide_eq_false_iff_not] at h9; omega) | (have h9 := hb2; simp only [kd_box, kd_glue, kd_pen, kd_hyp, kd_forced, kd_note, kd_label, kd_page, Bool.or_eq_true, Bool.and_eq_true, decide_eq_true_eq, Bool.not_eq_true', Bool.not_eq_false', Bool.or_eq_false_iff, decide_eq_false_iff_not] at h9; omega) | (have h9 := hi1; simp only [kd_box, kd_glue, kd_pen, kd_hyp, kd_forced, kd_note, kd_label, kd_page, Bool.or_eq_true, Bool.and_eq_true, decide_eq_true_eq, Bool.not_eq_true', Bool.not_eq_false', Bool.or_eq_false_iff, decide_eq_false_iff_not] at h9; omega) | (have h9 := hi2; simp only [kd_box, kd_glue, kd_pen, kd_hyp, kd_forced, kd_note, kd_label, kd_page, Bool.or_eq_true, Bool.and_eq_true, decide_eq_true_eq, Bool.not_eq_true', Bool.not_eq_false', Bool.or_eq_false_iff, decide_eq_false_iff_not] at h9; omega)))) (hv_str _))))) (fun hb31 Hs32 s32 => ?_) (fun hb31 Hs33 s33 => ?_)
            · have hb31P := hb31
              try simp only [kd_box, kd_glue, kd_pen, kd_hyp, kd_forced, kd_note, kd_label, kd_page, decide_eq_true_eq, decide_eq_false_iff_not, Bool.not_eq_true', Bool.not_eq_false', Bool.and_eq_true, Bool.or_eq_true, Bool.or_eq_false_iff] at hb31P
              have hf34 : (m_law_can_be_set_l1 x11 items_ most_) reached_19 x26 = Lp.brk reached_19 := (by subst hreached_2; first | (simp only [m_law_can_be_set_l1, hb15, hb31, if_true, if_false, Bool.false_eq_true, decide_true, decide_false, Option.getD_some, Option.isNone_none, Option.isNone_some, Bool.not_true, Bool.not_false, ↓reduceIte]; done) | (rfl; done) | ((unfold m_law_can_be_set_l1); (dsimp only); (first | rw [ifT hb15] | rw [ifF hb15] | skip); (try dsimp only); (first | rw [ifT hb31] | rw [ifF hb31] | skip); (try dsimp only); first | done | rfl) | (exfalso; simp at hb31; done) | (exfalso; simp at hb15; done))
              exact ⟨reached_19, _, he22.trans (loopB_brk hi28 (by (try dsimp only); rw [← hx27]; exact hf34)), (by first | trivial | omega | (simp_all; done) | (simp_all; omega)), rfl, s32.keep fun _ h => ⟨h.1, True.intro⟩⟩
            · have hb31P := hb31
              try simp only [kd_box, kd_glue, kd_pen, kd_hyp, kd_forced, kd_note, kd_label, kd_page, decide_eq_true_eq, decide_eq_false_iff_not, Bool.not_eq_true', Bool.not_eq_false', Bool.and_eq_true, Bool.or_eq_true, Bool.or_eq_false_iff] at hb31P
              refine z_ifx (b := ((decide (x26 ∈ reached_19)) && (decide (((m_law_sums items_ x26 x11).getD (Int.toNat (0 : Int)) 0) ≤ most_)))) s33 (ht_and (ht_val (K := K) (hv_inLI (hv_vI rfl) (hs_mut s33 (k := 0) rfl rfl))) (fun hb0 => (ht_val (K := K) (hv_le (hv_at 0 (hs_of (hv_call (items_, x26, x11) (hd_cons (hv_var (x := items_) rfl s33.im.1) (hd_cons (hv_vI rfl) (hd_cons (hv_vI rfl) hd_nil))) (by (try dsimp only); exact ⟨by omega, by omega, by omega, by omega⟩))) (hv_int 0) (by first | omega | (rw [sums_len]; decide)) (by first | omega | (rw [sums_len]; decide))) (hv_vI rfl))))) (fun hb35 Hs36 s36 => ?_) (fun hb35 Hs37 s37 => ?_)
              · have hb35P := hb35
                try simp only [kd_box, kd_glue, kd_pen, kd_hyp, kd_forced, kd_note, kd_label, kd_page, decide_eq_true_eq, decide_eq_false_iff_not, Bool.not_eq_true', Bool.not_eq_false', Bool.and_eq_true, Bool.or_eq_true, Bool.or_eq_false_iff] at hb35P
                refine zq_appG s36 (kk := 0) rfl (ev_var rfl) (hv_vI rfl) (by first | omega | decide +kernel | (simp only [List.length_cons, List.length_nil]; omega) | (have h9 := hb0; simp only [kd_box, kd_glue, kd_pen, kd_hyp, kd_forced, kd_note, kd_label, kd_page, Bool.or_eq_true, Bool.and_eq_true, decide_eq_true_eq, Bool.not_eq_true', Bool.not_eq_false', Bool.or_eq_false_iff, decide_eq_false_iff_not] at h9; omega) | (have h9 := hb1; simp only [kd_box, kd_glue, kd_pen, kd_hyp, kd_forced, kd_note, kd_label, kd_page, Bool.or_eq_true, Bool.and_eq_true, decide_eq_true_eq, Bool.not_eq_true', Bool.not_eq_false', Bool.or_eq_false_iff, decide_eq_false_iff_not] at h9; omega) | (have h9 := hb2; simp only [kd_box, kd_glue, kd_pen, kd_hyp, kd_forced, kd_note, kd_label, kd_page, Bool.or_eq_true, Bool.and_eq_true, decide_eq_true_eq, Bool.not_eq_true', Bool.not_eq_false', Bool.or_eq_false_iff, decide_eq_false_iff_not] at h9; omega) | (have h9 := hi1; simp only [kd_box, kd_glue, kd_pen, kd_hyp, kd_forced, kd_note, kd_label, kd_page, Bool.or_eq_true, Bool.and_eq_true, decide_eq_true_eq, Bool.not_eq_true', Bool.not_eq_false', Bool.or_eq_false_iff, decide_eq_false_iff_not] at h9; omega) | (have h9 := hi2; simp only [kd_box, kd_glue, kd_pen, kd_hyp, kd_forced, kd_note, kd_label, kd_page, Bool.or_eq_true, Bool.and_eq_true, decide_eq_true_eq, Bool.not_eq_true', Bool.not_eq_false', Bool.or_eq_false_iff, decide_eq_false_iff_not] at h9; omega)) fun reached_39 hreached_39 Hs38 s38 => ?_
                have lreached_39 : reached_39.length = reached_19.length + 1 := by rw [hreached_39, List.length_append]; rfl
                have s38 : Sg K Mc _ _ _ [(ps1, .lst (List.map Dx.toX reached_39))] := s38
                have hf40 : (m_law_can_be_set_l1 x11 items_ most_) reached_19 x26 = Lp.brk reached_39 := (by subst hreached_39; subst hreached_2; first | (simp only [m_law_can_be_set_l1, hb15, hb31, hb35, if_true, if_false, Bool.false_eq_true, decide_true, decide_false, Option.getD_some, Option.isNone_none, Option.isNone_some, Bool.not_true, Bool.not_false, ↓reduceIte]; done) | (rfl; done) | ((unfold m_law_can_be_set_l1); (dsimp only); (first | rw [ifT hb15] | rw [ifF hb15] | skip); (try dsimp only); (first | rw [ifT hb31] | rw [ifF hb31] | skip); (try dsimp only); (first | rw [ifT hb35] | rw [ifF hb35] | skip); (try dsimp only); first | done | rfl) | (exfalso; simp at hb35; done) | (exfalso; simp at hb31; done) | (exfalso; simp at hb15; done))
                exact ⟨reached_39, _, he22.trans (loopB_brk hi28 (by (try dsimp only); rw [← hx27]; exact hf40)), (by first | trivial | omega | (simp_all; done) | (simp_all; omega)), rfl, s38.keep fun _ h => ⟨h.1, True.intro⟩⟩
              · have hb35P := hb35
                try simp only [kd_box, kd_glue, kd_pen, kd_hyp, kd_forced, kd_note, kd_label, kd_page, decide_eq_true_eq, decide_eq_false_iff_not, Bool.not_eq_true', Bool.not_eq_false', Bool.and_eq_true, Bool.or_eq_true, Bool.or_eq_false_iff] at hb35P
                have hf41 : (m_law_can_be_set_l1 x11 items_ most_) reached_19 x26 = Lp.nxt reached_19 := (by subst hreached_2; first | (simp only [m_law_can_be_set_l1, hb15, hb31, hb35, if_true, if_false, Bool.false_eq_true, decide_true, decide_false, Option.getD_some, Option.isNone_none, Option.isNone_some, Bool.not_true, Bool.not_false, ↓reduceIte]; done) | (rfl; done) | ((unfold m_law_can_be_set_l1); (dsimp only); (first | rw [ifT hb15] | rw [ifF hb15] | skip); (try dsimp only); (first | rw [ifT hb31] | rw [ifF hb31] | skip); (try dsimp only); (first | rw [ifT hb35] | rw [ifF hb35] | skip); (try dsimp only); first | done | rfl) | (exfalso; simp at hb35; done) | (exfalso; simp at hb31; done) | (exfalso; simp at hb15; done))
                exact ⟨reached_19, _, he22.trans (loopB_nxt hi28 (by (try dsimp only); rw [← hx27]; exact hf41)), (by first | trivial | omega | (simp_all; done) | (simp_all; omega)), rfl, s37.keep fun _ h => ⟨h.1, True.intro⟩⟩
          · obtain ⟨reached_42, o43, he45, hg46, rfl, s44⟩ := hP
            rw [loopB_end] at he45
            exact ⟨reached_42, o43, he45, (by first | trivial | omega | (simp_all; done) | (simp_all; omega)), rfl, s44⟩
        · obtain ⟨reached_42, o43, he45, hg46, rfl, s44⟩ := hP
          have hf47 : (m_law_can_be_set_l0 items_ most_) reached_3 x11 = reached_42 := (by subst hreached_2; first | (simp only [m_law_can_be_set_l0, hb15, he45, if_true, if_false, Bool.false_eq_true, decide_true, decide_false, Option.getD_some, Option.isNone_none, Option.isNone_some, Bool.not_true, Bool.not_false, ↓reduceIte]; done) | (rfl; done) | ((unfold m_law_can_be_set_l0); (dsimp only); (first | rw [ifT hb15] | rw [ifF hb15] | skip); (try dsimp only); (first | rw [he45] | skip); (try dsimp only); first | done | rfl) | (exfalso; simp at hb15; done))
          exact ⟨reached_42, _, _, he7.trans ((loopN_step hi13).trans (by rw [← hx12, hf47])), (by first | trivial | omega | (simp_all; done) | (simp_all; omega)), rfl, s44.keep fun _ h => ⟨h.1, True.intro⟩⟩
    · obtain ⟨reached_48, o49, o50, he52, hg53, rfl, s51⟩ := hP
      rw [loopN_end] at he52
      have s54 := Sg.frz (xs := reached_48) s51
      have hF55 : m_law_can_be_set items_ most_ = (decide (((items_).length : Int) ∈ reached_48)) := (by subst hreached_2; first | (simp only [m_law_can_be_set, he52, if_true, if_false, Bool.false_eq_true, decide_true, decide_false, Option.getD_some, Option.isNone_none, Option.isNone_some, Bool.not_true, Bool.not_false, ↓reduceIte]; done) | (rfl; done) | ((unfold m_law_can_be_set); (dsimp only); (first | rw [he52] | skip); (try dsimp only); first | done | rfl))
      exact zq_ret s54 (hv_inLI (hv_len (hs_of (hv_var (x := items_) rfl s54.im.2.1))) (hs_of (hv_var (x := reached_48) rfl s54.im.1))) fun v H' e d => q v H' e (by rw [hF55]; exact d)
def m_needs (items_ : (List Itm)) : (Int × Int) :=
  let measures_ : Cl_Measures := (m_Measures___init__ items_)
  ((Option.getD (m_least_width measures_) 0), (m_widest_width measures_))
abbrev s_needs : Stmt := (topS 15)
theorem sc_needs : FnScope ["items", "measures"] ["items"] (defScope s_needs) := ⟨rfl, rfl, rfl, by decide +kernel, rfl, by decide +kernel, by decide +kernel⟩
abbrev sp_needs (K : PySem.W.Frag) : Sp := PrD K (fun c : (List Itm) => [Dx.toX c]) (fun c => c.length ≤ 1000 ∧ (∀ i ∈ c, ItOk i)) (fun c => (m_needs c : (Int × Int)))
theorem ok_needs (T : Txt K mg) : FnOk P w K mg base CX0 5 T.f_needs T.d_needs ["items"] (sp_needs K) := by
  refine T.u_needs.ok sc_needs (fun vs H Q E h => ?_) (fun cdv A outer s H vs Q E hr h => ?_)
  · obtain ⟨Mc, c, mok, da, pre, q⟩ := h
    exact (dpa_len da)
  · obtain ⟨Mc, c, mok, da, pre, q⟩ := h
    obtain ⟨items_, rfl⟩ : ∃ z, z = c := ⟨c, rfl⟩
    dsimp only at da pre q
    obtain ⟨v0, w0, rfl, d0, da0⟩ := dpa_inv da
    cases dpa_inv0 da0
    have s0 : Sg K Mc H H [(v0, Dx.toX items_)] [] := Sg.enter mok ⟨d0, True.intro⟩
    refine ⟨_, (pss_cons (ps_set (i := 1) sc_needs.nd rfl (.inl rfl) (pe_make T.mk_Measures (ok_Measures___init__ T) hr (by rfl) T.g_Measures T.b_Measures___init__ .nil pass0 (pa_cons (pv 0) pa_nil))) (pss_cons (ps_ret (pe_tup (pa_cons (pe_call (ok_least_width T) hr (by rfl) T.g_least_width T.u_least_width.kp T.b_least_width .nil pass0 (pa_cons (pv 1) pa_nil)) (pa_cons (pe_call (ok_widest_width T) hr (by rfl) T.g_widest_width T.u_widest_width.kp T.b_widest_width .nil pass0 (pa_cons (pv 1) pa_nil)) pa_nil)))) pss_nil)), ?_⟩
    refine z_asgG s0 (hv_make items_ T.c_Measures (hd_cons (hv_var (x := items_) rfl s0.im.1) hd_nil) (by first | omega | (dsimp only; omega) | (subst_vars; omega) | decide +kernel)) fun measures_2 hmeasures_2 vmeasures_2 Hs1 s1 => ?_
    try dsimp only at hmeasures_2
    have gm : GoodM measures_2 := by rw [hmeasures_2]; exact ⟨_, rfl, pre.1, pre.2⟩
    have hF3 : m_needs items_ = ((Option.getD (m_least_width measures_2) 0), (m_widest_width measures_2)) := (by subst hmeasures_2; first | (simp only [m_needs, if_true, if_false, Bool.false_eq_true, decide_true, decide_false, Option.getD_some, Option.isNone_none, Option.isNone_some, Bool.not_true, Bool.not_false, ↓reduceIte]; done) | (rfl; done) | ((unfold m_needs); (dsimp only); first | done | rfl))
    exact zq_ret s1 (hv_tup2 (hv_unopt (hv_call measures_2 (hd_cons (hv_var (x := measures_2) rfl s1.im.1) hd_nil) (by (try dsimp only); exact gm)) (by exact least_some gm)) (hv_call measures_2 (hd_cons (hv_var (x := measures_2) rfl s1.im.1) hd_nil) (by (try dsimp only); exact gm))) fun v H' e d => q v H' e (by rw [hF3]; exact d)
def m_law_l0 (count_ : Int) (items_ : (List Itm)) (s_ : Int × Int) (x_ : Int) : Int × Int :=
  let expected_ : Int := s_.1
  let start_ : Int := s_.2
  let end_ : Int := x_
  if ((decide (end_ = count_)) || (decide ((Itm.kind (items_.getD (Int.toNat (end_ - (1 : Int))) Itm.forced)) = (PySem.Str.ofString "forced")))) = true then
    let expected_ : Int := (max expected_ ((m_law_sums items_ start_ end_).getD (Int.toNat (0 : Int)) 0))
    let start_ : Int := end_
    (expected_, start_)
  else
    (expected_, start_)
def m_law (script_ : (List Int)) : Bool :=
  let count_ : Int := ((m_law_cell script_ (0 : Int)) % (13 : Int))
  let draws_ : (List Int) := (List.map (fun (c_ : Int) => (m_law_big (m_law_cell script_ ((2 : Int) + c_)))) (irng (0 : Int) (Int.toNat count_)))
  let items_ : (List Itm) := (m_law_items draws_ count_ (decide (((m_law_cell script_ (1 : Int)) % (2 : Int)) = (0 : Int))))
  let passed_ : (List Itm) := items_
  let actual_ : (Int × Int) := (m_needs passed_)
  if (!decide (passed_ = items_)) = true then
    false
  else
    let p199_ : (Int × Int) := actual_
    let least_ : Int := p199_.1
    let widest_ : Int := p199_.2
    if ((!(m_law_is_integer least_)) || (!(m_law_is_integer widest_))) = true then
      false
    else
      if (decide (count_ = (0 : Int))) = true then
        (decide (actual_ = ((0 : Int), (0 : Int))))
      else
        let expected_ : Int := (0 : Int)
        let start_ : Int := (0 : Int)
        let r0_ : Int × Int := loopN (m_law_l0 count_ items_) (Int.toNat ((count_ + (1 : Int)) - (1 : Int))) (1 : Int) (expected_, start_)
        let expected_ : Int := r0_.1
        let start_ : Int := r0_.2
        if ((!decide (widest_ = expected_)) || ((decide (least_ < (0 : Int))) || (!(m_law_can_be_set items_ least_)))) = true then
          false
        else
          ((decide (least_ = (0 : Int))) || (!(m_law_can_be_set items_ (least_ - (1 : Int)))))
abbrev s_law : Stmt := (topS 30)
theorem sc_law : FnScope ["script", "count", "draws", "k", "items", "passed", "actual", "least", "widest", "expected", "start", "end"] ["script"] (defScope s_law) := ⟨rfl, rfl, rfl, by decide +kernel, rfl, by decide +kernel, by decide +kernel⟩
abbrev sp_law (K : PySem.W.Frag) : Sp := PrD K (fun c : (List Int) => [Dx.toX c]) (fun c => True) (fun c => (m_law c : Bool))
theorem ok_law (T : Txt K mg) : FnOk P w K mg base CX0 6 T.f_law T.d_law ["script"] (sp_law K) := by
  refine T.u_law.ok sc_law (fun vs H Q E h => ?_) (fun cdv A outer s H vs Q E hr h => ?_)
  · obtain ⟨Mc, c, mok, da, pre, q⟩ := h
    exact (dpa_len da)
  · obtain ⟨Mc, c, mok, da, pre, q⟩ := h
    obtain ⟨script_, rfl⟩ : ∃ z, z = c := ⟨c, rfl⟩
    dsimp only at da pre q
    obtain ⟨v0, w0, rfl, d0, da0⟩ := dpa_inv da
    cases dpa_inv0 da0
    have s0 : Sg K Mc H H [(v0, Dx.toX script_)] [] := Sg.enter mok ⟨d0, True.intro⟩
    refine ⟨_, (pss_cons (ps_set (i := 1) sc_law.nd rfl (.inl rfl) (pe_op op_mod (pe_call (ok_law_cell T) (hr.mono (by decide)) (by rfl) T.g_law_cell T.u_law_cell.kp T.b_law_cell .nil pass0 (pa_cons (pv 0) (pa_cons pe_int pa_nil))) pe_int)) (pss_cons (ps_setLc (i := 2) rfl sc_law.nd rfl rfl (sw_true rfl rfl rfl (by decide +kernel)) (own := [("k", 3)]) (g := gName 3) (pi_range1 (by rfl) T.n_range (pa_cons (pv 1) pa_nil)) (blkOk_by (own := [("k", 3)]) (N := ["script", "count", "draws", "k", "items", "passed", "actual", "least", "widest", "expected", "start", "end"]) (sc := defScope s_law) (by decide +kernel)) (fun _ _ _ _ _ => (pg_name (i := 3) sc_law.nd rfl (Or.inl rfl) (.inr (by rfl)))) (fun _ _ _ _ _ => pts_nil) (fun _ _ _ _ _ => (pe_call (ok_law_big T) (hr.mono (by decide)) (by rfl) T.g_law_big T.u_law_big.kp T.b_law_big .nil pass0 (pa_cons (pe_call (ok_law_cell T) (hr.mono (by decide)) (by rfl) T.g_law_cell T.u_law_cell.kp T.b_law_cell .nil pass0 (pa_cons (pv 0) (pa_cons (pe_op op_add pe_int (pv 3)) pa_nil))) pa_nil)))) (pss_cons (ps_set (i := 4) sc_law.nd rfl (.inl rfl) (pe_call (ok_law_items T) (hr.mono (by decide)) (by rfl) T.g_law_items T.u_law_items.kp T.b_law_items .nil pass0 (pa_cons (pv 2) (pa_cons (pv 1) (pa_cons (pe_cmpR op_eq (pe_op op_mod (pe_call (ok_law_cell T) (hr.mono (by decide)) (by rfl) T.g_law_cell T.u_law_cell.kp T.b_law_cell .nil pass0 (pa_cons (pv 0) (pa_cons pe_int pa_nil))) pe_int) pe_int (nomark _)) pa_nil))))) (pss_cons (ps_set (i := 5) sc_law.nd rfl (.inl rfl) (pe_callTy call_list_of (by rfl) T.n_list (by decide +kernel) (pa_cons (pv 4) pa_nil))) (pss_cons (ps_set (i := 6) sc_law.nd rfl (.inl rfl) (pe_call (ok_needs T) hr (by rfl) T.g_needs T.u_needs.kp T.b_needs .nil pass0 (pa_cons (pv 5) pa_nil))) (pss_cons (ps_if (PW.pt (pw_or (pt_not (pt_val (pe_callB call_isi (by rfl) T.n_isinstance (by decide +kernel) (pa_cons (pv 6) (pa_cons (pe_bltn (v := .ty "tuple") (by rfl) T.n_tuple (by decide +kernel) rfl) pa_nil))))) (pw_or (pt_cmpR op_ne (pe_callB call_len (by rfl) T.n_len (by decide +kernel) (pa_cons (pv 6) pa_nil)) pe_int (nomark _)) (pw_or1 (pt_cmpR (op_neT (α := (List Itm)) (hud hr (by decide +kernel))) (pv 5) (pv 4) (nomark _)))))) (pss_cons (ps_ret pe_bl) pss_nil) pss_nil) (pss_cons (ps_asg (pv 6) (pg_tup rfl (pgs_cons (pg_name (i := 7) sc_law.nd rfl (.inl rfl)) (pgs_cons (pg_name (i := 8) sc_law.nd rfl (.inl rfl)) pgs_nil)))) (pss_cons (ps_if (PW.pt (pw_or (pt_not (pt_val (pe_call (ok_law_is_integer T) (hr.mono (by decide)) (by rfl) T.g_law_is_integer T.u_law_is_integer.kp T.b_law_is_integer .nil pass0 (pa_cons (pv 7) pa_nil)))) (pw_or1 (pt_not (pt_val (pe_call (ok_law_is_integer T) (hr.mono (by decide)) (by rfl) T.g_law_is_integer T.u_law_is_integer.kp T.b_law_is_integer .nil pass0 (pa_cons (pv 8) pa_nil))))))) (pss_cons (ps_ret pe_bl) pss_nil) pss_nil) (pss_cons (ps_if (pt_cmpR op_eq (pv 1) pe_int (nomark _)) (pss_cons (ps_ret (pe_cmpR (op_eqT (α := (Int × Int)) (hud hr (by decide +kernel))) (pv 6) (pe_tup (pa_cons pe_int (pa_cons pe_int pa_nil))) (nomark _))) pss_nil) pss_nil) (pss_cons (ps_set (i := 9) sc_law.nd rfl (.inl rfl) pe_int) (pss_cons (ps_set (i := 10) sc_law.nd rfl (.inl rfl) pe_int) (pss_cons (ps_for PassesOwn.never rfl (pi_range2 (by rfl) T.n_range (pa_cons pe_int (pa_cons (pe_op op_add (pv 1) pe_int) pa_nil))) (pg_name (i := 11) sc_law.nd rfl (.inl rfl)) (pss_cons (ps_if (PW.pt (pw_or (pt_cmpR op_eq (pv 11) (pv 1) (nomark _)) (pw_or1 (pt_cmpR op_eq (pe_ix ix_tup (pe_ix ix_list (pv 4) (pe_op op_sub (pv 11) pe_int) (fun _ _ => rfl)) pe_int (fun _ _ => rfl)) pe_str (nomark _))))) (pss_cons (ps_set (i := 9) sc_law.nd rfl (.inl rfl) (pe_callB (call_max2 rfl) (by rfl) T.n_max (by decide +kernel) (pa_cons (pv 9) (pa_cons (pe_ix ix_list (pe_call (ok_law_sums T) (hr.mono (by decide)) (by rfl) T.g_law_sums T.u_law_sums.kp T.b_law_sums .nil pass0 (pa_cons (pv 4) (pa_cons (pv 10) (pa_cons (pv 11) pa_nil)))) pe_int (fun _ _ => rfl)) pa_nil)))) (pss_cons (ps_set (i := 10) sc_law.nd rfl (.inl rfl) (pv 11)) pss_nil)) pss_nil) pss_nil)) (pss_cons (ps_if (PW.pt (pw_or (pt_cmpR op_ne (pv 8) (pv 9) (nomark _)) (pw_or (pt_cmpR op_lt (pv 7) pe_int (nomark _)) (pw_or1 (pt_not (pt_val (pe_call (ok_law_can_be_set T) (hr.mono (by decide)) (by rfl) T.g_law_can_be_set T.u_law_can_be_set.kp T.b_law_can_be_set .nil pass0 (pa_cons (pv 4) (pa_cons (pv 7) pa_nil))))))))) (pss_cons (ps_ret pe_bl) pss_nil) pss_nil) (pss_cons (ps_ret (pe_or (pe_cmpR op_eq (pv 7) pe_int (nomark _)) (pe_one (pe_not (pe_call (ok_law_can_be_set T) (hr.mono (by decide)) (by rfl) T.g_law_can_be_set T.u_law_can_be_set.kp T.b_law_can_be_set .nil pass0 (pa_cons (pv 4) (pa_cons (pe_op op_sub (pv 7) pe_int) pa_nil))))))) pss_nil)))))))))))))), ?_⟩
    refine z_asgIG s0 (hv_mod (hv_call (script_, (0 : Int)) (hd_cons (hv_var (x := script_) rfl s0.im.1) (hd_cons (hv_int 0) hd_nil)) (by first | omega | (dsimp only; omega) | (subst_vars; omega) | decide +kernel)) (hv_int 13) (by first | omega | decide +kernel | (simp only [List.length_cons, List.length_nil]; omega) | (have h9 := hb0; simp only [kd_box, kd_glue, kd_pen, kd_hyp, kd_forced, kd_note, kd_label, kd_page, Bool.or_eq_true, Bool.and_eq_true, decide_eq_true_eq, Bool.not_eq_true', Bool.not_eq_false', Bool.or_eq_false_iff, decide_eq_false_iff_not] at h9; omega) | (have h9 := hb1; simp only [kd_box, kd_glue, kd_pen, kd_hyp, kd_forced, kd_note, kd_label, kd_page, Bool.or_eq_true, Bool.and_eq_true, decide_eq_true_eq, Bool.not_eq_true', Bool.not_eq_false', Bool.or_eq_false_iff, decide_eq_false_iff_not] at h9; omega) | (have h9 := hb2; simp only [kd_box, kd_glue, kd_pen, kd_hyp, kd_forced, kd_note, kd_label, kd_page, Bool.or_eq_true, Bool.and_eq_true, decide_eq_true_eq, Bool.not_eq_true', Bool.not_eq_false', Bool.or_eq_false_iff, decide_eq_false_iff_not] at h9; omega) | (have h9 := hi1; simp only [kd_box, kd_glue, kd_pen, kd_hyp, kd_forced, kd_note, kd_label, kd_page, Bool.or_eq_true, Bool.and_eq_true, decide_eq_true_eq, Bool.not_eq_true', Bool.not_eq_false', Bool.or_eq_false_iff, decide_eq_false_iff_not] at h9; omega) | (have h9 := hi2; simp only [kd_box, kd_glue, kd_pen, kd_hyp, kd_forced, kd_note, kd_label, kd_page, Bool.or_eq_true, Bool.and_eq_true, decide_eq_true_eq, Bool.not_eq_true', Bool.not_eq_false', Bool.or_eq_false_iff, decide_eq_false_iff_not] at h9; omega))) fun count_2 hcount_2 Hs1 s1 => ?_
    try dsimp only at hcount_2
    refine z_asgG s1 (hv_lcR0 s1 (fun (c_ : Int) => (m_law_big (m_law_cell script_ ((2 : Int) + c_)))) (hv_vI rfl) (by first | omega | decide +kernel | (simp only [List.length_cons, List.length_nil]; omega) | (have h9 := hb0; simp only [kd_box, kd_glue, kd_pen, kd_hyp, kd_forced, kd_note, kd_label, kd_page, Bool.or_eq_true, Bool.and_eq_true, decide_eq_true_eq, Bool.not_eq_true', Bool.not_eq_false', Bool.or_eq_false_iff, decide_eq_false_iff_not] at h9; omega) | (have h9 := hb1; simp only [kd_box, kd_glue, kd_pen, kd_hyp, kd_forced, kd_note, kd_label, kd_page, Bool.or_eq_true, Bool.and_eq_true, decide_eq_true_eq, Bool.not_eq_true', Bool.not_eq_false', Bool.or_eq_false_iff, decide_eq_false_iff_not] at h9; omega) | (have h9 := hb2; simp only [kd_box, kd_glue, kd_pen, kd_hyp, kd_forced, kd_note, kd_label, kd_page, Bool.or_eq_true, Bool.and_eq_true, decide_eq_true_eq, Bool.not_eq_true', Bool.not_eq_false', Bool.or_eq_false_iff, decide_eq_false_iff_not] at h9; omega) | (have h9 := hi1; simp only [kd_box, kd_glue, kd_pen, kd_hyp, kd_forced, kd_note, kd_label, kd_page, Bool.or_eq_true, Bool.and_eq_true, decide_eq_true_eq, Bool.not_eq_true', Bool.not_eq_false', Bool.or_eq_false_iff, decide_eq_false_iff_not] at h9; omega) | (have h9 := hi2; simp only [kd_box, kd_glue, kd_pen, kd_hyp, kd_forced, kd_note, kd_label, kd_page, Bool.or_eq_true, Bool.and_eq_true, decide_eq_true_eq, Bool.not_eq_true', Bool.not_eq_false', Bool.or_eq_false_iff, decide_eq_false_iff_not] at h9; omega)) (fun D6 c7 ys9 Hs5 s5 hx11 Q k => by exact k _ rfl (hv_call (m_law_cell script_ ((2 : Int) + c7)) (hd_cons (hv_call (script_, ((2 : Int) + c7)) (hd_cons (hv_var (x := script_) rfl s5.im.1) (hd_cons (hv_add (hv_int 2) (hv_vI rfl)) hd_nil)) (by first | omega | (dsimp only; omega) | (subst_vars; omega) | decide +kernel)) hd_nil) True.intro))) fun draws_4 hdraws_4 vdraws_4 Hs3 s3 => ?_
    try dsimp only at hdraws_4
    have ldraws_4 : (draws_4.length : Int) = count_2 := by rw [hdraws_4, List.length_map, irng_len]; omega
    refine z_asgG s3 (hv_call (draws_4, count_2, (decide (((m_law_cell script_ (1 : Int)) % (2 : Int)) = (0 : Int)))) (hd_cons (hv_var (x := draws_4) rfl s3.im.1) (hd_cons (hv_vI rfl) (hd_cons (hv_eqI (hv_mod (hv_call (script_, (1 : Int)) (hd_cons (hv_var (x := script_) rfl s3.im.2.1) (hd_cons (hv_int 1) hd_nil)) (by first | omega | (dsimp only; omega) | (subst_vars; omega) | decide +kernel)) (hv_int 2) (by first | omega | decide +kernel | (simp only [List.length_cons, List.length_nil]; omega) | (have h9 := hb0; simp only [kd_box, kd_glue, kd_pen, kd_hyp, kd_forced, kd_note, kd_label, kd_page, Bool.or_eq_true, Bool.and_eq_true, decide_eq_true_eq, Bool.not_eq_true', Bool.not_eq_false', Bool.or_eq_false_iff, decide_eq_false_iff_not] at h9; omega) | (have h9 := hb1; simp only [kd_box, kd_glue, kd_pen, kd_hyp, kd_forced, kd_note, kd_label, kd_page, Bool.or_eq_true, Bool.and_eq_true, decide_eq_true_eq, Bool.not_eq_true', Bool.not_eq_false', Bool.or_eq_false_iff, decide_eq_false_iff_not] at h9; omega) | (have h9 := hb2; simp only [kd_box, kd_glue, kd_pen, kd_hyp, kd_forced, kd_note, kd_label, kd_page, Bool.or_eq_true, Bool.and_eq_true, decide_eq_true_eq, Bool.not_eq_true', Bool.not_eq_false', Bool.or_eq_false_iff, decide_eq_false_iff_not] at h9; omega) | (have h9 := hi1; simp only [kd_box, kd_glue, kd_pen, kd_hyp, kd_forced, kd_note, kd_label, kd_page, Bool.or_eq_true, Bool.and_eq_true, decide_eq_true_eq, Bool.not_eq_true', Bool.not_eq_false', Bool.or_eq_false_iff, decide_eq_false_iff_not] at h9; omega) | (have h9 := hi2; simp only [kd_box, kd_glue, kd_pen, kd_hyp, kd_forced, kd_note, kd_label, kd_page, Bool.or_eq_true, Bool.and_eq_true, decide_eq_true_eq, Bool.not_eq_true', Bool.not_eq_false', Bool.or_eq_false_iff, decide_eq_false_iff_not] at h9; omega))) (hv_int 0)) hd_nil))) (by first | omega | (dsimp only; omega) | (subst_vars; omega) | decide +kernel)) fun items_14 hitems_14 vitems_14 Hs13 s13 => ?_
    try dsimp only at hitems_14
    have litems_14 : (items_14.length : Int) = count_2 := by rw [hitems_14, items_len]; omega
    have io : ∀ i ∈ items_14, ItOk i := by rw [hitems_14]; exact items_ok _ _ _
    refine z_asgG s13 (hv_listOf (hs_of (hv_var (x := items_14) rfl s13.im.1))) fun passed_16 hpassed_16 vpassed_16 Hs15 s15 => ?_
    try dsimp only at hpassed_16
    have lpassed_16 : passed_16.length = (items_14).length := by rw [hpassed_16]
    have iop : ∀ i ∈ passed_16, ItOk i := by rw [hpassed_16]; exact io
    refine z_asgG s15 (hv_call passed_16 (hd_cons (hv_var (x := passed_16) rfl s15.im.1) hd_nil) (by (try dsimp only); first | exact ⟨by omega, iop⟩ | exact ⟨by omega, io⟩)) fun actual_18 hactual_18 vactual_18 Hs17 s17 => ?_
    try dsimp only at hactual_18
    refine z_ifx (b := (!decide (passed_16 = items_14))) s17 (HT.is (ht_or (HT.is (ht_not (ht_B (K := K) (hv_isi (b := true) (hv_var (x := actual_18) rfl s17.im.1) (by decide +kernel)))) (show _ = false by first | rfl | decide | simp)) (fun hb0 => (ht_or (HT.is (ht_val (K := K) (hv_neI (hv_len2 (hv_var (x := actual_18) rfl s17.im.1)) (hv_int 2))) (show _ = false by first | rfl | decide | simp)) (fun hb1 => (ht_val (K := K) (hv_neT (hv_whole s17 (hv_var (x := passed_16) rfl s17.im.2.1)) (hv_whole s17 (hv_var (x := items_14) rfl s17.im.2.2.1)))))))) (show _ = (!decide (passed_16 = items_14)) by first | rfl | decide | simp)) (fun hb19 Hs20 s20 => ?_) (fun hb19 Hs21 s21 => ?_)
    · have hb19P := hb19
      try simp only [kd_box, kd_glue, kd_pen, kd_hyp, kd_forced, kd_note, kd_label, kd_page, decide_eq_true_eq, decide_eq_false_iff_not, Bool.not_eq_true', Bool.not_eq_false', Bool.and_eq_true, Bool.or_eq_true, Bool.or_eq_false_iff] at hb19P
      have hF22 : m_law script_ = false := (by subst hactual_18; subst hpassed_16; subst hitems_14; subst hdraws_4; subst hcount_2; first | (simp only [m_law, hb19, if_true, if_false, Bool.false_eq_true, decide_true, decide_false, Option.getD_some, Option.isNone_none, Option.isNone_some, Bool.not_true, Bool.not_false, ↓reduceIte]; done) | (rfl; done) | ((unfold m_law); (dsimp only); (first | rw [ifT hb19] | rw [ifF hb19] | skip); (try dsimp only); first | done | rfl) | (exfalso; simp at hb19; done))
      exact zq_ret s20 (hv_bl false) fun v H' e d => q v H' e (by rw [hF22]; exact d)
    · have hb19P := hb19
      try simp only [kd_box, kd_glue, kd_pen, kd_hyp, kd_forced, kd_note, kd_label, kd_page, decide_eq_true_eq, decide_eq_false_iff_not, Bool.not_eq_true', Bool.not_eq_false', Bool.and_eq_true, Bool.or_eq_true, Bool.or_eq_false_iff] at hb19P
      refine z_unp2 s21 (hv_var (x := actual_18) rfl s21.im.1) fun least_24 widest_25 hp26 vleast_24 vwidest_25 Hs23 s23 => ?_
      try dsimp only at hp26
      cases (Dt.int s23.im.1)
      cases (Dt.int s23.im.2.1)
      refine z_ifx (b := ((!(m_law_is_integer least_24)) || (!(m_law_is_integer widest_25)))) s23 (ht_or (ht_not (ht_B (K := K) (hv_call least_24 (hd_cons (hv_vI rfl) hd_nil) True.intro))) (fun hb0 => (ht_not (ht_B (K := K) (hv_call widest_25 (hd_cons (hv_vI rfl) hd_nil) True.intro))))) (fun hb27 Hs28 s28 => ?_) (fun hb27 Hs29 s29 => ?_)
      · have hb27P := hb27
        try simp only [kd_box, kd_glue, kd_pen, kd_hyp, kd_forced, kd_note, kd_label, kd_page, decide_eq_true_eq, decide_eq_false_iff_not, Bool.not_eq_true', Bool.not_eq_false', Bool.and_eq_true, Bool.or_eq_true, Bool.or_eq_false_iff] at hb27P
        have hF30 : m_law script_ = false := (by subst hactual_18; subst hpassed_16; subst hitems_14; subst hdraws_4; subst hcount_2; first | (simp only [m_law, hb19, ← hp26, hb27, if_true, if_false, Bool.false_eq_true, decide_true, decide_false, Option.getD_some, Option.isNone_none, Option.isNone_some, Bool.not_true, Bool.not_false, ↓reduceIte]; done) | (rfl; done) | ((unfold m_law); (dsimp only); (first | rw [ifT hb19] | rw [ifF hb19] | skip); (try dsimp only); (first | rw [← hp26] | skip); (try dsimp only); (first | rw [ifT hb27] | rw [ifF hb27] | skip); (try dsimp only); first | done | rfl) | (exfalso; simp at hb27; done) | (exfalso; simp at hb19; done))
        exact zq_ret s28 (hv_bl false) fun v H' e d => q v H' e (by rw [hF30]; exact d)
      · have hb27P := hb27
        try simp only [kd_box, kd_glue, kd_pen, kd_hyp, kd_forced, kd_note, kd_label, kd_page, decide_eq_true_eq, decide_eq_false_iff_not, Bool.not_eq_true', Bool.not_eq_false', Bool.and_eq_true, Bool.or_eq_true, Bool.or_eq_false_iff] at hb27P
        refine z_ifx (b := (decide (count_2 = (0 : Int)))) s29 (ht_val (K := K) (hv_eqI (hv_vI rfl) (hv_int 0))) (fun hb31 Hs32 s32 => ?_) (fun hb31 Hs33 s33 => ?_)
        · have hb31P := hb31
          try simp only [kd_box, kd_glue, kd_pen, kd_hyp, kd_forced, kd_note, kd_label, kd_page, decide_eq_true_eq, decide_eq_false_iff_not, Bool.not_eq_true', Bool.not_eq_false', Bool.and_eq_true, Bool.or_eq_true, Bool.or_eq_false_iff] at hb31P
          have hF34 : m_law script_ = (decide (actual_18 = ((0 : Int), (0 : Int)))) := (by subst hactual_18; subst hpassed_16; subst hitems_14; subst hdraws_4; subst hcount_2; first | (simp only [m_law, hb19, ← hp26, hb27, hb31, if_true, if_false, Bool.false_eq_true, decide_true, decide_false, Option.getD_some, Option.isNone_none, Option.isNone_some, Bool.not_true, Bool.not_false, ↓reduceIte]; done) | (rfl; done) | ((unfold m_law); (dsimp only); (first | rw [ifT hb19] | rw [ifF hb19] | skip); (try dsimp only); (first | rw [← hp26] | skip); (try dsimp only); (first | rw [ifT hb27] | rw [ifF hb27] | skip); (try dsimp only); (first | rw [ifT hb31] | rw [ifF hb31] | skip); (try dsimp only); first | done | rfl) | (exfalso; simp at hb31; done) | (exfalso; simp at hb27; done) | (exfalso; simp at hb19; done))
          exact zq_ret s32 (hv_eqT (hv_whole s32 (hv_var (x := actual_18) rfl s32.im.2.2.1)) (hv_whole s32 (hv_tup2 (hv_int 0) (hv_int 0)))) fun v H' e d => q v H' e (by rw [hF34]; exact d)
        · have hb31P := hb31
          try simp only [kd_box, kd_glue, kd_pen, kd_hyp, kd_forced, kd_note, kd_label, kd_page, decide_eq_true_eq, decide_eq_false_iff_not, Bool.not_eq_true', Bool.not_eq_false', Bool.and_eq_true, Bool.or_eq_true, Bool.or_eq_false_iff] at hb31P
          refine z_asgIG s33 (hv_int 0) fun expected_36 hexpected_36 Hs35 s35 => ?_
          try dsimp only at hexpected_36
          refine z_asgIG s35 (hv_int 0) fun start_38 hstart_38 Hs37 s37 => ?_
          try dsimp only at hstart_38
          refine zq_forR2G s37 (hv_int 1) (hv_add (hv_vI rfl) (hv_int 1)) (by first | omega | decide +kernel | (simp only [List.length_cons, List.length_nil]; omega) | (have h9 := hb0; simp only [kd_box, kd_glue, kd_pen, kd_hyp, kd_forced, kd_note, kd_label, kd_page, Bool.or_eq_true, Bool.and_eq_true, decide_eq_true_eq, Bool.not_eq_true', Bool.not_eq_false', Bool.or_eq_false_iff, decide_eq_false_iff_not] at h9; omega) | (have h9 := hb1; simp only [kd_box, kd_glue, kd_pen, kd_hyp, kd_forced, kd_note, kd_label, kd_page, Bool.or_eq_true, Bool.and_eq_true, decide_eq_true_eq, Bool.not_eq_true', Bool.not_eq_false', Bool.or_eq_false_iff, decide_eq_false_iff_not] at h9; omega) | (have h9 := hb2; simp only [kd_box, kd_glue, kd_pen, kd_hyp, kd_forced, kd_note, kd_label, kd_page, Bool.or_eq_true, Bool.and_eq_true, decide_eq_true_eq, Bool.not_eq_true', Bool.not_eq_false', Bool.or_eq_false_iff, decide_eq_false_iff_not] at h9; omega) | (have h9 := hi1; simp only [kd_box, kd_glue, kd_pen, kd_hyp, kd_forced, kd_note, kd_label, kd_page, Bool.or_eq_true, Bool.and_eq_true, decide_eq_true_eq, Bool.not_eq_true', Bool.not_eq_false', Bool.or_eq_false_iff, decide_eq_false_iff_not] at h9; omega) | (have h9 := hi2; simp only [kd_box, kd_glue, kd_pen, kd_hyp, kd_forced, kd_note, kd_label, kd_page, Bool.or_eq_true, Bool.and_eq_true, decide_eq_true_eq, Bool.not_eq_true', Bool.not_eq_false', Bool.or_eq_false_iff, decide_eq_false_iff_not] at h9; omega)) (fun i σ' H' => ∃ (expected_39 : Int) (start_40 : Int) (o41 : Option V) (o42 : Option V), (loopN (m_law_l0 count_2 items_14) (Int.toNat ((count_2 + (1 : Int)) - (1 : Int))) (1 : Int) (expected_36, start_38) : Int × Int) = (loopN (m_law_l0 count_2 items_14) ((Int.toNat ((count_2 + (1 : Int)) - (1 : Int))) - i) ((1 : Int) + (i : Int)) (expected_39, start_40) : Int × Int) ∧ (0 ≤ start_40 ∧ start_40 ≤ ((i) : Int)) ∧ σ' = [some v0, some (V.int count_2), some vdraws_4, o41, some vitems_14, some vpassed_16, some vactual_18, some (V.int least_24), some (V.int widest_25), some (V.int expected_39), some (V.int start_40), o42] ∧ Sg K Mc H H' [(vactual_18, Dx.toX actual_18), (vpassed_16, Dx.toX passed_16), (vitems_14, Dx.toX items_14), (vdraws_4, Dx.toX draws_4), (v0, Dx.toX script_)] []) (fun Hs43 s43 => ⟨expected_36, start_38, _, _, (by simp), (by first | trivial | omega | (simp; done) | simp_all), rfl, s43.keep fun _ h => ⟨h.2.2.1, ⟨h.2.2.2.1, ⟨h.2.2.2.2.1, ⟨h.2.2.2.2.2.1, ⟨h.2.2.2.2.2.2.1, True.intro⟩⟩⟩⟩⟩⟩) (fun i47 x48 σ' Hs46 hx49 hi50 hP => ?_) (fun σ' Hs46 hP => ?_)
          · obtain ⟨expected_39, start_40, o41, o42, he44, hg45, rfl, s46⟩ := hP
            have hg45q0 := hg45.1
            have hg45q1 := hg45.2
            refine z_ifx (b := ((decide (x48 = count_2)) || (decide ((Itm.kind (items_14.getD (Int.toNat (x48 - (1 : Int))) Itm.forced)) = (PySem.Str.ofString "forced"))))) s46 (ht_or (ht_val (K := K) (hv_eqI (hv_vI rfl) (hv_vI rfl))) (fun hb0 => (ht_val (K := K) (hv_eqS (hv_it0 (hv_at Itm.forced (hs_of (hv_var (x := items_14) rfl s46.im.2.2.1)) (hv_sub (hv_vI rfl) (hv_int 1)) (by first | omega | decide +kernel | (simp only [List.length_cons, List.length_nil]; omega) | (have h9 := hb0; simp only [kd_box, kd_glue, kd_pen, kd_hyp, kd_forced, kd_note, kd_label, kd_page, Bool.or_eq_true, Bool.and_eq_true, decide_eq_true_eq, Bool.not_eq_true', Bool.not_eq_false', Bool.or_eq_false_iff, decide_eq_false_iff_not] at h9; omega) | (have h9 := hb1; simp only [kd_box, kd_glue, kd_pen, kd_hyp, kd_forced, kd_note, kd_label, kd_page, Bool.or_eq_true, Bool.and_eq_true, decide_eq_true_eq, Bool.not_eq_true', Bool.not_eq_false', Bool.or_eq_false_iff, decide_eq_false_iff_not] at h9; omega) | (have h9 := hb2; simp only [kd_box, kd_glue, kd_pen, kd_hyp, kd_forced, kd_note, kd_label, kd_page, Bool.or_eq_true, Bool.and_eq_true, decide_eq_true_eq, Bool.not_eq_true', Bool.not_eq_false', Bool.or_eq_false_iff, decide_eq_false_iff_not] at h9; omega) | (have h9 := hi1; simp only [kd_box, kd_glue, kd_pen, kd_hyp, kd_forced, kd_note, kd_label, kd_page, Bool.or_eq_true, Bool.and_eq_true, decide_eq_true_eq, Bool.not_eq_true', Bool.not_eq_false', Bool.or_eq_false_iff, decide_eq_false_iff_not] at h9; omega) | (have h9 := hi2; simp only [kd_box, kd_glue, kd_pen, kd_hyp, kd_forced, kd_note, kd_label, kd_page, Bool.or_eq_true, Bool.and_eq_true, decide_eq_true_eq, Bool.not_eq_true', Bool.not_eq_false', Bool.or_eq_false_iff, decide_eq_false_iff_not] at h9; omega)) (by first | omega | decide +kernel | (simp only [List.length_cons, List.length_nil]; omega) | (have h9 := hb0; simp only [kd_box, kd_glue, kd_pen, kd_hyp, kd_forced, kd_note, kd_label, kd_page, Bool.or_eq_true, Bool.and_eq_true, decide_eq_true_eq, Bool.not_eq_true', Bool.not_eq_false', Bool.or_eq_false_iff, decide_eq_false_iff_not] at h9; omega) | (have h9 := hb1; simp only [kd_box, kd_glue, kd_pen, kd_hyp, kd_forced, kd_note, kd_label, kd_page, Bool.or_eq_true, Bool.and_eq_true, decide_eq_true_eq, Bool.not_eq_true', Bool.not_eq_false', Bool.or_eq_false_iff, decide_eq_false_iff_not] at h9; omega) | (have h9 := hb2; simp only [kd_box, kd_glue, kd_pen, kd_hyp, kd_forced, kd_note, kd_label, kd_page, Bool.or_eq_true, Bool.and_eq_true, decide_eq_true_eq, Bool.not_eq_true', Bool.not_eq_false', Bool.or_eq_false_iff, decide_eq_false_iff_not] at h9; omega) | (have h9 := hi1; simp only [kd_box, kd_glue, kd_pen, kd_hyp, kd_forced, kd_note, kd_label, kd_page, Bool.or_eq_true, Bool.and_eq_true, decide_eq_true_eq, Bool.not_eq_true', Bool.not_eq_false', Bool.or_eq_false_iff, decide_eq_false_iff_not] at h9; omega) | (have h9 := hi2; simp only [kd_box, kd_glue, kd_pen, kd_hyp, kd_forced, kd_note, kd_label, kd_page, Bool.or_eq_true, Bool.and_eq_true, decide_eq_true_eq, Bool.not_eq_true', Bool.not_eq_false', Bool.or_eq_false_iff, decide_eq_false_iff_not] at h9; omega)))) (hv_str _))))) (fun hb52 Hs53 s53 => ?_) (fun hb52 Hs54 s54 => ?_)
            · have hb52P := hb52
              try simp only [kd_box, kd_glue, kd_pen, kd_hyp, kd_forced, kd_note, kd_label, kd_page, decide_eq_true_eq, decide_eq_false_iff_not, Bool.not_eq_true', Bool.not_eq_false', Bool.and_eq_true, Bool.or_eq_true, Bool.or_eq_false_iff] at hb52P
              refine z_asgIG s53 (hv_max2 (hv_vI rfl) (hv_at 0 (hs_of (hv_call (items_14, start_40, x48) (hd_cons (hv_var (x := items_14) rfl s53.im.2.2.1) (hd_cons (hv_vI rfl) (hd_cons (hv_vI rfl) hd_nil))) (by (try dsimp only); exact ⟨by omega, by omega, by omega, by omega⟩))) (hv_int 0) (by first | omega | (dsimp only; rw [sums_len]; decide)) (by first | omega | (dsimp only; rw [sums_len]; decide)))) fun expected_56 hexpected_56 Hs55 s55 => ?_
              try dsimp only at hexpected_56
              refine z_asgIG s55 (hv_vI rfl) fun start_58 hstart_58 Hs57 s57 => ?_
              try dsimp only at hstart_58
              have hf59 : (m_law_l0 count_2 items_14) (expected_39, start_40) x48 = (expected_56, start_58) := (by subst hstart_58; subst hexpected_56; subst hstart_38; subst hexpected_36; subst hactual_18; subst hpassed_16; subst hitems_14; subst hdraws_4; subst hcount_2; first | (simp only [m_law_l0, hb19, ← hp26, hb27, hb31, hb52, if_true, if_false, Bool.false_eq_true, decide_true, decide_false, Option.getD_some, Option.isNone_none, Option.isNone_some, Bool.not_true, Bool.not_false, ↓reduceIte]; done) | (rfl; done) | ((unfold m_law_l0); (dsimp only); (first | rw [ifT hb19] | rw [ifF hb19] | skip); (try dsimp only); (first | rw [← hp26] | skip); (try dsimp only); (first | rw [ifT hb27] | rw [ifF hb27] | skip); (try dsimp only); (first | rw [ifT hb31] | rw [ifF hb31] | skip); (try dsimp only); (first | rw [ifT hb52] | rw [ifF hb52] | skip); (try dsimp only); first | done | rfl) | (exfalso; simp at hb52; done) | (exfalso; simp at hb31; done) | (exfalso; simp at hb27; done) | (exfalso; simp at hb19; done))
              exact ⟨expected_56, start_58, _, _, he44.trans ((loopN_step hi50).trans (by rw [← hx49, hf59])), (by first | trivial | omega | (simp_all; done) | (simp_all; omega)), rfl, s57.keep fun _ h => ⟨h.1, ⟨h.2.1, ⟨h.2.2.1, ⟨h.2.2.2.1, ⟨h.2.2.2.2.1, True.intro⟩⟩⟩⟩⟩⟩
            · have hb52P := hb52
              try simp only [kd_box, kd_glue, kd_pen, kd_hyp, kd_forced, kd_note, kd_label, kd_page, decide_eq_true_eq, decide_eq_false_iff_not, Bool.not_eq_true', Bool.not_eq_false', Bool.and_eq_true, Bool.or_eq_true, Bool.or_eq_false_iff] at hb52P
              have hf60 : (m_law_l0 count_2 items_14) (expected_39, start_40) x48 = (expected_39, start_40) := (by subst hstart_38; subst hexpected_36; subst hactual_18; subst hpassed_16; subst hitems_14; subst hdraws_4; subst hcount_2; first | (simp only [m_law_l0, hb19, ← hp26, hb27, hb31, hb52, if_true, if_false, Bool.false_eq_true, decide_true, decide_false, Option.getD_some, Option.isNone_none, Option.isNone_some, Bool.not_true, Bool.not_false, ↓reduceIte]; done) | (rfl; done) | ((unfold m_law_l0); (dsimp only); (first | rw [ifT hb19] | rw [ifF hb19] | skip); (try dsimp only); (first | rw [← hp26] | skip); (try dsimp only); (first | rw [ifT hb27] | rw [ifF hb27] | skip); (try dsimp only); (first | rw [ifT hb31] | rw [ifF hb31] | skip); (try dsimp only); (first | rw [ifT hb52] | rw [ifF hb52] | skip); (try dsimp only); first | done | rfl) | (exfalso; simp at hb52; done) | (exfalso; simp at hb31; done) | (exfalso; simp at hb27; done) | (exfalso; simp at hb19; done))
              exact ⟨expected_39, start_40, _, _, he44.trans ((loopN_step hi50).trans (by rw [← hx49, hf60])), (by first | trivial | omega | (simp_all; done) | (simp_all; omega)), rfl, s54.keep fun _ h => ⟨h.1, ⟨h.2.1, ⟨h.2.2.1, ⟨h.2.2.2.1, ⟨h.2.2.2.2.1, True.intro⟩⟩⟩⟩⟩⟩
          · obtain ⟨expected_61, start_62, o63, o64, he66, hg67, rfl, s65⟩ := hP
            have hg67q0 := hg67.1
            have hg67q1 := hg67.2
            rw [loopN_end] at he66
            refine z_ifx (b := ((!decide (widest_25 = expected_61)) || ((decide (least_24 < (0 : Int))) || (!(m_law_can_be_set items_14 least_24))))) s65 (ht_or (ht_val (K := K) (hv_neI (hv_vI rfl) (hv_vI rfl))) (fun hb0 => (ht_or (ht_val (K := K) (hv_lt (hv_vI rfl) (hv_int 0))) (fun hb1 => (ht_not (ht_B (K := K) (hv_call (items_14, least_24) (hd_cons (hv_var (x := items_14) rfl s65.im.2.2.1) (hd_cons (hv_vI rfl) hd_nil)) (by first | omega | (dsimp only; omega) | (subst_vars; omega) | decide +kernel)))))))) (fun hb68 Hs69 s69 => ?_) (fun hb68 Hs70 s70 => ?_)
            · have hb68P := hb68
              try simp only [kd_box, kd_glue, kd_pen, kd_hyp, kd_forced, kd_note, kd_label, kd_page, decide_eq_true_eq, decide_eq_false_iff_not, Bool.not_eq_true', Bool.not_eq_false', Bool.and_eq_true, Bool.or_eq_true, Bool.or_eq_false_iff] at hb68P
              have hF71 : m_law script_ = false := (by subst hstart_38; subst hexpected_36; subst hactual_18; subst hpassed_16; subst hitems_14; subst hdraws_4; subst hcount_2; first | (simp only [m_law, hb19, ← hp26, hb27, hb31, he66, hb68, if_true, if_false, Bool.false_eq_true, decide_true, decide_false, Option.getD_some, Option.isNone_none, Option.isNone_some, Bool.not_true, Bool.not_false, ↓reduceIte]; done) | (rfl; done) | ((unfold m_law); (dsimp only); (first | rw [ifT hb19] | rw [ifF hb19] | skip); (try dsimp only); (first | rw [← hp26] | skip); (try dsimp only); (first | rw [ifT hb27] | rw [ifF hb27] | skip); (try dsimp only); (first | rw [ifT hb31] | rw [ifF hb31] | skip); (try dsimp only); (first | rw [he66] | skip); (try dsimp only); (first | rw [ifT hb68] | rw [ifF hb68] | skip); (try dsimp only); first | done | rfl) | (exfalso; simp at hb68; done) | (exfalso; simp at hb31; done) | (exfalso; simp at hb27; done) | (exfalso; simp at hb19; done))
              exact zq_ret s69 (hv_bl false) fun v H' e d => q v H' e (by rw [hF71]; exact d)
            · have hb68P := hb68
              try simp only [kd_box, kd_glue, kd_pen, kd_hyp, kd_forced, kd_note, kd_label, kd_page, decide_eq_true_eq, decide_eq_false_iff_not, Bool.not_eq_true', Bool.not_eq_false', Bool.and_eq_true, Bool.or_eq_true, Bool.or_eq_false_iff] at hb68P
              have hF72 : m_law script_ = ((decide (least_24 = (0 : Int))) || (!(m_law_can_be_set items_14 (least_24 - (1 : Int))))) := (by subst hstart_38; subst hexpected_36; subst hactual_18; subst hpassed_16; subst hitems_14; subst hdraws_4; subst hcount_2; first | (simp only [m_law, hb19, ← hp26, hb27, hb31, he66, hb68, if_true, if_false, Bool.false_eq_true, decide_true, decide_false, Option.getD_some, Option.isNone_none, Option.isNone_some, Bool.not_true, Bool.not_false, ↓reduceIte]; done) | (rfl; done) | ((unfold m_law); (dsimp only); (first | rw [ifT hb19] | rw [ifF hb19] | skip); (try dsimp only); (first | rw [← hp26] | skip); (try dsimp only); (first | rw [ifT hb27] | rw [ifF hb27] | skip); (try dsimp only); (first | rw [ifT hb31] | rw [ifF hb31] | skip); (try dsimp only); (first | rw [he66] | skip); (try dsimp only); (first | rw [ifT hb68] | rw [ifF hb68] | skip); (try dsimp only); first | done | rfl) | (exfalso; simp at hb68; done) | (exfalso; simp at hb31; done) | (exfalso; simp at hb27; done) | (exfalso; simp at hb19; done))
              exact zq_ret s70 (hv_or (hv_eqI (hv_vI rfl) (hv_int 0)) (fun hb0 => (hv_not (hv_call (items_14, (least_24 - (1 : Int))) (hd_cons (hv_var (x := items_14) rfl s70.im.2.2.1) (hd_cons (hv_sub (hv_vI rfl) (hv_int 1)) hd_nil)) (by first | omega | (dsimp only; omega) | (subst_vars; omega) | decide +kernel))))) fun v H' e d => q v H' e (by rw [hF72]; exact d)
end
/-- MATH -/
theorem brk_val {its : List Itm} {m : Int} (R : List Int) {e : Nat} (he : 1 ≤ e) : ∀ (r i : Nat), i + r = e → (∀ k, e ≤ k + i → k + 2 ≤ e → decide ((Itm.kind (its.getD k Itm.forced)) = (PySem.Str.ofString "forced")) = false) →
    (∀ s : Nat, e ≤ s + i → s < e → ¬ ((s : Int) ∈ R ∧ (m_law_sums its (s : Int) (e : Int)).getD (Int.toNat 0) 0 ≤ m)) →
    ∃ b : Bool, loopB (fun (s_ : List Int) (i_ : Int) => (m_law_can_be_set_l1 (e : Int) its m) s_ (((e : Int) - (1 : Int)) - i_)) r (i : Int) R = (if b = true then R ++ [(e : Int)] else R) ∧
      (b = true ↔ ∃ s : Nat, s < e ∧ nofo its s e ∧ (s : Int) ∈ R ∧ (m_law_sums its (s : Int) (e : Int)).getD (Int.toNat 0) 0 ≤ m)
  | 0, i, h, hk, hs => ⟨false, rfl, by
      constructor
      · intro z; cases z
      · rintro ⟨s, h1, _, h3⟩
        exact absurd h3 (hs s (by omega) h1)⟩
  | r + 1, i, h, hk, hs => by
    obtain ⟨x, hx⟩ : ∃ x : Nat, x + 1 + i = e := ⟨e - 1 - i, by omega⟩
    have ex : ((e : Int) - 1) - (i : Int) = (x : Int) := by omega
    have step : ∀ {u : Lp Unit (List Int)}, m_law_can_be_set_l1 (e : Int) its m R (x : Int) = u → loopB (fun (s_ : List Int) (i_ : Int) => (m_law_can_be_set_l1 (e : Int) its m) s_ (((e : Int) - (1 : Int)) - i_)) (r + 1) (i : Int) R =
        (match u with | .ret _ => R | .brk s' => s' | .nxt s' => loopB (fun (s_ : List Int) (i_ : Int) => (m_law_can_be_set_l1 (e : Int) its m) s_ (((e : Int) - (1 : Int)) - i_)) r ((i : Int) + 1) s') := fun {u} hu => by
      rw [loopB]
      simp only [ex, hu]
      cases u <;> rfl
    by_cases q1 : x + 1 < e ∧ decide ((Itm.kind (its.getD x Itm.forced)) = (PySem.Str.ofString "forced")) = true
    · refine ⟨false, ?_, ?_⟩
      · rw [step (u := .brk R) (by
          unfold m_law_can_be_set_l1
          dsimp only
          rw [Int.toNat_natCast, q1.2, decide_eq_true (show (x : Int) < (e : Int) - 1 by omega)]
          rfl)]
        rfl
      · constructor
        · intro z; cases z
        · rintro ⟨s, h1, h2, h3⟩
          rcases Nat.lt_or_ge x s with z | z
          · exact absurd h3 (hs s (by omega) h1)
          · have := h2 x z (by omega)
            rw [q1.2] at this
            cases this
    · have nf : x + 2 ≤ e → decide ((Itm.kind (its.getD x Itm.forced)) = (PySem.Str.ofString "forced")) = false := fun z => by
        cases y : decide ((Itm.kind (its.getD x Itm.forced)) = (PySem.Str.ofString "forced")) with
        | false => rfl
        | true => exact absurd ⟨by omega, y⟩ q1
      have c1 : (decide ((x : Int) < (e : Int) - 1) && decide ((Itm.kind (its.getD x Itm.forced)) = (PySem.Str.ofString "forced"))) = false := by
        by_cases z : x + 2 ≤ e
        · rw [nf z, Bool.and_false]
        · rw [decide_eq_false (show ¬ (x : Int) < (e : Int) - 1 by omega), Bool.false_and]
      have hk' : ∀ k, e ≤ k + (i + 1) → k + 2 ≤ e → decide ((Itm.kind (its.getD k Itm.forced)) = (PySem.Str.ofString "forced")) = false := fun k k1 k2 => by
        rcases Nat.lt_or_ge (k + i) e with z | z
        · have : k = x := by omega
          subst this
          exact nf k2
        · exact hk k z k2
      by_cases q2 : (x : Int) ∈ R ∧ (m_law_sums its (x : Int) (e : Int)).getD (Int.toNat 0) 0 ≤ m
      · refine ⟨true, ?_, ⟨fun _ => ⟨x, by omega, fun k k1 k2 => hk' k (by omega) k2, q2⟩, fun _ => rfl⟩⟩
        rw [step (u := .brk (R ++ [(e : Int)])) (by
          unfold m_law_can_be_set_l1
          dsimp only
          rw [Int.toNat_natCast, c1, if_neg Bool.false_ne_true, decide_eq_true q2.1, decide_eq_true q2.2]
          rfl)]
        rfl
      · obtain ⟨b, b1, b2⟩ := brk_val (its := its) (m := m) R he r (i + 1) (by omega) hk' (fun s s1 s2 => by
          rcases Nat.lt_or_ge (s + i) e with z | z
          · have : s = x := by omega
            subst this
            exact q2
          · exact hs s z s2)
        refine ⟨b, ?_, b2⟩
        rw [step (u := .nxt R) (by
          unfold m_law_can_be_set_l1
          dsimp only
          rw [Int.toNat_natCast, c1, if_neg Bool.false_ne_true]
          rw [if_neg (by
            intro z
            rw [Bool.and_eq_true, decide_eq_true_eq, decide_eq_true_eq] at z
            exact q2 z)])]
        exact b1
theorem width_sums {its : List Itm} {s e : Nat} (h1 : s < e) (h2 : e ≤ its.length) : (m_Measures_measure (m_Measures___init__ its) (s : Int) (e : Int)).a = (m_law_sums its (s : Int) (e : Int)).getD (Int.toNat 0) 0 := by
  rw [measure_sums its (by omega) (by omega) (by omega)]
theorem can_run (its : List Itm) (m : Int) : ∀ e : Nat, e ≤ its.length → ∀ x : Nat, x ≤ its.length → ((x : Int) ∈ loopN (m_law_can_be_set_l0 its m) e (1 : Int) [(0 : Int)] ↔ x ≤ e ∧ Rch its m x) := by
  intro e he
  have key := loopN_ind (f := m_law_can_be_set_l0 its m) (fun i R => ∀ x : Nat, x ≤ its.length → ((x : Int) ∈ R ↔ x ≤ i ∧ Rch its m x)) (1 : Int) e [(0 : Int)] (fun x hx => by
    rw [List.mem_singleton]
    constructor
    · intro z
      have : x = 0 := by omega
      subst this
      exact ⟨Nat.le_refl _, .zero⟩
    · rintro ⟨z, _⟩
      omega) (fun i R hi p => by
    have e1 : (1 : Int) + (i : Int) = ((i + 1 : Nat) : Int) := by omega
    intro x hx
    unfold m_law_can_be_set_l0
    dsimp only
    rw [e1]
    have hle : m_is_line_end its ((i + 1 : Nat) : Int) = m_law_may_end its ((i + 1 : Nat) : Int) := end_same (by omega) (by omega)
    have old : ∀ x : Nat, x ≤ its.length → x ≠ i + 1 → ((x : Int) ∈ R ↔ x ≤ i + 1 ∧ Rch its m x) := fun x hx hn => by
      rw [p x hx]
      exact ⟨fun h => ⟨by omega, h.2⟩, fun h => ⟨by omega, h.2⟩⟩
    have notR : ((i + 1 : Nat) : Int) ∉ R := fun z => by
      have := (p (i + 1) (by omega)).mp z
      omega
    cases q : m_law_may_end its ((i + 1 : Nat) : Int) with
    | false =>
      rw [if_pos (show (!false) = true from rfl)]
      by_cases hn : x = i + 1
      · subst hn
        refine ⟨fun z => absurd z notR, fun z => ?_⟩
        obtain ⟨s, _, _, h3, h4, _⟩ := rch_inv z.2 (by omega)
        have := ((eb_mem h3).mp h4).2.2.1
        rw [hle, q] at this
        cases this
      · exact old x hx hn
    | true =>
      rw [if_neg (by simp)]
      obtain ⟨b, b1, b2⟩ := brk_val (its := its) (m := m) R (e := i + 1) (by omega) (i + 1) 0 (by omega) (fun k h1 h2 => by omega) (fun s h1 h2 => by omega)
      have hc : Int.toNat ((((i + 1 : Nat) : Int) - 1) - (-1 : Int)) = i + 1 := by omega
      rw [hc]
      rw [show ((0 : Nat) : Int) = (0 : Int) from rfl] at b1
      rw [b1]
      have hb : b = true ↔ Rch its m (i + 1) := by
        rw [b2]
        constructor
        · rintro ⟨s, s1, s2, s3, s4⟩
          have h3 := (p s (by omega)).mp s3
          exact .step h3.2 (by omega) ((eb_mem (by omega)).mpr ⟨s1, by omega, hle.trans q, s2⟩) (by rw [width_sums s1 (by omega)]; exact s4)
        · intro h
          obtain ⟨s, h1, h2, h3, h4, h5⟩ := rch_inv h (by omega)
          exact ⟨s, h1, ((eb_mem h3).mp h4).2.2.2, (p s (by omega)).mpr ⟨by omega, h2⟩, by rw [← width_sums h1 (by omega)]; exact h5⟩
      by_cases hn : x = i + 1
      · subst hn
        cases b with
        | true =>
          rw [if_pos rfl]
          exact ⟨fun _ => ⟨Nat.le_refl _, hb.mp rfl⟩, fun _ => List.mem_append_right _ List.mem_cons_self⟩
        | false =>
          rw [if_neg Bool.false_ne_true]
          refine ⟨fun z => absurd z notR, fun z => ?_⟩
          have := hb.mpr z.2
          cases this
      · rw [← old x hx hn]
        cases b with
        | true =>
          rw [if_pos rfl, List.mem_append, List.mem_singleton]
          exact ⟨fun z => z.elim id fun y => absurd (by omega) hn, .inl⟩
        | false => rw [if_neg Bool.false_ne_true])
  exact key
theorem can_at (its : List Itm) (m : Int) : m_law_can_be_set its m = true ↔ Rch its m its.length := by
  unfold m_law_can_be_set
  dsimp only
  have h := can_run its m its.length (Nat.le_refl _) its.length (Nat.le_refl _)
  rw [show Int.toNat (((its.length : Int) + 1) - 1) = its.length by omega]
  have h2 : ((its.length : Int) ∈ loopN (m_law_can_be_set_l0 its m) its.length (1 : Int) [(0 : Int)]) ↔ Rch its m its.length := h.trans ⟨fun z => z.2, fun z => ⟨Nat.le_refl _, z⟩⟩
  rw [decide_eq_true_eq]
  exact h2
def NN (L : List (Option Int)) : Prop := ∀ x ∈ L, 0 ≤ x.getD 0
theorem nn_get {L : List (Option Int)} (h : NN L) (k : Nat) : 0 ≤ (L.getD k none).getD 0 := getD_P (P := fun x : Option Int => 0 ≤ x.getD 0) h (show (0 : Int) ≤ Option.getD (none : Option Int) 0 from Int.le_refl 0) k
theorem nn_l2 (s : Int) (o : Cl_Measures) (e : Int) {L : List (Option Int)} (h : NN L) : NN (m_least_width_l2 s o L e) := by
  unfold m_least_width_l2
  dsimp only
  split
  · intro x hx
    rcases List.mem_or_eq_of_mem_set hx with hx | rfl
    · exact h x hx
    · have := nn_get h s.toNat
      rw [Option.getD_some]
      omega
  · exact h
theorem nn_fold (s : Int) (o : Cl_Measures) : ∀ (E : List Int) {L : List (Option Int)}, NN L → NN (E.foldl (m_least_width_l2 s o) L)
  | [], _, h => h
  | e :: E, _, h => nn_fold s o E (nn_l2 s o e h)
theorem least_nn (o : Cl_Measures) : 0 ≤ (m_least_width o).getD 0 := by
  unfold m_least_width
  dsimp only
  refine nn_get ?_ _
  have k0 : NN (loopN m_least_width_l0 (Int.toNat o.f_count) 0 [some 0]) := loopN_ind (fun _ L => NN L) 0 _ _ (fun x hx => by
    rw [List.mem_singleton.mp hx]
    decide) (fun i L _ h x hx => by
    have hx' : x ∈ L ++ [none] := hx
    rcases List.mem_append.mp hx' with z | z
    · exact h x z
    · rw [List.mem_singleton.mp z]
      decide)
  exact loopN_ind (fun _ L => NN L) 0 _ _ k0 (fun i L _ h => by
    unfold m_least_width_l1
    dsimp only
    split
    · exact h
    · exact nn_fold _ _ _ h)
theorem wide_same (its : List Itm) : ∀ (r i : Nat) (st : Int × Int), 0 ≤ st.2 → st.2 ≤ (i : Int) → i + r = its.length →
    loopN (m_widest_width_l0 (m_Measures___init__ its)) r (1 + (i : Int)) st = loopN (m_law_l0 (its.length : Int) its) r (1 + (i : Int)) st
  | 0, _, _, _, _, _ => rfl
  | r + 1, i, st, h0, h1, h2 => by
    obtain ⟨w, s⟩ := st
    dsimp only at h0 h1
    have hm : (m_Measures_measure (m_Measures___init__ its) s (1 + (i : Int))).a = (m_law_sums its s (1 + (i : Int))).getD (Int.toNat 0) 0 := by
      rw [measure_sums its h0 (by omega) (by omega)]
    have hl : m_Measures_is_loose (m_Measures___init__ its) (1 + (i : Int)) = (decide (1 + (i : Int) = (its.length : Int)) || decide ((Itm.kind (its.getD (Int.toNat (1 + (i : Int) - 1)) Itm.forced)) = (PySem.Str.ofString "forced"))) := rfl
    have e : m_widest_width_l0 (m_Measures___init__ its) (w, s) (1 + (i : Int)) = m_law_l0 (its.length : Int) its (w, s) (1 + (i : Int)) := by
      unfold m_widest_width_l0 m_law_l0
      dsimp only
      rw [hl, hm]
    have b : 0 ≤ (m_law_l0 (its.length : Int) its (w, s) (1 + (i : Int))).2 ∧ (m_law_l0 (its.length : Int) its (w, s) (1 + (i : Int))).2 ≤ ((i + 1 : Nat) : Int) := by
      unfold m_law_l0
      dsimp only
      split
      · dsimp only; omega
      · dsimp only; omega
    have e2 : (1 : Int) + (i : Int) + 1 = 1 + ((i + 1 : Nat) : Int) := by omega
    rw [loopN, loopN, e, e2]
    exact wide_same its r (i + 1) _ b.1 b.2 (by omega)
theorem law_true (ns : List Int) (_ : ns.length ≤ 63) : m_law ns = true := by
  unfold m_law
  dsimp only
  have hn : 0 ≤ (m_law_cell ns 0) % 13 ∧ (m_law_cell ns 0) % 13 ≤ 12 := by omega
  generalize (m_law_cell ns 0) % 13 = n at hn
  generalize (decide (((m_law_cell ns (1 : Int)) % (2 : Int)) = (0 : Int))) = small
  generalize (List.map (fun (c_ : Int) => (m_law_big (m_law_cell ns ((2 : Int) + c_)))) (irng (0 : Int) (Int.toNat n))) = ds
  have hl : (m_law_items ds n small).length = n.toNat := items_len _ _ _
  have hi : ∀ i ∈ m_law_items ds n small, ItOk i := items_ok _ _ _
  generalize m_law_items ds n small = its at hl hi
  have en : n = (its.length : Int) := by omega
  subst en
  rw [if_neg (by simp), if_neg (by simp [m_law_is_integer])]
  by_cases z : its.length = 0
  · have : its = [] := List.length_eq_zero_iff.mp z
    subst this
    rfl
  · rw [if_neg (by simp; intro q; rw [q] at z; exact z rfl)]
    have hp : 1 ≤ its.length := by omega
    have hw : (m_needs its).2 = (loopN (m_law_l0 (its.length : Int) its) (Int.toNat (((its.length : Int) + 1) - 1)) (1 : Int) (0, 0)).1 := by
      have h := wide_same its its.length 0 (0, 0) (Int.le_refl 0) (Int.le_refl 0) (Nat.zero_add _)
      have e1 : Int.toNat (((its.length : Int) + 1) - 1) = its.length := by omega
      have e2 : (1 : Int) + ((0 : Nat) : Int) = 1 := rfl
      rw [e2] at h
      rw [e1, ← h]
      show m_widest_width (m_Measures___init__ its) = _
      unfold m_widest_width
      dsimp only
      have hc : (m_Measures___init__ its).f_count = (its.length : Int) := rfl
      rw [hc, e1]
    have hL : (m_needs its).1 = (m_least_width (m_Measures___init__ its)).getD 0 := rfl
    rw [hw, hL]
    have g : GoodM (m_Measures___init__ its) := ⟨its, rfl, by omega, hi⟩
    obtain ⟨v, hv⟩ := Option.ne_none_iff_exists'.mp (least_some g)
    have nn := least_nn (m_Measures___init__ its)
    rw [hv, Option.getD_some] at nn ⊢
    have c1 : m_law_can_be_set its v = true := (can_at its v).mpr ((least_at hp nn).mp ⟨v, hv, Int.le_refl v⟩)
    rw [c1, if_neg (by simp; exact nn)]
    by_cases z0 : v = 0
    · rw [decide_eq_true z0]; rfl
    · have c2 : m_law_can_be_set its (v - 1) = false := by
        cases q : m_law_can_be_set its (v - 1) with
        | false => rfl
        | true =>
          obtain ⟨u, hu, hm⟩ := (least_at hp (show 0 ≤ v - 1 by omega)).mpr ((can_at its (v - 1)).mp q)
          rw [hv] at hu
          cases hu
          omega
      rw [c2]
      exact Bool.or_true _

theorem all_mk {w : World} {K : PySem.W.Frag} {h : Heap} {mg : Str → Option Value} {fa : Addr} (X : K.In h) (G : h.Ns mainGlobals mg) (hfa : mg "law" = some (.ref fa))
    {C_Measures : Addr} (aC_Measures : PySem.W.nsIn K mainGlobals "Measures" = some (some (.ref C_Measures))) (pg_Measures : PySem.W.plainGet K C_Measures Str.empty = true) (hd_Measures : PySem.W.hasDictIn K C_Measures = true) (po_Measures : PySem.W.plainOver K C_Measures = true) (sa_Measures : PySem.W.findIn K (.ref C_Measures) "__setattr__" = some (some (.builtin "object.__setattr__"))) (mkc_Measures : PySem.W.makesIn K C_Measures = true) (kc_Measures : PySem.W.keepIn K (.ref C_Measures) = true)
    (nf_Measures_parts : PySem.W.findIn K (.ref C_Measures) (PySem.Str.ofString "parts") = some none)
    (nf_Measures_count : PySem.W.findIn K (.ref C_Measures) (PySem.Str.ofString "count") = some none)
    (nf_Measures__widths : PySem.W.findIn K (.ref C_Measures) (PySem.Str.ofString "_widths") = some none)
    (nf_Measures__stretches : PySem.W.findIn K (.ref C_Measures) (PySem.Str.ofString "_stretches") = some none)
    (nf_Measures__shrinks : PySem.W.findIn K (.ref C_Measures) (PySem.Str.ofString "_shrinks") = some none)
    (nf_Measures__ends : PySem.W.findIn K (.ref C_Measures) (PySem.Str.ofString "_ends") = some none)
    (nf_Measures__next_end : PySem.W.findIn K (.ref C_Measures) (PySem.Str.ofString "_next_end") = some none)
    (nf_Measures__next_forced : PySem.W.findIn K (.ref C_Measures) (PySem.Str.ofString "_next_forced") = some none)
    (nf_Measures__next_solid : PySem.W.findIn K (.ref C_Measures) (PySem.Str.ofString "_next_solid") = some none)
    (nf_Measures__first_kept : PySem.W.findIn K (.ref C_Measures) (PySem.Str.ofString "_first_kept") = some none)
    (nf_Measures__kept_before : PySem.W.findIn K (.ref C_Measures) (PySem.Str.ofString "_kept_before") = some none)
    {f_is_blank : Addr} {od_is_blank an_is_blank : Option Addr} {sl_is_blank : Array (Option Value)} {oc_is_blank kV_is_blank dc_is_blank pm_is_blank cd_is_blank ct_is_blank : Value}
    (a_is_blank : PySem.W.nsIn K mainGlobals "is_blank" = some (some (.ref f_is_blank))) (l_is_blank : K.lookup f_is_blank = some ⟨oc_is_blank, od_is_blank, .func (PySem.W.fnOf "is_blank" "is_blank" (defArgs (topS 5)) (defBody (topS 5)) (defScope (topS 5)) .none kV_is_blank dc_is_blank pm_is_blank an_is_blank cd_is_blank ct_is_blank), sl_is_blank⟩) (c_is_blank : PySem.W.codeIn K cd_is_blank "is_blank" = true) (k_is_blank : PySem.W.keepIn K (.ref f_is_blank) = true)
    {f_width_of_item : Addr} {od_width_of_item an_width_of_item : Option Addr} {sl_width_of_item : Array (Option Value)} {oc_width_of_item kV_width_of_item dc_width_of_item pm_width_of_item cd_width_of_item ct_width_of_item : Value}
    (a_width_of_item : PySem.W.nsIn K mainGlobals "width_of_item" = some (some (.ref f_width_of_item))) (l_width_of_item : K.lookup f_width_of_item = some ⟨oc_width_of_item, od_width_of_item, .func (PySem.W.fnOf "width_of_item" "width_of_item" (defArgs (topS 6)) (defBody (topS 6)) (defScope (topS 6)) .none kV_width_of_item dc_width_of_item pm_width_of_item an_width_of_item cd_width_of_item ct_width_of_item), sl_width_of_item⟩) (c_width_of_item : PySem.W.codeIn K cd_width_of_item "width_of_item" = true) (k_width_of_item : PySem.W.keepIn K (.ref f_width_of_item) = true)
    {f_stretch_of_item : Addr} {od_stretch_of_item an_stretch_of_item : Option Addr} {sl_stretch_of_item : Array (Option Value)} {oc_stretch_of_item kV_stretch_of_item dc_stretch_of_item pm_stretch_of_item cd_stretch_of_item ct_stretch_of_item : Value}
    (a_stretch_of_item : PySem.W.nsIn K mainGlobals "stretch_of_item" = some (some (.ref f_stretch_of_item))) (l_stretch_of_item : K.lookup f_stretch_of_item = some ⟨oc_stretch_of_item, od_stretch_of_item, .func (PySem.W.fnOf "stretch_of_item" "stretch_of_item" (defArgs (topS 7)) (defBody (topS 7)) (defScope (topS 7)) .none kV_stretch_of_item dc_stretch_of_item pm_stretch_of_item an_stretch_of_item cd_stretch_of_item ct_stretch_of_item), sl_stretch_of_item⟩) (c_stretch_of_item : PySem.W.codeIn K cd_stretch_of_item "stretch_of_item" = true) (k_stretch_of_item : PySem.W.keepIn K (.ref f_stretch_of_item) = true)
    {f_shrink_of_item : Addr} {od_shrink_of_item an_shrink_of_item : Option Addr} {sl_shrink_of_item : Array (Option Value)} {oc_shrink_of_item kV_shrink_of_item dc_shrink_of_item pm_shrink_of_item cd_shrink_of_item ct_shrink_of_item : Value}
    (a_shrink_of_item : PySem.W.nsIn K mainGlobals "shrink_of_item" = some (some (.ref f_shrink_of_item))) (l_shrink_of_item : K.lookup f_shrink_of_item = some ⟨oc_shrink_of_item, od_shrink_of_item, .func (PySem.W.fnOf "shrink_of_item" "shrink_of_item" (defArgs (topS 8)) (defBody (topS 8)) (defScope (topS 8)) .none kV_shrink_of_item dc_shrink_of_item pm_shrink_of_item an_shrink_of_item cd_shrink_of_item ct_shrink_of_item), sl_shrink_of_item⟩) (c_shrink_of_item : PySem.W.codeIn K cd_shrink_of_item "shrink_of_item" = true) (k_shrink_of_item : PySem.W.keepIn K (.ref f_shrink_of_item) = true)
    {f_is_line_end : Addr} {od_is_line_end an_is_line_end : Option Addr} {sl_is_line_end : Array (Option Value)} {oc_is_line_end kV_is_line_end dc_is_line_end pm_is_line_end cd_is_line_end ct_is_line_end : Value}
    (a_is_line_end : PySem.W.nsIn K mainGlobals "is_line_end" = some (some (.ref f_is_line_end))) (l_is_line_end : K.lookup f_is_line_end = some ⟨oc_is_line_end, od_is_line_end, .func (PySem.W.fnOf "is_line_end" "is_line_end" (defArgs (topS 9)) (defBody (topS 9)) (defScope (topS 9)) .none kV_is_line_end dc_is_line_end pm_is_line_end an_is_line_end cd_is_line_end ct_is_line_end), sl_is_line_end⟩) (c_is_line_end : PySem.W.codeIn K cd_is_line_end "is_line_end" = true) (k_is_line_end : PySem.W.keepIn K (.ref f_is_line_end) = true)
    {f_sums_of : Addr} {od_sums_of an_sums_of : Option Addr} {sl_sums_of : Array (Option Value)} {oc_sums_of kV_sums_of dc_sums_of pm_sums_of cd_sums_of ct_sums_of : Value}
    (a_sums_of : PySem.W.nsIn K mainGlobals "sums_of" = some (some (.ref f_sums_of))) (l_sums_of : K.lookup f_sums_of = some ⟨oc_sums_of, od_sums_of, .func (PySem.W.fnOf "sums_of" "sums_of" (defArgs (topS 10)) (defBody (topS 10)) (defScope (topS 10)) .none kV_sums_of dc_sums_of pm_sums_of an_sums_of cd_sums_of ct_sums_of), sl_sums_of⟩) (c_sums_of : PySem.W.codeIn K cd_sums_of "sums_of" = true) (k_sums_of : PySem.W.keepIn K (.ref f_sums_of) = true)
    {f_first_from : Addr} {od_first_from an_first_from : Option Addr} {sl_first_from : Array (Option Value)} {oc_first_from kV_first_from dc_first_from pm_first_from cd_first_from ct_first_from : Value}
    (a_first_from : PySem.W.nsIn K mainGlobals "first_from" = some (some (.ref f_first_from))) (l_first_from : K.lookup f_first_from = some ⟨oc_first_from, od_first_from, .func (PySem.W.fnOf "first_from" "first_from" (defArgs (topS 11)) (defBody (topS 11)) (defScope (topS 11)) .none kV_first_from dc_first_from pm_first_from an_first_from cd_first_from ct_first_from), sl_first_from⟩) (c_first_from : PySem.W.codeIn K cd_first_from "first_from" = true) (k_first_from : PySem.W.keepIn K (.ref f_first_from) = true)
    {f_Measures___init__ : Addr} {od_Measures___init__ an_Measures___init__ : Option Addr} {sl_Measures___init__ : Array (Option Value)} {oc_Measures___init__ kV_Measures___init__ dc_Measures___init__ pm_Measures___init__ cd_Measures___init__ ct_Measures___init__ : Value}
    (a_Measures___init__ : PySem.W.findIn K (.ref C_Measures) "__init__" = some (some (.ref f_Measures___init__))) (i_Measures___init__ : PySem.W.isFn K (.ref f_Measures___init__) = true) (l_Measures___init__ : K.lookup f_Measures___init__ = some ⟨oc_Measures___init__, od_Measures___init__, .func (PySem.W.fnOf "__init__" "Measures.__init__" (defArgs (inClass (topS 12) 0)) (defBody (inClass (topS 12) 0)) (defScope (inClass (topS 12) 0)) .none kV_Measures___init__ dc_Measures___init__ pm_Measures___init__ an_Measures___init__ cd_Measures___init__ ct_Measures___init__), sl_Measures___init__⟩) (c_Measures___init__ : PySem.W.codeIn K cd_Measures___init__ "Measures.__init__" = true) (k_Measures___init__ : PySem.W.keepIn K (.ref f_Measures___init__) = true)
    {f_Measures_ends_behind : Addr} {od_Measures_ends_behind an_Measures_ends_behind : Option Addr} {sl_Measures_ends_behind : Array (Option Value)} {oc_Measures_ends_behind kV_Measures_ends_behind dc_Measures_ends_behind pm_Measures_ends_behind cd_Measures_ends_behind ct_Measures_ends_behind : Value}
    (a_Measures_ends_behind : PySem.W.findIn K (.ref C_Measures) "ends_behind" = some (some (.ref f_Measures_ends_behind))) (i_Measures_ends_behind : PySem.W.isFn K (.ref f_Measures_ends_behind) = true) (l_Measures_ends_behind : K.lookup f_Measures_ends_behind = some ⟨oc_Measures_ends_behind, od_Measures_ends_behind, .func (PySem.W.fnOf "ends_behind" "Measures.ends_behind" (defArgs (inClass (topS 12) 2)) (defBody (inClass (topS 12) 2)) (defScope (inClass (topS 12) 2)) .none kV_Measures_ends_behind dc_Measures_ends_behind pm_Measures_ends_behind an_Measures_ends_behind cd_Measures_ends_behind ct_Measures_ends_behind), sl_Measures_ends_behind⟩) (c_Measures_ends_behind : PySem.W.codeIn K cd_Measures_ends_behind "Measures.ends_behind" = true) (k_Measures_ends_behind : PySem.W.keepIn K (.ref f_Measures_ends_behind) = true)
    {f_Measures_bounds : Addr} {od_Measures_bounds an_Measures_bounds : Option Addr} {sl_Measures_bounds : Array (Option Value)} {oc_Measures_bounds kV_Measures_bounds dc_Measures_bounds pm_Measures_bounds cd_Measures_bounds ct_Measures_bounds : Value}
    (a_Measures_bounds : PySem.W.findIn K (.ref C_Measures) "bounds" = some (some (.ref f_Measures_bounds))) (i_Measures_bounds : PySem.W.isFn K (.ref f_Measures_bounds) = true) (l_Measures_bounds : K.lookup f_Measures_bounds = some ⟨oc_Measures_bounds, od_Measures_bounds, .func (PySem.W.fnOf "bounds" "Measures.bounds" (defArgs (inClass (topS 12) 3)) (defBody (inClass (topS 12) 3)) (defScope (inClass (topS 12) 3)) .none kV_Measures_bounds dc_Measures_bounds pm_Measures_bounds an_Measures_bounds cd_Measures_bounds ct_Measures_bounds), sl_Measures_bounds⟩) (c_Measures_bounds : PySem.W.codeIn K cd_Measures_bounds "Measures.bounds" = true) (k_Measures_bounds : PySem.W.keepIn K (.ref f_Measures_bounds) = true)
    {f_Measures_measure : Addr} {od_Measures_measure an_Measures_measure : Option Addr} {sl_Measures_measure : Array (Option Value)} {oc_Measures_measure kV_Measures_measure dc_Measures_measure pm_Measures_measure cd_Measures_measure ct_Measures_measure : Value}
    (a_Measures_measure : PySem.W.findIn K (.ref C_Measures) "measure" = some (some (.ref f_Measures_measure))) (i_Measures_measure : PySem.W.isFn K (.ref f_Measures_measure) = true) (l_Measures_measure : K.lookup f_Measures_measure = some ⟨oc_Measures_measure, od_Measures_measure, .func (PySem.W.fnOf "measure" "Measures.measure" (defArgs (inClass (topS 12) 5)) (defBody (inClass (topS 12) 5)) (defScope (inClass (topS 12) 5)) .none kV_Measures_measure dc_Measures_measure pm_Measures_measure an_Measures_measure cd_Measures_measure ct_Measures_measure), sl_Measures_measure⟩) (c_Measures_measure : PySem.W.codeIn K cd_Measures_measure "Measures.measure" = true) (k_Measures_measure : PySem.W.keepIn K (.ref f_Measures_measure) = true)
    {f_Measures_has_hyphen : Addr} {od_Measures_has_hyphen an_Measures_has_hyphen : Option Addr} {sl_Measures_has_hyphen : Array (Option Value)} {oc_Measures_has_hyphen kV_Measures_has_hyphen dc_Measures_has_hyphen pm_Measures_has_hyphen cd_Measures_has_hyphen ct_Measures_has_hyphen : Value}
    (a_Measures_has_hyphen : PySem.W.findIn K (.ref C_Measures) "has_hyphen" = some (some (.ref f_Measures_has_hyphen))) (i_Measures_has_hyphen : PySem.W.isFn K (.ref f_Measures_has_hyphen) = true) (l_Measures_has_hyphen : K.lookup f_Measures_has_hyphen = some ⟨oc_Measures_has_hyphen, od_Measures_has_hyphen, .func (PySem.W.fnOf "has_hyphen" "Measures.has_hyphen" (defArgs (inClass (topS 12) 6)) (defBody (inClass (topS 12) 6)) (defScope (inClass (topS 12) 6)) .none kV_Measures_has_hyphen dc_Measures_has_hyphen pm_Measures_has_hyphen an_Measures_has_hyphen cd_Measures_has_hyphen ct_Measures_has_hyphen), sl_Measures_has_hyphen⟩) (c_Measures_has_hyphen : PySem.W.codeIn K cd_Measures_has_hyphen "Measures.has_hyphen" = true) (k_Measures_has_hyphen : PySem.W.keepIn K (.ref f_Measures_has_hyphen) = true)
    {f_Measures_hyphen_width : Addr} {od_Measures_hyphen_width an_Measures_hyphen_width : Option Addr} {sl_Measures_hyphen_width : Array (Option Value)} {oc_Measures_hyphen_width kV_Measures_hyphen_width dc_Measures_hyphen_width pm_Measures_hyphen_width cd_Measures_hyphen_width ct_Measures_hyphen_width : Value}
    (a_Measures_hyphen_width : PySem.W.findIn K (.ref C_Measures) "hyphen_width" = some (some (.ref f_Measures_hyphen_width))) (i_Measures_hyphen_width : PySem.W.isFn K (.ref f_Measures_hyphen_width) = true) (l_Measures_hyphen_width : K.lookup f_Measures_hyphen_width = some ⟨oc_Measures_hyphen_width, od_Measures_hyphen_width, .func (PySem.W.fnOf "hyphen_width" "Measures.hyphen_width" (defArgs (inClass (topS 12) 7)) (defBody (inClass (topS 12) 7)) (defScope (inClass (topS 12) 7)) .none kV_Measures_hyphen_width dc_Measures_hyphen_width pm_Measures_hyphen_width an_Measures_hyphen_width cd_Measures_hyphen_width ct_Measures_hyphen_width), sl_Measures_hyphen_width⟩) (c_Measures_hyphen_width : PySem.W.codeIn K cd_Measures_hyphen_width "Measures.hyphen_width" = true) (k_Measures_hyphen_width : PySem.W.keepIn K (.ref f_Measures_hyphen_width) = true)
    {f_Measures_is_loose : Addr} {od_Measures_is_loose an_Measures_is_loose : Option Addr} {sl_Measures_is_loose : Array (Option Value)} {oc_Measures_is_loose kV_Measures_is_loose dc_Measures_is_loose pm_Measures_is_loose cd_Measures_is_loose ct_Measures_is_loose : Value}
    (a_Measures_is_loose : PySem.W.findIn K (.ref C_Measures) "is_loose" = some (some (.ref f_Measures_is_loose))) (i_Measures_is_loose : PySem.W.isFn K (.ref f_Measures_is_loose) = true) (l_Measures_is_loose : K.lookup f_Measures_is_loose = some ⟨oc_Measures_is_loose, od_Measures_is_loose, .func (PySem.W.fnOf "is_loose" "Measures.is_loose" (defArgs (inClass (topS 12) 9)) (defBody (inClass (topS 12) 9)) (defScope (inClass (topS 12) 9)) .none kV_Measures_is_loose dc_Measures_is_loose pm_Measures_is_loose an_Measures_is_loose cd_Measures_is_loose ct_Measures_is_loose), sl_Measures_is_loose⟩) (c_Measures_is_loose : PySem.W.codeIn K cd_Measures_is_loose "Measures.is_loose" = true) (k_Measures_is_loose : PySem.W.keepIn K (.ref f_Measures_is_loose) = true)
    {f_kept_before : Addr} {od_kept_before an_kept_before : Option Addr} {sl_kept_before : Array (Option Value)} {oc_kept_before kV_kept_before dc_kept_before pm_kept_before cd_kept_before ct_kept_before : Value}
    (a_kept_before : PySem.W.nsIn K mainGlobals "kept_before" = some (some (.ref f_kept_before))) (l_kept_before : K.lookup f_kept_before = some ⟨oc_kept_before, od_kept_before, .func (PySem.W.fnOf "kept_before" "kept_before" (defArgs (topS 13)) (defBody (topS 13)) (defScope (topS 13)) .none kV_kept_before dc_kept_before pm_kept_before an_kept_before cd_kept_before ct_kept_before), sl_kept_before⟩) (c_kept_before : PySem.W.codeIn K cd_kept_before "kept_before" = true) (k_kept_before : PySem.W.keepIn K (.ref f_kept_before) = true)
    {f_needs : Addr} {od_needs an_needs : Option Addr} {sl_needs : Array (Option Value)} {oc_needs kV_needs dc_needs pm_needs cd_needs ct_needs : Value}
    (a_needs : PySem.W.nsIn K mainGlobals "needs" = some (some (.ref f_needs))) (l_needs : K.lookup f_needs = some ⟨oc_needs, od_needs, .func (PySem.W.fnOf "needs" "needs" (defArgs (topS 15)) (defBody (topS 15)) (defScope (topS 15)) .none kV_needs dc_needs pm_needs an_needs cd_needs ct_needs), sl_needs⟩) (c_needs : PySem.W.codeIn K cd_needs "needs" = true) (k_needs : PySem.W.keepIn K (.ref f_needs) = true)
    {f_least_width : Addr} {od_least_width an_least_width : Option Addr} {sl_least_width : Array (Option Value)} {oc_least_width kV_least_width dc_least_width pm_least_width cd_least_width ct_least_width : Value}
    (a_least_width : PySem.W.nsIn K mainGlobals "least_width" = some (some (.ref f_least_width))) (l_least_width : K.lookup f_least_width = some ⟨oc_least_width, od_least_width, .func (PySem.W.fnOf "least_width" "least_width" (defArgs (topS 16)) (defBody (topS 16)) (defScope (topS 16)) .none kV_least_width dc_least_width pm_least_width an_least_width cd_least_width ct_least_width), sl_least_width⟩) (c_least_width : PySem.W.codeIn K cd_least_width "least_width" = true) (k_least_width : PySem.W.keepIn K (.ref f_least_width) = true)
    {f_widest_width : Addr} {od_widest_width an_widest_width : Option Addr} {sl_widest_width : Array (Option Value)} {oc_widest_width kV_widest_width dc_widest_width pm_widest_width cd_widest_width ct_widest_width : Value}
    (a_widest_width : PySem.W.nsIn K mainGlobals "widest_width" = some (some (.ref f_widest_width))) (l_widest_width : K.lookup f_widest_width = some ⟨oc_widest_width, od_widest_width, .func (PySem.W.fnOf "widest_width" "widest_width" (defArgs (topS 17)) (defBody (topS 17)) (defScope (topS 17)) .none kV_widest_width dc_widest_width pm_widest_width an_widest_width cd_widest_width ct_widest_width), sl_widest_width⟩) (c_widest_width : PySem.W.codeIn K cd_widest_width "widest_width" = true) (k_widest_width : PySem.W.keepIn K (.ref f_widest_width) = true)
    {f_law_cell : Addr} {od_law_cell an_law_cell : Option Addr} {sl_law_cell : Array (Option Value)} {oc_law_cell kV_law_cell dc_law_cell pm_law_cell cd_law_cell ct_law_cell : Value}
    (a_law_cell : PySem.W.nsIn K mainGlobals "_law_cell" = some (some (.ref f_law_cell))) (l_law_cell : K.lookup f_law_cell = some ⟨oc_law_cell, od_law_cell, .func (PySem.W.fnOf "_law_cell" "_law_cell" (defArgs (topS 19)) (defBody (topS 19)) (defScope (topS 19)) .none kV_law_cell dc_law_cell pm_law_cell an_law_cell cd_law_cell ct_law_cell), sl_law_cell⟩) (c_law_cell : PySem.W.codeIn K cd_law_cell "_law_cell" = true) (k_law_cell : PySem.W.keepIn K (.ref f_law_cell) = true)
    {f_law_draws : Addr} {od_law_draws an_law_draws : Option Addr} {sl_law_draws : Array (Option Value)} {oc_law_draws kV_law_draws dc_law_draws pm_law_draws cd_law_draws ct_law_draws : Value}
    (a_law_draws : PySem.W.nsIn K mainGlobals "_law_draws" = some (some (.ref f_law_draws))) (l_law_draws : K.lookup f_law_draws = some ⟨oc_law_draws, od_law_draws, .func (PySem.W.fnOf "_law_draws" "_law_draws" (defArgs (topS 20)) (defBody (topS 20)) (defScope (topS 20)) .none kV_law_draws dc_law_draws pm_law_draws an_law_draws cd_law_draws ct_law_draws), sl_law_draws⟩) (c_law_draws : PySem.W.codeIn K cd_law_draws "_law_draws" = true) (k_law_draws : PySem.W.keepIn K (.ref f_law_draws) = true)
    {f_law_is_integer : Addr} {od_law_is_integer an_law_is_integer : Option Addr} {sl_law_is_integer : Array (Option Value)} {oc_law_is_integer kV_law_is_integer dc_law_is_integer pm_law_is_integer cd_law_is_integer ct_law_is_integer : Value}
    (a_law_is_integer : PySem.W.nsIn K mainGlobals "_law_is_integer" = some (some (.ref f_law_is_integer))) (l_law_is_integer : K.lookup f_law_is_integer = some ⟨oc_law_is_integer, od_law_is_integer, .func (PySem.W.fnOf "_law_is_integer" "_law_is_integer" (defArgs (topS 21)) (defBody (topS 21)) (defScope (topS 21)) .none kV_law_is_integer dc_law_is_integer pm_law_is_integer an_law_is_integer cd_law_is_integer ct_law_is_integer), sl_law_is_integer⟩) (c_law_is_integer : PySem.W.codeIn K cd_law_is_integer "_law_is_integer" = true) (k_law_is_integer : PySem.W.keepIn K (.ref f_law_is_integer) = true)
    {f_law_big : Addr} {od_law_big an_law_big : Option Addr} {sl_law_big : Array (Option Value)} {oc_law_big kV_law_big dc_law_big pm_law_big cd_law_big ct_law_big : Value}
    (a_law_big : PySem.W.nsIn K mainGlobals "_law_big" = some (some (.ref f_law_big))) (l_law_big : K.lookup f_law_big = some ⟨oc_law_big, od_law_big, .func (PySem.W.fnOf "_law_big" "_law_big" (defArgs (topS 22)) (defBody (topS 22)) (defScope (topS 22)) .none kV_law_big dc_law_big pm_law_big an_law_big cd_law_big ct_law_big), sl_law_big⟩) (c_law_big : PySem.W.codeIn K cd_law_big "_law_big" = true) (k_law_big : PySem.W.keepIn K (.ref f_law_big) = true)
    {f_law_item : Addr} {od_law_item an_law_item : Option Addr} {sl_law_item : Array (Option Value)} {oc_law_item kV_law_item dc_law_item pm_law_item cd_law_item ct_law_item : Value}
    (a_law_item : PySem.W.nsIn K mainGlobals "_law_item" = some (some (.ref f_law_item))) (l_law_item : K.lookup f_law_item = some ⟨oc_law_item, od_law_item, .func (PySem.W.fnOf "_law_item" "_law_item" (defArgs (topS 23)) (defBody (topS 23)) (defScope (topS 23)) .none kV_law_item dc_law_item pm_law_item an_law_item cd_law_item ct_law_item), sl_law_item⟩) (c_law_item : PySem.W.codeIn K cd_law_item "_law_item" = true) (k_law_item : PySem.W.keepIn K (.ref f_law_item) = true)
    {f_law_items : Addr} {od_law_items an_law_items : Option Addr} {sl_law_items : Array (Option Value)} {oc_law_items kV_law_items dc_law_items pm_law_items cd_law_items ct_law_items : Value}
    (a_law_items : PySem.W.nsIn K mainGlobals "_law_items" = some (some (.ref f_law_items))) (l_law_items : K.lookup f_law_items = some ⟨oc_law_items, od_law_items, .func (PySem.W.fnOf "_law_items" "_law_items" (defArgs (topS 24)) (defBody (topS 24)) (defScope (topS 24)) .none kV_law_items dc_law_items pm_law_items an_law_items cd_law_items ct_law_items), sl_law_items⟩) (c_law_items : PySem.W.codeIn K cd_law_items "_law_items" = true) (k_law_items : PySem.W.keepIn K (.ref f_law_items) = true)
    {f_law_is_blank : Addr} {od_law_is_blank an_law_is_blank : Option Addr} {sl_law_is_blank : Array (Option Value)} {oc_law_is_blank kV_law_is_blank dc_law_is_blank pm_law_is_blank cd_law_is_blank ct_law_is_blank : Value}
    (a_law_is_blank : PySem.W.nsIn K mainGlobals "_law_is_blank" = some (some (.ref f_law_is_blank))) (l_law_is_blank : K.lookup f_law_is_blank = some ⟨oc_law_is_blank, od_law_is_blank, .func (PySem.W.fnOf "_law_is_blank" "_law_is_blank" (defArgs (topS 25)) (defBody (topS 25)) (defScope (topS 25)) .none kV_law_is_blank dc_law_is_blank pm_law_is_blank an_law_is_blank cd_law_is_blank ct_law_is_blank), sl_law_is_blank⟩) (c_law_is_blank : PySem.W.codeIn K cd_law_is_blank "_law_is_blank" = true) (k_law_is_blank : PySem.W.keepIn K (.ref f_law_is_blank) = true)
    {f_law_shown : Addr} {od_law_shown an_law_shown : Option Addr} {sl_law_shown : Array (Option Value)} {oc_law_shown kV_law_shown dc_law_shown pm_law_shown cd_law_shown ct_law_shown : Value}
    (a_law_shown : PySem.W.nsIn K mainGlobals "_law_shown" = some (some (.ref f_law_shown))) (l_law_shown : K.lookup f_law_shown = some ⟨oc_law_shown, od_law_shown, .func (PySem.W.fnOf "_law_shown" "_law_shown" (defArgs (topS 26)) (defBody (topS 26)) (defScope (topS 26)) .none kV_law_shown dc_law_shown pm_law_shown an_law_shown cd_law_shown ct_law_shown), sl_law_shown⟩) (c_law_shown : PySem.W.codeIn K cd_law_shown "_law_shown" = true) (k_law_shown : PySem.W.keepIn K (.ref f_law_shown) = true)
    {f_law_may_end : Addr} {od_law_may_end an_law_may_end : Option Addr} {sl_law_may_end : Array (Option Value)} {oc_law_may_end kV_law_may_end dc_law_may_end pm_law_may_end cd_law_may_end ct_law_may_end : Value}
    (a_law_may_end : PySem.W.nsIn K mainGlobals "_law_may_end" = some (some (.ref f_law_may_end))) (l_law_may_end : K.lookup f_law_may_end = some ⟨oc_law_may_end, od_law_may_end, .func (PySem.W.fnOf "_law_may_end" "_law_may_end" (defArgs (topS 27)) (defBody (topS 27)) (defScope (topS 27)) .none kV_law_may_end dc_law_may_end pm_law_may_end an_law_may_end cd_law_may_end ct_law_may_end), sl_law_may_end⟩) (c_law_may_end : PySem.W.codeIn K cd_law_may_end "_law_may_end" = true) (k_law_may_end : PySem.W.keepIn K (.ref f_law_may_end) = true)
    {f_law_sums : Addr} {od_law_sums an_law_sums : Option Addr} {sl_law_sums : Array (Option Value)} {oc_law_sums kV_law_sums dc_law_sums pm_law_sums cd_law_sums ct_law_sums : Value}
    (a_law_sums : PySem.W.nsIn K mainGlobals "_law_sums" = some (some (.ref f_law_sums))) (l_law_sums : K.lookup f_law_sums = some ⟨oc_law_sums, od_law_sums, .func (PySem.W.fnOf "_law_sums" "_law_sums" (defArgs (topS 28)) (defBody (topS 28)) (defScope (topS 28)) .none kV_law_sums dc_law_sums pm_law_sums an_law_sums cd_law_sums ct_law_sums), sl_law_sums⟩) (c_law_sums : PySem.W.codeIn K cd_law_sums "_law_sums" = true) (k_law_sums : PySem.W.keepIn K (.ref f_law_sums) = true)
    {f_law_can_be_set : Addr} {od_law_can_be_set an_law_can_be_set : Option Addr} {sl_law_can_be_set : Array (Option Value)} {oc_law_can_be_set kV_law_can_be_set dc_law_can_be_set pm_law_can_be_set cd_law_can_be_set ct_law_can_be_set : Value}
    (a_law_can_be_set : PySem.W.nsIn K mainGlobals "_law_can_be_set" = some (some (.ref f_law_can_be_set))) (l_law_can_be_set : K.lookup f_law_can_be_set = some ⟨oc_law_can_be_set, od_law_can_be_set, .func (PySem.W.fnOf "_law_can_be_set" "_law_can_be_set" (defArgs (topS 29)) (defBody (topS 29)) (defScope (topS 29)) .none kV_law_can_be_set dc_law_can_be_set pm_law_can_be_set an_law_can_be_set cd_law_can_be_set ct_law_can_be_set), sl_law_can_be_set⟩) (c_law_can_be_set : PySem.W.codeIn K cd_law_can_be_set "_law_can_be_set" = true) (k_law_can_be_set : PySem.W.keepIn K (.ref f_law_can_be_set) = true)
    {f_law : Addr} {od_law an_law : Option Addr} {sl_law : Array (Option Value)} {oc_law kV_law dc_law pm_law cd_law ct_law : Value}
    (a_law : PySem.W.nsIn K mainGlobals "law" = some (some (.ref f_law))) (l_law : K.lookup f_law = some ⟨oc_law, od_law, .func (PySem.W.fnOf "law" "law" (defArgs (topS 30)) (defBody (topS 30)) (defScope (topS 30)) .none kV_law dc_law pm_law an_law cd_law ct_law), sl_law⟩) (c_law : PySem.W.codeIn K cd_law "law" = true) (k_law : PySem.W.keepIn K (.ref f_law) = true)
    (z_bool : PySem.W.nsIn K mainGlobals "bool" = some none)
    (z_enumerate : PySem.W.nsIn K mainGlobals "enumerate" = some none)
    (z_int : PySem.W.nsIn K mainGlobals "int" = some none)
    (z_isinstance : PySem.W.nsIn K mainGlobals "isinstance" = some none)
    (z_len : PySem.W.nsIn K mainGlobals "len" = some none)
    (z_list : PySem.W.nsIn K mainGlobals "list" = some none)
    (z_max : PySem.W.nsIn K mainGlobals "max" = some none)
    (z_min : PySem.W.nsIn K mainGlobals "min" = some none)
    (z_range : PySem.W.nsIn K mainGlobals "range" = some none)
    (z_reversed : PySem.W.nsIn K mainGlobals "reversed" = some none)
    (z_tuple : PySem.W.nsIn K mainGlobals "tuple" = some none)
    {a_BLANK_KINDS : Addr} {dq_BLANK_KINDS : Option Addr} {nq_BLANK_KINDS : Nat} {sq_BLANK_KINDS : Array (Option Value)} {t0_BLANK_KINDS t1_BLANK_KINDS t2_BLANK_KINDS : Tok} (y_BLANK_KINDS : PySem.W.nsIn K mainGlobals "BLANK_KINDS" = some (some (.ref a_BLANK_KINDS))) (q_BLANK_KINDS : K.lookup a_BLANK_KINDS = some ⟨.type "tuple", dq_BLANK_KINDS, .seq #[.str (PySem.Str.ofString "glue") t0_BLANK_KINDS, .str (PySem.Str.ofString "penalty") t1_BLANK_KINDS, .str (PySem.Str.ofString "forced") t2_BLANK_KINDS] nq_BLANK_KINDS, sq_BLANK_KINDS⟩)
    {a_WIDE_KINDS : Addr} {dq_WIDE_KINDS : Option Addr} {nq_WIDE_KINDS : Nat} {sq_WIDE_KINDS : Array (Option Value)} {t0_WIDE_KINDS t1_WIDE_KINDS t2_WIDE_KINDS : Tok} (y_WIDE_KINDS : PySem.W.nsIn K mainGlobals "WIDE_KINDS" = some (some (.ref a_WIDE_KINDS))) (q_WIDE_KINDS : K.lookup a_WIDE_KINDS = some ⟨.type "tuple", dq_WIDE_KINDS, .seq #[.str (PySem.Str.ofString "box") t0_WIDE_KINDS, .str (PySem.Str.ofString "page") t1_WIDE_KINDS, .str (PySem.Str.ofString "glue") t2_WIDE_KINDS] nq_WIDE_KINDS, sq_WIDE_KINDS⟩)
    {a_SOLID_KINDS : Addr} {dq_SOLID_KINDS : Option Addr} {nq_SOLID_KINDS : Nat} {sq_SOLID_KINDS : Array (Option Value)} {t0_SOLID_KINDS t1_SOLID_KINDS : Tok} (y_SOLID_KINDS : PySem.W.nsIn K mainGlobals "SOLID_KINDS" = some (some (.ref a_SOLID_KINDS))) (q_SOLID_KINDS : K.lookup a_SOLID_KINDS = some ⟨.type "tuple", dq_SOLID_KINDS, .seq #[.str (PySem.Str.ofString "box") t0_SOLID_KINDS, .str (PySem.Str.ofString "page") t1_SOLID_KINDS] nq_SOLID_KINDS, sq_SOLID_KINDS⟩) :
    ∃ fd : FuncData, (∀ (s : Shared) (v : Value), BindsTo s fd ⟨[v], []⟩ [("script", v)]) ∧ ∀ base : Heap, K.In base → base.Ns mainGlobals mg → FnOk PySem.Challenge.rw_folio_k35_needed_widths.prog w K mg base CX0 6 fa fd ["script"] (sp_law K) := by
  have e := hfa.symm.trans (PySem.W.mg_of X G a_law)
  cases e
  have F_is_blank := fun_mk (st := (topS 5)) l_is_blank c_is_blank k_is_blank
  have B_is_blank := F_is_blank.binds (ps := ["item"]) fun _ _ _ _ _ _ us hl => match us, hl with | [_], _ => rfl
  have F_width_of_item := fun_mk (st := (topS 6)) l_width_of_item c_width_of_item k_width_of_item
  have B_width_of_item := F_width_of_item.binds (ps := ["item"]) fun _ _ _ _ _ _ us hl => match us, hl with | [_], _ => rfl
  have F_stretch_of_item := fun_mk (st := (topS 7)) l_stretch_of_item c_stretch_of_item k_stretch_of_item
  have B_stretch_of_item := F_stretch_of_item.binds (ps := ["item"]) fun _ _ _ _ _ _ us hl => match us, hl with | [_], _ => rfl
  have F_shrink_of_item := fun_mk (st := (topS 8)) l_shrink_of_item c_shrink_of_item k_shrink_of_item
  have B_shrink_of_item := F_shrink_of_item.binds (ps := ["item"]) fun _ _ _ _ _ _ us hl => match us, hl with | [_], _ => rfl
  have F_is_line_end := fun_mk (st := (topS 9)) l_is_line_end c_is_line_end k_is_line_end
  have B_is_line_end := F_is_line_end.binds (ps := ["items", "position"]) fun _ _ _ _ _ _ us hl => match us, hl with | [_, _], _ => rfl
  have F_sums_of := fun_mk (st := (topS 10)) l_sums_of c_sums_of k_sums_of
  have B_sums_of := F_sums_of.binds (ps := ["numbers"]) fun _ _ _ _ _ _ us hl => match us, hl with | [_], _ => rfl
  have F_first_from := fun_mk (st := (topS 11)) l_first_from c_first_from k_first_from
  have B_first_from := F_first_from.binds (ps := ["marks", "beyond"]) fun _ _ _ _ _ _ us hl => match us, hl with | [_, _], _ => rfl
  have F_Measures___init__ := fun_mk (st := (inClass (topS 12) 0)) l_Measures___init__ c_Measures___init__ k_Measures___init__
  have B_Measures___init__ := F_Measures___init__.binds (ps := ["self", "items"]) fun _ _ _ _ _ _ us hl => match us, hl with | [_, _], _ => rfl
  have F_Measures_ends_behind := fun_mk (st := (inClass (topS 12) 2)) l_Measures_ends_behind c_Measures_ends_behind k_Measures_ends_behind
  have B_Measures_ends_behind := F_Measures_ends_behind.binds (ps := ["self", "start"]) fun _ _ _ _ _ _ us hl => match us, hl with | [_, _], _ => rfl
  have F_Measures_bounds := fun_mk (st := (inClass (topS 12) 3)) l_Measures_bounds c_Measures_bounds k_Measures_bounds
  have B_Measures_bounds := F_Measures_bounds.binds (ps := ["self", "start", "end"]) fun _ _ _ _ _ _ us hl => match us, hl with | [_, _, _], _ => rfl
  have F_Measures_measure := fun_mk (st := (inClass (topS 12) 5)) l_Measures_measure c_Measures_measure k_Measures_measure
  have B_Measures_measure := F_Measures_measure.binds (ps := ["self", "start", "end"]) fun _ _ _ _ _ _ us hl => match us, hl with | [_, _, _], _ => rfl
  have F_Measures_has_hyphen := fun_mk (st := (inClass (topS 12) 6)) l_Measures_has_hyphen c_Measures_has_hyphen k_Measures_has_hyphen
  have B_Measures_has_hyphen := F_Measures_has_hyphen.binds (ps := ["self", "end"]) fun _ _ _ _ _ _ us hl => match us, hl with | [_, _], _ => rfl
  have F_Measures_hyphen_width := fun_mk (st := (inClass (topS 12) 7)) l_Measures_hyphen_width c_Measures_hyphen_width k_Measures_hyphen_width
  have B_Measures_hyphen_width := F_Measures_hyphen_width.binds (ps := ["self", "end"]) fun _ _ _ _ _ _ us hl => match us, hl with | [_, _], _ => rfl
  have F_Measures_is_loose := fun_mk (st := (inClass (topS 12) 9)) l_Measures_is_loose c_Measures_is_loose k_Measures_is_loose
  have B_Measures_is_loose := F_Measures_is_loose.binds (ps := ["self", "end"]) fun _ _ _ _ _ _ us hl => match us, hl with | [_, _], _ => rfl
  have F_kept_before := fun_mk (st := (topS 13)) l_kept_before c_kept_before k_kept_before
  have B_kept_before := F_kept_before.binds (ps := ["items"]) fun _ _ _ _ _ _ us hl => match us, hl with | [_], _ => rfl
  have F_needs := fun_mk (st := (topS 15)) l_needs c_needs k_needs
  have B_needs := F_needs.binds (ps := ["items"]) fun _ _ _ _ _ _ us hl => match us, hl with | [_], _ => rfl
  have F_least_width := fun_mk (st := (topS 16)) l_least_width c_least_width k_least_width
  have B_least_width := F_least_width.binds (ps := ["measures"]) fun _ _ _ _ _ _ us hl => match us, hl with | [_], _ => rfl
  have F_widest_width := fun_mk (st := (topS 17)) l_widest_width c_widest_width k_widest_width
  have B_widest_width := F_widest_width.binds (ps := ["measures"]) fun _ _ _ _ _ _ us hl => match us, hl with | [_], _ => rfl
  have F_law_cell := fun_mk (st := (topS 19)) l_law_cell c_law_cell k_law_cell
  have B_law_cell := F_law_cell.binds (ps := ["script", "k"]) fun _ _ _ _ _ _ us hl => match us, hl with | [_, _], _ => rfl
  have F_law_draws := fun_mk (st := (topS 20)) l_law_draws c_law_draws k_law_draws
  have B_law_draws := F_law_draws.binds (ps := ["cell", "count"]) fun _ _ _ _ _ _ us hl => match us, hl with | [_, _], _ => rfl
  have F_law_is_integer := fun_mk (st := (topS 21)) l_law_is_integer c_law_is_integer k_law_is_integer
  have B_law_is_integer := F_law_is_integer.binds (ps := ["actual"]) fun _ _ _ _ _ _ us hl => match us, hl with | [_], _ => rfl
  have F_law_big := fun_mk (st := (topS 22)) l_law_big c_law_big k_law_big
  have B_law_big := F_law_big.binds (ps := ["cell"]) fun _ _ _ _ _ _ us hl => match us, hl with | [_], _ => rfl
  have F_law_item := fun_mk (st := (topS 23)) l_law_item c_law_item k_law_item
  have B_law_item := F_law_item.binds (ps := ["draw", "small"]) fun _ _ _ _ _ _ us hl => match us, hl with | [_, _], _ => rfl
  have F_law_items := fun_mk (st := (topS 24)) l_law_items c_law_items k_law_items
  have B_law_items := F_law_items.binds (ps := ["draws", "count", "small"]) fun _ _ _ _ _ _ us hl => match us, hl with | [_, _, _], _ => rfl
  have F_law_is_blank := fun_mk (st := (topS 25)) l_law_is_blank c_law_is_blank k_law_is_blank
  have B_law_is_blank := F_law_is_blank.binds (ps := ["item"]) fun _ _ _ _ _ _ us hl => match us, hl with | [_], _ => rfl
  have F_law_shown := fun_mk (st := (topS 26)) l_law_shown c_law_shown k_law_shown
  have B_law_shown := F_law_shown.binds (ps := ["items", "start", "end"]) fun _ _ _ _ _ _ us hl => match us, hl with | [_, _, _], _ => rfl
  have F_law_may_end := fun_mk (st := (topS 27)) l_law_may_end c_law_may_end k_law_may_end
  have B_law_may_end := F_law_may_end.binds (ps := ["items", "j"]) fun _ _ _ _ _ _ us hl => match us, hl with | [_, _], _ => rfl
  have F_law_sums := fun_mk (st := (topS 28)) l_law_sums c_law_sums k_law_sums
  have B_law_sums := F_law_sums.binds (ps := ["items", "start", "end"]) fun _ _ _ _ _ _ us hl => match us, hl with | [_, _, _], _ => rfl
  have F_law_can_be_set := fun_mk (st := (topS 29)) l_law_can_be_set c_law_can_be_set k_law_can_be_set
  have B_law_can_be_set := F_law_can_be_set.binds (ps := ["items", "most"]) fun _ _ _ _ _ _ us hl => match us, hl with | [_, _], _ => rfl
  have F_law := fun_mk (st := (topS 30)) l_law c_law k_law
  have B_law := F_law.binds (ps := ["script"]) fun _ _ _ _ _ _ us hl => match us, hl with | [_], _ => rfl
  refine ⟨PySem.W.fnOf "law" "law" (defArgs (topS 30)) (defBody (topS 30)) (defScope (topS 30)) .none kV_law dc_law pm_law an_law cd_law ct_law, fun s v => .of_eq rfl, fun base _ _ => ?_⟩
  exact ok_law ⟨_, ⟨aC_Measures, ⟨pg_Measures, hd_Measures, po_Measures, sa_Measures⟩⟩, PySem.W.mg_of X G aC_Measures, nf_Measures_parts, nf_Measures_count, nf_Measures__widths, nf_Measures__stretches, nf_Measures__shrinks, nf_Measures__ends, nf_Measures__next_end, nf_Measures__next_forced, nf_Measures__next_solid, nf_Measures__first_kept, nf_Measures__kept_before, _, _, F_is_blank, B_is_blank, PySem.W.mg_of X G a_is_blank, _, _, F_width_of_item, B_width_of_item, PySem.W.mg_of X G a_width_of_item, _, _, F_stretch_of_item, B_stretch_of_item, PySem.W.mg_of X G a_stretch_of_item, _, _, F_shrink_of_item, B_shrink_of_item, PySem.W.mg_of X G a_shrink_of_item, _, _, F_is_line_end, B_is_line_end, PySem.W.mg_of X G a_is_line_end, _, _, F_sums_of, B_sums_of, PySem.W.mg_of X G a_sums_of, _, _, F_first_from, B_first_from, PySem.W.mg_of X G a_first_from, _, _, F_Measures___init__, B_Measures___init__, ⟨mkc_Measures, a_Measures___init__, i_Measures___init__, kc_Measures⟩, _, _, F_Measures_ends_behind, B_Measures_ends_behind, ⟨a_Measures_ends_behind, i_Measures_ends_behind, k_Measures_ends_behind⟩, _, _, F_Measures_bounds, B_Measures_bounds, ⟨a_Measures_bounds, i_Measures_bounds, k_Measures_bounds⟩, _, _, F_Measures_measure, B_Measures_measure, ⟨a_Measures_measure, i_Measures_measure, k_Measures_measure⟩, _, _, F_Measures_has_hyphen, B_Measures_has_hyphen, ⟨a_Measures_has_hyphen, i_Measures_has_hyphen, k_Measures_has_hyphen⟩, _, _, F_Measures_hyphen_width, B_Measures_hyphen_width, ⟨a_Measures_hyphen_width, i_Measures_hyphen_width, k_Measures_hyphen_width⟩, _, _, F_Measures_is_loose, B_Measures_is_loose, ⟨a_Measures_is_loose, i_Measures_is_loose, k_Measures_is_loose⟩, _, _, F_kept_before, B_kept_before, PySem.W.mg_of X G a_kept_before, _, _, F_needs, B_needs, PySem.W.mg_of X G a_needs, _, _, F_least_width, B_least_width, PySem.W.mg_of X G a_least_width, _, _, F_widest_width, B_widest_width, PySem.W.mg_of X G a_widest_width, _, _, F_law_cell, B_law_cell, PySem.W.mg_of X G a_law_cell, _, _, F_law_draws, B_law_draws, PySem.W.mg_of X G a_law_draws, _, _, F_law_is_integer, B_law_is_integer, PySem.W.mg_of X G a_law_is_integer, _, _, F_law_big, B_law_big, PySem.W.mg_of X G a_law_big, _, _, F_law_item, B_law_item, PySem.W.mg_of X G a_law_item, _, _, F_law_items, B_law_items, PySem.W.mg_of X G a_law_items, _, _, F_law_is_blank, B_law_is_blank, PySem.W.mg_of X G a_law_is_blank, _, _, F_law_shown, B_law_shown, PySem.W.mg_of X G a_law_shown, _, _, F_law_may_end, B_law_may_end, PySem.W.mg_of X G a_law_may_end, _, _, F_law_sums, B_law_sums, PySem.W.mg_of X G a_law_sums, _, _, F_law_can_be_set, B_law_can_be_set, PySem.W.mg_of X G a_law_can_be_set, _, _, F_law, B_law, PySem.W.mg_of X G a_law, PySem.W.mg_none_of X G z_bool, PySem.W.mg_none_of X G z_enumerate, PySem.W.mg_none_of X G z_int, PySem.W.mg_none_of X G z_isinstance, PySem.W.mg_none_of X G z_len, PySem.W.mg_none_of X G z_list, PySem.W.mg_none_of X G z_max, PySem.W.mg_none_of X G z_min, PySem.W.mg_none_of X G z_range, PySem.W.mg_none_of X G z_reversed, PySem.W.mg_none_of X G z_tuple, _, PySem.W.mg_of X G y_BLANK_KINDS, (fun H => .inr ⟨_, _, _, q_BLANK_KINDS, rfl, rfl, (show 3 ≤ sizeLine by decide), (.cons ⟨_, rfl⟩ (.cons ⟨_, rfl⟩ (.cons ⟨_, rfl⟩ .nil)))⟩), _, PySem.W.mg_of X G y_WIDE_KINDS, (fun H => .inr ⟨_, _, _, q_WIDE_KINDS, rfl, rfl, (show 3 ≤ sizeLine by decide), (.cons ⟨_, rfl⟩ (.cons ⟨_, rfl⟩ (.cons ⟨_, rfl⟩ .nil)))⟩), _, PySem.W.mg_of X G y_SOLID_KINDS, (fun H => .inr ⟨_, _, _, q_SOLID_KINDS, rfl, rfl, (show 2 ≤ sizeLine by decide), (.cons ⟨_, rfl⟩ (.cons ⟨_, rfl⟩ .nil))⟩)⟩
end My
open PySem PySem.W PyProof.Rows
set_option maxHeartbeats 0 in
theorem PySem.Challenge.cw_folio_k35_needed_widths_holds : PySem.Challenge.rw_folio_k35_needed_widths.Holds := by
  w_on; o_law; k_head; (case hw => w_witness2)
  k_fill
  refine L2.walk_of (l := PySem.Challenge.rw_folio_k35_needed_widths) (n := 63) (k := 6) (x := "script") (CX := fun _ => L2.CX0) (sp := fun w => My.sp_law _) rfl (by decide) rfl ⟨rfl, by decide, by decide⟩ (fun w h Y => PySem.W.kIn_of Y) ?F (fun _ _ a ns hl _ hS => Ly.law_sp hS True.intro (My.law_true ns hl)) (fun _ _ _ _ _ h => h)
  case F =>
    intro w mg fa h KX G hmg
    refine' My.all_mk KX G hmg ?aC_Measures ?pg_Measures ?hd_Measures ?po_Measures ?sa_Measures ?mkc_Measures ?kc_Measures ?nf_Measures_parts ?nf_Measures_count ?nf_Measures__widths ?nf_Measures__stretches ?nf_Measures__shrinks ?nf_Measures__ends ?nf_Measures__next_end ?nf_Measures__next_forced ?nf_Measures__next_solid ?nf_Measures__first_kept ?nf_Measures__kept_before ?a_is_blank ?l_is_blank ?c_is_blank ?k_is_blank ?a_width_of_item ?l_width_of_item ?c_width_of_item ?k_width_of_item ?a_stretch_of_item ?l_stretch_of_item ?c_stretch_of_item ?k_stretch_of_item ?a_shrink_of_item ?l_shrink_of_item ?c_shrink_of_item ?k_shrink_of_item ?a_is_line_end ?l_is_line_end ?c_is_line_end ?k_is_line_end ?a_sums_of ?l_sums_of ?c_sums_of ?k_sums_of ?a_first_from ?l_first_from ?c_first_from ?k_first_from ?a_Measures___init__ ?i_Measures___init__ ?l_Measures___init__ ?c_Measures___init__ ?k_Measures___init__ ?a_Measures_ends_behind ?i_Measures_ends_behind ?l_Measures_ends_behind ?c_Measures_ends_behind ?k_Measures_ends_behind ?a_Measures_bounds ?i_Measures_bounds ?l_Measures_bounds ?c_Measures_bounds ?k_Measures_bounds ?a_Measures_measure ?i_Measures_measure ?l_Measures_measure ?c_Measures_measure ?k_Measures_measure ?a_Measures_has_hyphen ?i_Measures_has_hyphen ?l_Measures_has_hyphen ?c_Measures_has_hyphen ?k_Measures_has_hyphen ?a_Measures_hyphen_width ?i_Measures_hyphen_width ?l_Measures_hyphen_width ?c_Measures_hyphen_width ?k_Measures_hyphen_width ?a_Measures_is_loose ?i_Measures_is_loose ?l_Measures_is_loose ?c_Measures_is_loose ?k_Measures_is_loose ?a_kept_before ?l_kept_before ?c_kept_before ?k_kept_before ?a_needs ?l_needs ?c_needs ?k_needs ?a_least_width ?l_least_width ?c_least_width ?k_least_width ?a_widest_width ?l_widest_width ?c_widest_width ?k_widest_width ?a_law_cell ?l_law_cell ?c_law_cell ?k_law_cell ?a_law_draws ?l_law_draws ?c_law_draws ?k_law_draws ?a_law_is_integer ?l_law_is_integer ?c_law_is_integer ?k_law_is_integer ?a_law_big ?l_law_big ?c_law_big ?k_law_big ?a_law_item ?l_law_item ?c_law_item ?k_law_item ?a_law_items ?l_law_items ?c_law_items ?k_law_items ?a_law_is_blank ?l_law_is_blank ?c_law_is_blank ?k_law_is_blank ?a_law_shown ?l_law_shown ?c_law_shown ?k_law_shown ?a_law_may_end ?l_law_may_end ?c_law_may_end ?k_law_may_end ?a_law_sums ?l_law_sums ?c_law_sums ?k_law_sums ?a_law_can_be_set ?l_law_can_be_set ?c_law_can_be_set ?k_law_can_be_set ?a_law ?l_law ?c_law ?k_law ?z_bool ?z_enumerate ?z_int ?z_isinstance ?z_len ?z_list ?z_max ?z_min ?z_range ?z_reversed ?z_tuple ?y_BLANK_KINDS ?q_BLANK_KINDS ?y_WIDE_KINDS ?q_WIDE_KINDS ?y_SOLID_KINDS ?q_SOLID_KINDS
    (case aC_Measures => k_is); (case pg_Measures => k_is); (case hd_Measures => k_is); (case po_Measures => k_is); (case sa_Measures => k_is); (case mkc_Measures => k_is); (case kc_Measures => k_is); (case nf_Measures_parts => k_is); (case nf_Measures_count => k_is); (case nf_Measures__widths => k_is); (case nf_Measures__stretches => k_is); (case nf_Measures__shrinks => k_is); (case nf_Measures__ends => k_is); (case nf_Measures__next_end => k_is); (case nf_Measures__next_forced => k_is); (case nf_Measures__next_solid => k_is); (case nf_Measures__first_kept => k_is); (case nf_Measures__kept_before => k_is); (case a_is_blank => k_is); (case l_is_blank => k_is); (case c_is_blank => k_is); (case k_is_blank => k_is); (case a_width_of_item => k_is); (case l_width_of_item => k_is); (case c_width_of_item => k_is); (case k_width_of_item => k_is); (case a_stretch_of_item => k_is); (case l_stretch_of_item => k_is); (case c_stretch_of_item => k_is); (case k_stretch_of_item => k_is); (case a_shrink_of_item => k_is); (case l_shrink_of_item => k_is); (case c_shrink_of_item => k_is); (case k_shrink_of_item => k_is); (case a_is_line_end => k_is); (case l_is_line_end => k_is); (case c_is_line_end => k_is); (case k_is_line_end => k_is); (case a_sums_of => k_is); (case l_sums_of => k_is); (case c_sums_of => k_is); (case k_sums_of => k_is); (case a_first_from => k_is); (case l_first_from => k_is); (case c_first_from => k_is); (case k_first_from => k_is); (case a_Measures___init__ => k_is); (case i_Measures___init__ => k_is); (case l_Measures___init__ => k_is); (case c_Measures___init__ => k_is); (case k_Measures___init__ => k_is); (case a_Measures_ends_behind => k_is); (case i_Measures_ends_behind => k_is); (case l_Measures_ends_behind => k_is); (case c_Measures_ends_behind => k_is); (case k_Measures_ends_behind => k_is); (case a_Measures_bounds => k_is); (case i_Measures_bounds => k_is); (case l_Measures_bounds => k_is); (case c_Measures_bounds => k_is); (case k_Measures_bounds => k_is); (case a_Measures_measure => k_is); (case i_Measures_measure => k_is); (case l_Measures_measure => k_is); (case c_Measures_measure => k_is); (case k_Measures_measure => k_is); (case a_Measures_has_hyphen => k_is); (case i_Measures_has_hyphen => k_is); (case l_Measures_has_hyphen => k_is); (case c_Measures_has_hyphen => k_is); (case k_Measures_has_hyphen => k_is); (case a_Measures_hyphen_width => k_is); (case i_Measures_hyphen_width => k_is); (case l_Measures_hyphen_width => k_is); (case c_Measures_hyphen_width => k_is); (case k_Measures_hyphen_width => k_is); (case a_Measures_is_loose => k_is); (case i_Measures_is_loose => k_is); (case l_Measures_is_loose => k_is); (case c_Measures_is_loose => k_is); (case k_Measures_is_loose => k_is); (case a_kept_before => k_is); (case l_kept_before => k_is); (case c_kept_before => k_is); (case k_kept_before => k_is); (case a_needs => k_is); (case l_needs => k_is); (case c_needs => k_is); (case k_needs => k_is); (case a_least_width => k_is); (case l_least_width => k_is); (case c_least_width => k_is); (case k_least_width => k_is); (case a_widest_width => k_is); (case l_widest_width => k_is); (case c_widest_width => k_is); (case k_widest_width => k_is); (case a_law_cell => k_is); (case l_law_cell => k_is); (case c_law_cell => k_is); (case k_law_cell => k_is); (case a_law_draws => k_is); (case l_law_draws => k_is); (case c_law_draws => k_is); (case k_law_draws => k_is); (case a_law_is_integer => k_is); (case l_law_is_integer => k_is); (case c_law_is_integer => k_is); (case k_law_is_integer => k_is); (case a_law_big => k_is); (case l_law_big => k_is); (case c_law_big => k_is); (case k_law_big => k_is); (case a_law_item => k_is); (case l_law_item => k_is); (case c_law_item => k_is); (case k_law_item => k_is); (case a_law_items => k_is); (case l_law_items => k_is); (case c_law_items => k_is); (case k_law_items => k_is); (case a_law_is_blank => k_is); (case l_law_is_blank => k_is); (case c_law_is_blank => k_is); (case k_law_is_blank => k_is); (case a_law_shown => k_is); (case l_law_shown => k_is); (case c_law_shown => k_is); (case k_law_shown => k_is); (case a_law_may_end => k_is); (case l_law_may_end => k_is); (case c_law_may_end => k_is); (case k_law_may_end => k_is); (case a_law_sums => k_is); (case l_law_sums => k_is); (case c_law_sums => k_is); (case k_law_sums => k_is); (case a_law_can_be_set => k_is); (case l_law_can_be_set => k_is); (case c_law_can_be_set => k_is); (case k_law_can_be_set => k_is); (case a_law => k_is); (case l_law => k_is); (case c_law => k_is); (case k_law => k_is); (case z_bool => k_is); (case z_enumerate => k_is); (case z_int => k_is); (case z_isinstance => k_is); (case z_len => k_is); (case z_list => k_is); (case z_max => k_is); (case z_min => k_is); (case z_range => k_is); (case z_reversed => k_is); (case z_tuple => k_is); (case y_BLANK_KINDS => k_is); (case q_BLANK_KINDS => k_is); (case y_WIDE_KINDS => k_is); (case q_WIDE_KINDS => k_is); (case y_SOLID_KINDS => k_is); (case q_SOLID_KINDS => k_is)
