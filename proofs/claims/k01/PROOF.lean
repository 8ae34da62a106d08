import PyProof.Rows.All
import Wide.All
import OpenK.AllK
import Wide.FinOn
import HandS.ForMost
import HandS.Evl
import HandS.IsInst
import HandS.EndBits
import HandS.Wide
import KE.DatumMoreOrd
import HandS.Walk
import HandS.StrMore
import PyProof.StrLawsFrom
import KE.IntTextLaws
import PyProof.Rows.RegStrFacts
import PyProof.Rows.StrCase
import HandS.Replace
import HandS.ReplaceLit
import HandS.ReplaceDef
import HandS.Words
import PyProof.Rows.StrStrike
import HandS.Dict
import HandS.DictComp
import HandS.More
import HandS.TupAny
import HandS.Star
import HandS.Zip
import HandS.RevRange
import HandS.Style
import HandS.MakeKwOnly
import HandS.Defaults
import KE.GoesZip
import KE.GoesEnum
import KE.GoesMore
import HandS.Nested
import HandS.ExcInit
import HandS.FStr
import HandS.WordsExc
import HandS.ExcIs
import HandS.ExcField
import HandS.ExcCtx
import HandS.HotCalls
import KE.KExcSuper
import KE.KExcIs
import PySem.Challenge.RW_folio_k01_rows_of_ways
set_option Elab.async false
set_option linter.all false
set_option maxRecDepth 100000
set_option maxHeartbeats 4000000
set_option Elab.async false
namespace Ly
open PySem PySem.Spec PyProof.Rows L2 Evl
open PySem.W (Datum DatumOrd Tup T3 T4)

/-! ### data that is held -/
/-- the data of this layer: plain ones, dicts with plain keys, objects by their fields -/
inductive Xd where
  | none
  | bool (b : Bool)
  | int (i : Int)
  | str (x : Str)
  | list (ds : List Xd)
  | tuple (ds : List Xd)
  | dict (ks : List Key) (ds : List Xd)
  | obj (c : Str) (ns : List Str) (ds : List Xd)
  | ptr (a : Addr)
  | exd (ns : List Str) (ds : List Xd)
mutual
inductive Xp (K : PySem.W.Frag) (H : Hp) : V → Xd → Prop
  | non : Xp K H .non .none
  | bl (b : Bool) : Xp K H (.bl b) (.bool b)
  | int (i : Int) : Xp K H (.int i) (.int i)
  | str (x : Str) : Xp K H (.str x) (.str x)
  | lst {a : Addr} {xs : List V} {ds : List Xd} : SqL K H a xs → XpAll K H xs ds → Xp K H (.ref a) (.list ds)
  | tup {a : Addr} {xs : List V} {ds : List Xd} : SqT K H a xs → XpAll K H xs ds → Xp K H (.ref a) (.tuple ds)
  | dic {a : Addr} {kvs : List (Key × V)} {vs : List V} {ks : List Key} {ds : List Xd} : Rd H a (.dK kvs) → kvs.map (·.1) = ks → kvs.map (·.2) = vs → XpAll K H vs ds → Xp K H (.ref a) (.dict ks ds)
  | obj {a C dx : Addr} {fs : List (Str × V)} {c : Str} {vs : List V} {ns : List Str} {ds : List Xd} : PySem.W.nsIn K mainGlobals c = some (some (.ref C)) → H a = some (.ins C dx fs) → fs.map (·.1) = ns → fs.map (·.2) = vs → XpAll K H vs ds → Xp K H (.ref a) (.obj c ns ds)
  | ptr (a : Addr) : Xp K H (.ref a) (.ptr a)
  | exd {a : Addr} {fs : List (Str × V)} {vs : List V} {ns : List Str} {ds : List Xd} : H a = some (.xd fs) → fs.map (·.1) = ns → fs.map (·.2) = vs → XpAll K H vs ds → Xp K H (.ref a) (.exd ns ds)
inductive XpAll (K : PySem.W.Frag) (H : Hp) : List V → List Xd → Prop
  | nil : XpAll K H [] []
  | cons {v : V} {vs : List V} {d : Xd} {ds : List Xd} : Xp K H v d → XpAll K H vs ds → XpAll K H (v :: vs) (d :: ds)
end
theorem ex_rd {H H' : Hp} (e : Ex H H') {a : Addr} {u : HO} (h : Rd H a u) : Rd H' a u := by
  rcases h with h | ⟨o, h⟩
  · exact .inl (e _ _ h)
  · exact .inr ⟨o, e _ _ h⟩
mutual
theorem dp_mono {K : PySem.W.Frag} {H H' : Hp} (e : Ex H H') : ∀ {v : V} {d : Xd}, Xp K H v d → Xp K H' v d
  | _, _, .non => .non
  | _, _, .bl b => .bl b
  | _, _, .int i => .int i
  | _, _, .str x => .str x
  | _, _, .lst h a => .lst (ex_l e h) (dpa_mono e a)
  | _, _, .tup h a => .tup (ex_t e h) (dpa_mono e a)
  | _, _, .dic h k v a => .dic (ex_rd e h) k v (dpa_mono e a)
  | _, _, .obj c h k v a => .obj c (e _ _ h) k v (dpa_mono e a)
  | _, _, .ptr a => .ptr a
  | _, _, .exd h k v a => .exd (e _ _ h) k v (dpa_mono e a)
theorem dpa_mono {K : PySem.W.Frag} {H H' : Hp} (e : Ex H H') : ∀ {vs : List V} {ds : List Xd}, XpAll K H vs ds → XpAll K H' vs ds
  | _, _, .nil => .nil
  | _, _, .cons a b => .cons (dp_mono e a) (dpa_mono e b)
end
/-- a Lean type whose things are data -/
class Dx (α : Type) [DecidableEq α] where
  toX : α → Xd
section
variable {α β γ δ : Type} [DecidableEq α] [Dx α] [DecidableEq β] [Dx β] [DecidableEq γ] [Dx γ] [DecidableEq δ] [Dx δ]
instance : Dx Int := ⟨.int⟩
instance : Dx Bool := ⟨.bool⟩
instance : Dx Str := ⟨.str⟩
instance : Dx Unit := ⟨fun _ => .none⟩
instance : Dx (List α) := ⟨fun xs => .list (xs.map Dx.toX)⟩
instance : Dx (Tup α) := ⟨fun xs => .tuple (xs.items.map Dx.toX)⟩
instance : Dx (α × β) := ⟨fun p => .tuple [Dx.toX p.1, Dx.toX p.2]⟩
instance : Dx (T3 α β γ) := ⟨fun p => .tuple [Dx.toX p.a, Dx.toX p.b, Dx.toX p.c]⟩
instance : Dx (T4 α β γ δ) := ⟨fun p => .tuple [Dx.toX p.a, Dx.toX p.b, Dx.toX p.c, Dx.toX p.d]⟩
instance : Dx (Option α) := ⟨fun p => match p with | none => .none | some x => Dx.toX x⟩
/-- no None among them -/
class SomeX (α : Type) [DecidableEq α] [Dx α] : Prop where
  some : ∀ x : α, Dx.toX x ≠ Xd.none
instance : SomeX Int := ⟨fun _ e => by cases e⟩
instance : SomeX Bool := ⟨fun _ e => by cases e⟩
instance : SomeX Str := ⟨fun _ e => by cases e⟩
instance : SomeX (List α) := ⟨fun _ e => by cases e⟩
instance : SomeX (Tup α) := ⟨fun _ e => by cases e⟩
instance : SomeX (α × β) := ⟨fun _ e => by cases e⟩
instance : SomeX (T3 α β γ) := ⟨fun _ e => by cases e⟩
instance : SomeX (T4 α β γ δ) := ⟨fun _ e => by cases e⟩
end
/-- data of the library's own kind: what == and < lean on -/
class DxD (α : Type) [DecidableEq α] [Dx α] [Datum α] : Prop where
  link : ∀ {K : PySem.W.Frag} {H : Hp} {v : V} {x : α}, Xp K H v (Dx.toX x) → Dp K H v (Datum.toD x)
section
variable {α β γ δ : Type} [DecidableEq α] [Dx α] [Datum α] [DxD α] [DecidableEq β] [Dx β] [Datum β] [DxD β] [DecidableEq γ] [Dx γ] [Datum γ] [DxD γ] [DecidableEq δ] [Dx δ] [Datum δ] [DxD δ]
theorem link_all {K : PySem.W.Frag} {H : Hp} : ∀ {xs : List α} {vs : List V}, XpAll K H vs (xs.map Dx.toX) → DpAll K H vs (xs.map Datum.toD)
  | [], _, h => by cases h; exact .nil
  | x :: xs, _, h => by
    cases h with
    | cons a b => exact .cons (DxD.link a) (link_all b)
instance : DxD Int := ⟨fun h => by cases h; exact .int _⟩
instance : DxD Bool := ⟨fun h => by cases h; exact .bl _⟩
instance : DxD Str := ⟨fun h => by cases h; exact .str _⟩
instance : DxD (List α) := ⟨fun h => by cases h with | lst s a => exact .lst s (link_all a)⟩
instance : DxD (Tup α) := ⟨fun h => by cases h with | tup s a => exact .tup s (link_all a)⟩
instance : DxD (α × β) := ⟨fun h => by
  cases h with
  | tup s a =>
    cases a with
    | cons a1 a =>
      cases a with
      | cons a2 a =>
        cases a
        exact .tup s (.cons (DxD.link a1) (.cons (DxD.link a2) .nil))⟩
instance : DxD (T3 α β γ) := ⟨fun h => by
  cases h with
  | tup s a =>
    cases a with
    | cons a1 a =>
      cases a with
      | cons a2 a =>
        cases a with
        | cons a3 a =>
          cases a
          exact .tup s (.cons (DxD.link a1) (.cons (DxD.link a2) (.cons (DxD.link a3) .nil)))⟩
instance : DxD (T4 α β γ δ) := ⟨fun h => by
  cases h with
  | tup s a =>
    cases a with
    | cons a1 a =>
      cases a with
      | cons a2 a =>
        cases a with
        | cons a3 a =>
          cases a with
          | cons a4 a =>
            cases a
            exact .tup s (.cons (DxD.link a1) (.cons (DxD.link a2) (.cons (DxD.link a3) (.cons (DxD.link a4) .nil))))⟩
end
/-! ### masks -/
theorem dpa_len {K : PySem.W.Frag} {H : Hp} : ∀ {vs : List V} {ds : List Xd}, XpAll K H vs ds → vs.length = ds.length
  | _, _, .nil => rfl
  | _, _, .cons _ b => by rw [List.length_cons, List.length_cons, dpa_len b]
theorem dpa_at {K : PySem.W.Frag} {H : Hp} : ∀ {vs : List V} {ds : List Xd} {i : Nat} {d : Xd}, XpAll K H vs ds → ds[i]? = some d → ∃ v, vs[i]? = some v ∧ Xp K H v d
  | _, _, i, d, .nil, e => by simp at e
  | _, _, 0, d, .cons a b, e => by simp at e; subst e; exact ⟨_, rfl, a⟩
  | _, _, i + 1, d, .cons a b, e => by
    obtain ⟨v, h1, h2⟩ := dpa_at (i := i) (d := d) b (by simpa using e)
    exact ⟨v, by simpa using h1, h2⟩
theorem dpa_app {K : PySem.W.Frag} {H : Hp} : ∀ {vs ws : List V} {ds es : List Xd}, XpAll K H vs ds → XpAll K H ws es → XpAll K H (vs ++ ws) (ds ++ es)
  | _, _, _, _, .nil, h => h
  | _, _, _, _, .cons a b, h => .cons a (dpa_app b h)

variable {K : PySem.W.Frag}
/-- v holds x -/
def Dt {α : Type} [DecidableEq α] [Dx α] (K : PySem.W.Frag) (H : Hp) (v : V) (x : α) : Prop := Xp K H v (Dx.toX x)
def Dts {α : Type} [DecidableEq α] [Dx α] (K : PySem.W.Frag) (H : Hp) (vs : List V) (xs : List α) : Prop := XpAll K H vs (xs.map Dx.toX)
/-- the heap without the objects of M -/
def msk (M : List Addr) (H : Hp) : Hp := fun a => if a ∈ M then none else H a
def MOk (M : List Addr) (H : Hp) : Prop := ∀ l ∈ M, H l ≠ none
section
variable {α : Type} [DecidableEq α] [Dx α] {H H1 H2 : Hp} {M N : List Addr} {v : V} {x : α}
theorem msk_in {a : Addr} (h : a ∈ M) : msk M H a = none := by unfold msk; rw [if_pos h]
theorem msk_out {a : Addr} (h : a ∉ M) : msk M H a = H a := by unfold msk; rw [if_neg h]
theorem msk_nil : msk [] H = H := by funext a; unfold msk; simp
theorem msk_ex (e : Ex H H1) : Ex (msk M H) (msk M H1) := fun a o h => by
  by_cases q : a ∈ M
  · rw [msk_in q] at h; cases h
  · rw [msk_out q] at h ⊢; exact e a o h
theorem msk_le : Ex (msk M H) H := fun a o h => by
  by_cases q : a ∈ M
  · rw [msk_in q] at h; cases h
  · rw [msk_out q] at h; exact h
theorem msk_sub (s : ∀ a ∈ N, a ∈ M) : Ex (msk M H) (msk N H) := fun a o h => by
  by_cases q : a ∈ M
  · rw [msk_in q] at h; cases h
  · rw [msk_out q] at h
    rw [msk_out fun z => q (s a z)]
    exact h
theorem msk_upd {l : Addr} {o : HO} (h : l ∈ M) : msk M (upd H l o) = msk M H := by
  funext a
  by_cases q : a ∈ M
  · rw [msk_in q, msk_in q]
  · rw [msk_out q, msk_out q, upd_ne (fun z => q (by rw [z]; exact h))]
theorem msk_new {p : Addr} {o : HO} (h : H p = none) : Ex (msk M H) (msk (p :: M) (upd H p o)) := fun a u e => by
  by_cases q : a ∈ M
  · rw [msk_in q] at e; cases e
  · rw [msk_out q] at e
    have n : a ≠ p := ne_of_none e h
    rw [msk_out (by simp [n, q]), upd_ne n]
    exact e
theorem MOk.ex (e : Ex H H1) (m : MOk M H) : MOk M H1 := fun l hl z => by
  have := m l hl
  cases q : H l with
  | none => exact this q
  | some o => rw [e l o q] at z; cases z
theorem MOk.nin {p : Addr} (m : MOk M H) (h : H p = none) : p ∉ M := fun z => m p z h
theorem msk_at {p : Addr} {o : HO} (m : MOk M H) (h : H p = none) : msk M (upd H p o) p = some o := by
  rw [msk_out (m.nin h), upd_same]
theorem Dt.mono (e : Ex H H1) (h : Dt K H v x) : Dt K H1 v x := dp_mono e h
theorem Dts.mono {vs : List V} {xs : List α} (e : Ex H H1) (h : Dts K H vs xs) : Dts K H1 vs xs := dpa_mono e h
theorem Dts.len {vs : List V} {xs : List α} (h : Dts K H vs xs) : vs.length = xs.length := by
  have := dpa_len h
  rwa [List.length_map] at this
theorem Dts.nil : Dts K H [] ([] : List α) := XpAll.nil
theorem Dts.cons {vs : List V} {xs : List α} (a : Dt K H v x) (b : Dts K H vs xs) : Dts K H (v :: vs) (x :: xs) := XpAll.cons a b
theorem Dts.app {vs ws : List V} {xs ys : List α} (a : Dts K H vs xs) (b : Dts K H ws ys) : Dts K H (vs ++ ws) (xs ++ ys) := by
  unfold Dts
  rw [List.map_append]
  exact dpa_app a b
theorem Dts.snoc {vs : List V} {xs : List α} (b : Dts K H vs xs) (a : Dt K H v x) : Dts K H (vs ++ [v]) (xs ++ [x]) := b.app (XpAll.cons a XpAll.nil)
theorem Dts.at {vs : List V} {xs : List α} {i : Nat} {x : α} (h : Dts K H vs xs) (e : xs[i]? = some x) : ∃ v, vs[i]? = some v ∧ Dt K H v x :=
  dpa_at h (by rw [List.getElem?_map, e]; rfl)
theorem Dt.int {i : Int} (h : Dt K H v i) : v = .int i := by
  cases (show Xp K H v (.int i) from h); rfl
theorem Dt.ofInt (i : Int) : Dt K H (.int i) i := Xp.int i
theorem Dt.bool {i : Bool} (h : Dt K H v i) : v = .bl i := by
  cases (show Xp K H v (.bool i) from h); rfl
theorem Dt.ofBool (i : Bool) : Dt K H (.bl i) i := Xp.bl i
theorem Dt.str {i : Str} (h : Dt K H v i) : v = .str i := by
  cases (show Xp K H v (.str i) from h); rfl
theorem Dt.ofStr (i : Str) : Dt K H (.str i) i := Xp.str i
theorem Dt.unit {i : Unit} (h : Dt K H v i) : v = .non := by
  cases (show Xp K H v .none from h); rfl
theorem Dt.list {xs : List α} (h : Dt K H v xs) : ∃ a vs, v = .ref a ∧ SqL K H a vs ∧ Dts K H vs xs := by
  cases (show Xp K H v (.list _) from h) with
  | lst a b => exact ⟨_, _, rfl, a, b⟩
theorem Dt.ofList {a : Addr} {vs : List V} {xs : List α} (h : SqL K H a vs) (d : Dts K H vs xs) : Dt K H (.ref a) xs := Xp.lst h d
theorem Dt.tupv {xs : Tup α} (h : Dt K H v xs) : ∃ a vs, v = .ref a ∧ SqT K H a vs ∧ Dts K H vs xs.items := by
  cases (show Xp K H v (.tuple _) from h) with
  | tup a b => exact ⟨_, _, rfl, a, b⟩
theorem Dt.ofTupv {a : Addr} {vs : List V} {xs : Tup α} (h : SqT K H a vs) (d : Dts K H vs xs.items) : Dt K H (.ref a) xs := Xp.tup h d
end
section
variable {α β γ δ : Type} [DecidableEq α] [Dx α] [DecidableEq β] [Dx β] [DecidableEq γ] [Dx γ] [DecidableEq δ] [Dx δ] {H H1 H2 : Hp} {v : V}
theorem Dt.pair {p : α × β} (h : Dt K H v p) : ∃ l a b, v = .ref l ∧ SqT K H l [a, b] ∧ Dt K H a p.1 ∧ Dt K H b p.2 := by
  cases (show Xp K H v (.tuple [_, _]) from h) with
  | tup s b =>
    cases b with
    | cons b1 b =>
      cases b with
      | cons b2 b =>
        cases b
        exact ⟨_, _, _, rfl, s, b1, b2⟩
theorem Dt.ofPair {l : Addr} {a b : V} {x : α} {y : β} (s : SqT K H l [a, b]) (ha : Dt K H a x) (hb : Dt K H b y) : Dt K H (.ref l) (x, y) := Xp.tup s (.cons ha (.cons hb .nil))
theorem Dt.t3 {p : T3 α β γ} (h : Dt K H v p) : ∃ l a b c, v = .ref l ∧ SqT K H l [a, b, c] ∧ Dt K H a p.a ∧ Dt K H b p.b ∧ Dt K H c p.c := by
  cases (show Xp K H v (.tuple [_, _, _]) from h) with
  | tup s b =>
    cases b with
    | cons b1 b =>
      cases b with
      | cons b2 b =>
        cases b with
        | cons b3 b =>
          cases b
          exact ⟨_, _, _, _, rfl, s, b1, b2, b3⟩
theorem Dt.ofT3 {l : Addr} {a b c : V} {x : α} {y : β} {z : γ} (s : SqT K H l [a, b, c]) (ha : Dt K H a x) (hb : Dt K H b y) (hc : Dt K H c z) : Dt K H (.ref l) (T3.mk x y z) := Xp.tup s (.cons ha (.cons hb (.cons hc .nil)))
theorem Dt.t4 {p : T4 α β γ δ} (h : Dt K H v p) : ∃ l a b c d, v = .ref l ∧ SqT K H l [a, b, c, d] ∧ Dt K H a p.a ∧ Dt K H b p.b ∧ Dt K H c p.c ∧ Dt K H d p.d := by
  cases (show Xp K H v (.tuple [_, _, _, _]) from h) with
  | tup s b =>
    cases b with
    | cons b1 b =>
      cases b with
      | cons b2 b =>
        cases b with
        | cons b3 b =>
          cases b with
          | cons b4 b =>
            cases b
            exact ⟨_, _, _, _, _, rfl, s, b1, b2, b3, b4⟩
theorem Dt.ofT4 {l : Addr} {a b c d : V} {x : α} {y : β} {z : γ} {u : δ} (s : SqT K H l [a, b, c, d]) (ha : Dt K H a x) (hb : Dt K H b y) (hc : Dt K H c z) (hd : Dt K H d u) : Dt K H (.ref l) (T4.mk x y z u) := Xp.tup s (.cons ha (.cons hb (.cons hc (.cons hd .nil))))
end
end Ly

namespace Ly
open PySem PySem.Spec PyProof.Rows L2 Evl
open PySem.W (Datum DatumOrd Tup T3 T4)

/-! ### what an expression gives -/
section
variable {K : PySem.W.Frag} {M : List Addr} {σ : L2.St} {H H' : Hp} {te ta tb tc td : TE} {tt tu : TT}
variable {α β γ δ ε : Type} [DecidableEq α] [Dx α] [DecidableEq β] [Dx β] [DecidableEq γ] [Dx γ] [DecidableEq δ] [Dx δ] [DecidableEq ε] [Dx ε]

def Hv (K : PySem.W.Frag) (M : List Addr) (te : TE) (σ : L2.St) (H : Hp) (x : α) : Prop :=
  ∀ H1, Ex H H1 → MOk M H1 → ∀ Q : VK, (∀ v H2, Ex H1 H2 → Dt K (msk M H2) v x → Q v H2) → te σ H1 Q
def HT (M : List Addr) (tt : TT) (σ : L2.St) (H : Hp) (b : Bool) : Prop :=
  ∀ H1, Ex H H1 → MOk M H1 → ∀ Q : Bool → Hp → Prop, (∀ H2, Ex H1 H2 → Q b H2) → tt σ H1 Q
/-- arguments: P of their values -/
def HA (M : List Addr) (ta : TA) (σ : L2.St) (H : Hp) (P : List V → Hp → Prop) : Prop :=
  ∀ H1, Ex H H1 → MOk M H1 → ∀ Q : List V → Hp → Prop, (∀ vs H2, Ex H1 H2 → P vs H2 → Q vs H2) → ta σ H1 Q
theorem Hv.mono {x : α} (e : Ex H H') (h : Hv K M te σ H x) : Hv K M te σ H' x := fun H1 a m Q q => h H1 (e.trans a) m Q q
theorem HT.mono {b : Bool} (e : Ex H H') (h : HT M tt σ H b) : HT M tt σ H' b := fun H1 a m Q q => h H1 (e.trans a) m Q q
theorem Hv.is {x y : α} (h : Hv K M te σ H x) (e : x = y) : Hv K M te σ H y := by rw [← e]; exact h
theorem HT.is {x y : Bool} (h : HT M tt σ H x) (e : x = y) : HT M tt σ H y := by rw [← e]; exact h
/-- a value that is told -/
theorem hv_ev {v : V} {x : α} (h : Ev te σ H v) (d : Dt K (msk M H) v x) : Hv K M te σ H x := fun H1 e m Q q =>
  h H1 e Q fun H2 e2 => q v H2 e2 (d.mono (msk_ex (e.trans e2)))
theorem hv_evI {x : Int} (h : Ev te σ H (.int x)) : Hv K M te σ H x := hv_ev h (Dt.ofInt x)
theorem hv_evB {x : Bool} (h : Ev te σ H (.bl x)) : Hv K M te σ H x := hv_ev h (Dt.ofBool x)
theorem hv_evS {x : Str} (h : Ev te σ H (.str x)) : Hv K M te σ H x := hv_ev h (Dt.ofStr x)
theorem ev_hvI {x : Int} (h : Hv K M te σ H x) (m : MOk M H) : Ev te σ H (.int x) := fun H1 e Q q =>
  h H1 e (m.ex e) Q fun v H2 e2 d => by rw [d.int]; exact q H2 e2
theorem ev_hvB {x : Bool} (h : Hv K M te σ H x) (m : MOk M H) : Ev te σ H (.bl x) := fun H1 e Q q =>
  h H1 e (m.ex e) Q fun v H2 e2 d => by rw [d.bool]; exact q H2 e2
theorem ev_hvS {x : Str} (h : Hv K M te σ H x) (m : MOk M H) : Ev te σ H (.str x) := fun H1 e Q q =>
  h H1 e (m.ex e) Q fun v H2 e2 d => by rw [d.str]; exact q H2 e2
theorem hv_var {i : Nat} {v : V} {x : α} (h : σ[i]? = some (some v)) (d : Dt K (msk M H) v x) : Hv K M (tVar i) σ H x := hv_ev (ev_var h) d
theorem hv_vI {i : Nat} {x : Int} (h : σ[i]? = some (some (.int x))) : Hv K M (tVar i) σ H x := hv_evI (ev_var h)
theorem hv_vB {i : Nat} {x : Bool} (h : σ[i]? = some (some (.bl x))) : Hv K M (tVar i) σ H x := hv_evB (ev_var h)
theorem hv_vS {i : Nat} {x : Str} (h : σ[i]? = some (some (.str x))) : Hv K M (tVar i) σ H x := hv_evS (ev_var h)
theorem hv_int (n : Int) : Hv K M (tC (.int n)) σ H n := hv_evI ev_c
theorem hv_bl (n : Bool) : Hv K M (tC (.bl n)) σ H n := hv_evB ev_c
theorem hv_str (n : Str) : Hv K M (tC (.str n)) σ H n := hv_evS ev_c
theorem hv_none : Hv K M (tC .non) σ H (none : Option α) := hv_ev ev_c Xp.non
theorem hv_some {x : α} (h : Hv K M te σ H x) : Hv K M te σ H (some x) := fun H1 e m Q q => h H1 e m Q fun v H2 e2 d => q v H2 e2 d

/-! ### whole numbers -/
theorem hv_op0 {g : Int → Int → Int} {i j : Int} (ha : Hv K M ta σ H i) (hb : Hv K M tb σ H j) : Hv K M (tOp (rI0 fun i j => .int (g i j)) ta tb) σ H (g i j) := fun H1 e m Q q =>
  ha H1 e m _ fun v H2 e2 d => hb H2 (e.trans e2) (m.ex e2) _ fun u H3 e3 d' => ⟨i, j, d.int, d'.int, q _ H3 (e2.trans e3) (Dt.ofInt _)⟩
theorem hv_opC {C : Int → Int → Prop} {g : Int → Int → Int} {i j : Int} (ha : Hv K M ta σ H i) (hb : Hv K M tb σ H j) (c : C i j) : Hv K M (tOp (rI C fun i j => .int (g i j)) ta tb) σ H (g i j) := fun H1 e m Q q =>
  ha H1 e m _ fun v H2 e2 d => hb H2 (e.trans e2) (m.ex e2) _ fun u H3 e3 d' => ⟨i, j, d.int, d'.int, c, q _ H3 (e2.trans e3) (Dt.ofInt _)⟩
theorem hv_cmp0 {g : Int → Int → Bool} {i j : Int} (ha : Hv K M ta σ H i) (hb : Hv K M tb σ H j) : Hv K M (tOp (rI0 fun i j => .bl (g i j)) ta tb) σ H (g i j) := fun H1 e m Q q =>
  ha H1 e m _ fun v H2 e2 d => hb H2 (e.trans e2) (m.ex e2) _ fun u H3 e3 d' => ⟨i, j, d.int, d'.int, q _ H3 (e2.trans e3) (Dt.ofBool _)⟩
theorem hv_neg {i : Int} (ha : Hv K M ta σ H i) : Hv K M (tUn (rU fun i => .int (-i)) ta) σ H (-i) := fun H1 e m Q q =>
  ha H1 e m _ fun v H2 e2 d => ⟨i, d.int, q _ H2 e2 (Dt.ofInt _)⟩
theorem hv_lt {i j : Int} (ha : Hv K M ta σ H i) (hb : Hv K M tb σ H j) : Hv K M (tOp (rI0 fun i j => .bl (decide (i < j))) ta tb) σ H (decide (i < j)) := hv_cmp0 (g := fun i j => decide (i < j)) ha hb
theorem hv_le {i j : Int} (ha : Hv K M ta σ H i) (hb : Hv K M tb σ H j) : Hv K M (tOp (rI0 fun i j => .bl (decide (i ≤ j))) ta tb) σ H (decide (i ≤ j)) := hv_cmp0 (g := fun i j => decide (i ≤ j)) ha hb
theorem hv_gt {i j : Int} (ha : Hv K M ta σ H i) (hb : Hv K M tb σ H j) : Hv K M (tOp (rI0 fun i j => .bl (decide (j < i))) ta tb) σ H (decide (j < i)) := hv_cmp0 (g := fun i j => decide (j < i)) ha hb
theorem hv_ge {i j : Int} (ha : Hv K M ta σ H i) (hb : Hv K M tb σ H j) : Hv K M (tOp (rI0 fun i j => .bl (decide (j ≤ i))) ta tb) σ H (decide (j ≤ i)) := hv_cmp0 (g := fun i j => decide (j ≤ i)) ha hb
theorem hv_add {i j : Int} (ha : Hv K M ta σ H i) (hb : Hv K M tb σ H j) : Hv K M (tOp (rI0 fun i j => .int (i + j)) ta tb) σ H (i + j) := hv_op0 (g := fun i j => i + j) ha hb
theorem hv_sub {i j : Int} (ha : Hv K M ta σ H i) (hb : Hv K M tb σ H j) : Hv K M (tOp (rI0 fun i j => .int (i - j)) ta tb) σ H (i - j) := hv_op0 (g := fun i j => i - j) ha hb
theorem hv_mul {i j : Int} (ha : Hv K M ta σ H i) (hb : Hv K M tb σ H j) (c : CMul i j) : Hv K M (tOp (rI CMul fun i j => .int (i * j)) ta tb) σ H (i * j) := hv_opC (g := fun i j => i * j) ha hb c
theorem hv_mod {i j : Int} (ha : Hv K M ta σ H i) (hb : Hv K M tb σ H j) (c : 0 < j) : Hv K M (tOp (rI (fun _ j => 0 < j) fun i j => .int (i % j)) ta tb) σ H (i % j) := hv_opC (C := fun _ j => 0 < j) (g := fun i j => i % j) ha hb c
theorem hv_div {i j : Int} (ha : Hv K M ta σ H i) (hb : Hv K M tb σ H j) (c : CDivW i j) : Hv K M (tOp (rI CDivW fun i j => .int (i / j)) ta tb) σ H (i / j) := hv_opC (g := fun i j => i / j) ha hb c
theorem hv_pow {i j : Int} (ha : Hv K M ta σ H i) (hb : Hv K M tb σ H j) (c : CPow i j) : Hv K M (tOp (rI CPow fun i j => .int (i ^ j.toNat)) ta tb) σ H (i ^ j.toNat) := hv_opC (g := fun i j => i ^ j.toNat) ha hb c
theorem hv_eqI {i j : Int} (ha : Hv K M ta σ H i) (hb : Hv K M tb σ H j) : Hv K M (tOp rEq ta tb) σ H (decide (i = j)) := fun H1 e m Q q =>
  ha H1 e m _ fun v H2 e2 d => hb H2 (e.trans e2) (m.ex e2) _ fun u H3 e3 d' => by
    rw [d.int, d'.int]
    exact ⟨rfl, q _ H3 (e2.trans e3) (by rw [show decide (V.int i = V.int j) = decide (i = j) from decide_eq_decide.mpr ⟨V.int.inj, fun z => by rw [z]⟩]; exact Dt.ofBool _)⟩
theorem hv_neI {i j : Int} (ha : Hv K M ta σ H i) (hb : Hv K M tb σ H j) : Hv K M (tOp rNe ta tb) σ H (!decide (i = j)) := fun H1 e m Q q =>
  ha H1 e m _ fun v H2 e2 d => hb H2 (e.trans e2) (m.ex e2) _ fun u H3 e3 d' => by
    rw [d.int, d'.int]
    exact ⟨rfl, q _ H3 (e2.trans e3) (by rw [show decide (V.int i = V.int j) = decide (i = j) from decide_eq_decide.mpr ⟨V.int.inj, fun z => by rw [z]⟩]; exact Dt.ofBool _)⟩
theorem hv_eqS {i j : Str} (ha : Hv K M ta σ H i) (hb : Hv K M tb σ H j) : Hv K M (tOp rEq ta tb) σ H (decide (i = j)) := fun H1 e m Q q =>
  ha H1 e m _ fun v H2 e2 d => hb H2 (e.trans e2) (m.ex e2) _ fun u H3 e3 d' => by
    rw [d.str, d'.str]
    exact ⟨rfl, q _ H3 (e2.trans e3) (by rw [show decide (V.str i = V.str j) = decide (i = j) from decide_eq_decide.mpr ⟨V.str.inj, fun z => by rw [z]⟩]; exact Dt.ofBool _)⟩
theorem hv_neS {i j : Str} (ha : Hv K M ta σ H i) (hb : Hv K M tb σ H j) : Hv K M (tOp rNe ta tb) σ H (!decide (i = j)) := fun H1 e m Q q =>
  ha H1 e m _ fun v H2 e2 d => hb H2 (e.trans e2) (m.ex e2) _ fun u H3 e3 d' => by
    rw [d.str, d'.str]
    exact ⟨rfl, q _ H3 (e2.trans e3) (by rw [show decide (V.str i = V.str j) = decide (i = j) from decide_eq_decide.mpr ⟨V.str.inj, fun z => by rw [z]⟩]; exact Dt.ofBool _)⟩
theorem hv_eqB {i j : Bool} (ha : Hv K M ta σ H i) (hb : Hv K M tb σ H j) : Hv K M (tOp rEq ta tb) σ H (decide (i = j)) := fun H1 e m Q q =>
  ha H1 e m _ fun v H2 e2 d => hb H2 (e.trans e2) (m.ex e2) _ fun u H3 e3 d' => by
    rw [d.bool, d'.bool]
    exact ⟨rfl, q _ H3 (e2.trans e3) (by rw [show decide (V.bl i = V.bl j) = decide (i = j) from decide_eq_decide.mpr ⟨V.bl.inj, fun z => by rw [z]⟩]; exact Dt.ofBool _)⟩

/-! ### tests -/
theorem ht_val {b : Bool} (h : Hv K M te σ H b) : HT M (tTest te) σ H b := fun H1 e m Q q => h H1 e m _ fun v H2 e2 d => ⟨b, d.bool, q H2 e2⟩
theorem ht_B {b : Bool} (h : Hv K M te σ H b) : HT M (tB te) σ H b := fun H1 e m Q q => h H1 e m _ fun v H2 e2 d => ⟨b, d.bool, q H2 e2⟩
theorem ht_and {a b : Bool} (h1 : HT M tt σ H a) (h2 : a = true → HT M tu σ H b) : HT M (tAnd tt tu) σ H (a && b) := fun H1 e m Q q => h1 H1 e m _ fun H2 e2 => by
  cases a with
  | true =>
    show tu σ H2 Q
    exact h2 rfl H2 (e.trans e2) (m.ex e2) Q fun H3 e3 => q H3 (e2.trans e3)
  | false =>
    show Q false H2
    exact q H2 e2
theorem ht_or {a b : Bool} (h1 : HT M tt σ H a) (h2 : a = false → HT M tu σ H b) : HT M (tOr tt tu) σ H (a || b) := fun H1 e m Q q => h1 H1 e m _ fun H2 e2 => by
  cases a with
  | true =>
    show Q true H2
    exact q H2 e2
  | false =>
    show tu σ H2 Q
    exact h2 rfl H2 (e.trans e2) (m.ex e2) Q fun H3 e3 => q H3 (e2.trans e3)
theorem ht_not {a : Bool} (h1 : HT M tt σ H a) : HT M (tNot tt) σ H (!a) := fun H1 e m _ q => h1 H1 e m _ fun H2 e2 => q H2 e2
theorem hv_and {a b : Bool} (h1 : Hv K M ta σ H a) (h2 : a = true → Hv K M tb σ H b) : Hv K M (tAndV ta tb) σ H (a && b) := fun H1 e m Q q => h1 H1 e m _ fun v H2 e2 d => ⟨a, d.bool, by
  cases a with
  | true =>
    show tb σ H2 Q
    exact h2 rfl H2 (e.trans e2) (m.ex e2) Q fun v H3 e3 => q v H3 (e2.trans e3)
  | false =>
    show Q (.bl false) H2
    exact q _ H2 e2 (Dt.ofBool _)⟩
theorem hv_or {a b : Bool} (h1 : Hv K M ta σ H a) (h2 : a = false → Hv K M tb σ H b) : Hv K M (tOrV ta tb) σ H (a || b) := fun H1 e m Q q => h1 H1 e m _ fun v H2 e2 d => ⟨a, d.bool, by
  cases a with
  | true =>
    show Q (.bl true) H2
    exact q _ H2 e2 (Dt.ofBool _)
  | false =>
    show tb σ H2 Q
    exact h2 rfl H2 (e.trans e2) (m.ex e2) Q fun v H3 e3 => q v H3 (e2.trans e3)⟩
theorem hv_not {a : Bool} (h1 : Hv K M ta σ H a) : Hv K M (tNotV ta) σ H (!a) := fun H1 e m _ q => h1 H1 e m _ fun v H2 e2 d => ⟨a, d.bool, q _ H2 e2 (Dt.ofBool _)⟩
theorem hv_ite {b : Bool} {x y : α} (h : HT M tt σ H b) (h1 : b = true → Hv K M ta σ H x) (h2 : b = false → Hv K M tb σ H y) : Hv K M (tIf tt ta tb) σ H (if b = true then x else y) := fun H1 e m Q q => h H1 e m _ fun H2 e2 => by
  cases b with
  | true =>
    show ta σ H2 Q
    exact h1 rfl H2 (e.trans e2) (m.ex e2) Q fun v H3 e3 => q v H3 (e2.trans e3)
  | false =>
    show tb σ H2 Q
    exact h2 rfl H2 (e.trans e2) (m.ex e2) Q fun v H3 e3 => q v H3 (e2.trans e3)

/-! ### tuples and lists that are written -/
theorem ha_nil : HA M tNil σ H (fun vs _ => vs = []) := fun H1 e m Q q => q [] H1 (Ex.refl H1) rfl
theorem ha_cons {tr : TA} {x : α} {P : List V → Hp → Prop} (h : Hv K M te σ H x) (hr : HA M tr σ H P) : HA M (tCons te tr) σ H (fun vs H => ∃ v r, vs = v :: r ∧ Dt K (msk M H) v x ∧ P r H) := fun H1 e m Q q =>
  h H1 e m _ fun v H2 e2 d => hr H2 (e.trans e2) (m.ex e2) _ fun vs H3 e3 p => q _ H3 (e2.trans e3) ⟨v, vs, rfl, d.mono (msk_ex e3), p⟩
/-- an argument whose value is told -/
theorem ha_consV {tr : TA} {v : V} {P : List V → Hp → Prop} (h : Ev te σ H v) (hr : HA M tr σ H P) : HA M (tCons te tr) σ H (fun vs H => ∃ r, vs = v :: r ∧ P r H) := fun H1 e m Q q =>
  h H1 e _ fun H2 e2 => hr H2 (e.trans e2) (m.ex e2) _ fun vs H3 e3 p => q _ H3 (e2.trans e3) ⟨vs, rfl, p⟩
theorem hv_tup2 {x : α} {y : β} (ha : Hv K M ta σ H x) (hb : Hv K M tb σ H y) : Hv K M (tTup (tCons ta (tCons tb tNil))) σ H (x, y) := fun H1 e m Q q =>
  ha H1 e m _ fun v H2 e2 d => hb H2 (e.trans e2) (m.ex e2) _ fun u H3 e3 d' => ⟨sz_of (by show 2 ≤ 100000; decide), fun p hp => by
    have m3 : MOk M H3 := m.ex (e2.trans e3)
    have e4 : Ex H3 (upd H3 p (.tup [v, u])) := Ex.new hp
    exact q _ _ ((e2.trans e3).trans e4) (Dt.ofPair (SqT.of (msk_at m3 hp)) (d.mono (msk_ex (e3.trans e4))) (d'.mono (msk_ex e4)))⟩
theorem hv_tup3 {x : α} {y : β} {z : γ} (ha : Hv K M ta σ H x) (hb : Hv K M tb σ H y) (hc : Hv K M tc σ H z) : Hv K M (tTup (tCons ta (tCons tb (tCons tc tNil)))) σ H (T3.mk x y z) := fun H1 e m Q q =>
  ha H1 e m _ fun v H2 e2 d => hb H2 (e.trans e2) (m.ex e2) _ fun u H3 e3 d' => hc H3 ((e.trans e2).trans e3) ((m.ex e2).ex e3) _ fun w H4 e4 d'' => ⟨sz_of (by show 3 ≤ 100000; decide), fun p hp => by
    have m4 : MOk M H4 := m.ex ((e2.trans e3).trans e4)
    have e5 : Ex H4 (upd H4 p (.tup [v, u, w])) := Ex.new hp
    exact q _ _ (((e2.trans e3).trans e4).trans e5) (Dt.ofT3 (SqT.of (msk_at m4 hp)) (d.mono (msk_ex ((e3.trans e4).trans e5))) (d'.mono (msk_ex (e4.trans e5))) (d''.mono (msk_ex e5)))⟩
theorem hv_tup4 {x : α} {y : β} {z : γ} {w : δ} (ha : Hv K M ta σ H x) (hb : Hv K M tb σ H y) (hc : Hv K M tc σ H z) (hd : Hv K M td σ H w) : Hv K M (tTup (tCons ta (tCons tb (tCons tc (tCons td tNil))))) σ H (T4.mk x y z w) := fun H1 e m Q q =>
  ha H1 e m _ fun v H2 e2 d => hb H2 (e.trans e2) (m.ex e2) _ fun u H3 e3 d' => hc H3 ((e.trans e2).trans e3) ((m.ex e2).ex e3) _ fun w H4 e4 d'' => hd H4 (((e.trans e2).trans e3).trans e4) (((m.ex e2).ex e3).ex e4) _ fun r H5 e5 d3 => ⟨sz_of (by show 4 ≤ 100000; decide), fun p hp => by
    have m4 : MOk M H5 := m.ex (((e2.trans e3).trans e4).trans e5)
    have e6 : Ex H5 (upd H5 p (.tup [v, u, w, r])) := Ex.new hp
    exact q _ _ ((((e2.trans e3).trans e4).trans e5).trans e6) (Dt.ofT4 (SqT.of (msk_at m4 hp)) (d.mono (msk_ex (((e3.trans e4).trans e5).trans e6))) (d'.mono (msk_ex ((e4.trans e5).trans e6))) (d''.mono (msk_ex (e5.trans e6))) (d3.mono (msk_ex e6)))⟩
/-- items of one type -/
def HAs (K : PySem.W.Frag) (M : List Addr) (ta : TA) (σ : L2.St) (H : Hp) (xs : List α) : Prop := HA M ta σ H (fun vs H => Dts K (msk M H) vs xs)
theorem has_nil : HAs K M tNil σ H ([] : List α) := fun H1 e m Q q => q [] H1 (Ex.refl H1) Dts.nil
theorem has_cons {tr : TA} {x : α} {xs : List α} (h : Hv K M te σ H x) (hr : HAs K M tr σ H xs) : HAs K M (tCons te tr) σ H (x :: xs) := fun H1 e m Q q =>
  h H1 e m _ fun v H2 e2 d => hr H2 (e.trans e2) (m.ex e2) _ fun vs H3 e3 p => q _ H3 (e2.trans e3) (Dts.cons (d.mono (msk_ex e3)) p)
theorem hv_lst {tr : TA} {xs : List α} (h : HAs K M tr σ H xs) (hl : xs.length ≤ 100000) : Hv K M (tLst tr) σ H xs := fun H1 e m Q q =>
  h H1 e m _ fun vs H2 e2 d => ⟨sz_of (by rw [d.len]; exact hl), fun p hp => by
    have e3 : Ex H2 (upd H2 p (.lst vs)) := Ex.new hp
    exact q _ _ (e2.trans e3) (Dt.ofList (SqL.of (msk_at (m.ex e2) hp)) (d.mono (msk_ex e3)))⟩
theorem hv_tupv {tr : TA} {xs : List α} (h : HAs K M tr σ H xs) (hl : xs.length ≤ 100000) : Hv K M (tTup tr) σ H (Tup.mk xs) := fun H1 e m Q q =>
  h H1 e m _ fun vs H2 e2 d => ⟨sz_of (by rw [d.len]; exact hl), fun p hp => by
    have e3 : Ex H2 (upd H2 p (.tup vs)) := Ex.new hp
    exact q _ _ (e2.trans e3) (Dt.ofTupv (SqT.of (msk_at (m.ex e2) hp)) (d.mono (msk_ex e3)))⟩

/-! ### items -/
theorem hv_ixL {xs : List α} {i : Int} {x : α} (ha : Hv K M ta σ H xs) (hb : Hv K M tb σ H i) (h0 : 0 ≤ i) (hx : xs[i.toNat]? = some x) : Hv K M (tOp (rIxL K) ta tb) σ H x := fun H1 e m Q q =>
  ha H1 e m _ fun v H2 e2 d => hb H2 (e.trans e2) (m.ex e2) _ fun u H3 e3 d' => by
    obtain ⟨a, vs, rfl, s, ds⟩ := d.list
    obtain ⟨w, h1, h2⟩ := ds.at hx
    exact ⟨a, vs, i, w, rfl, d'.int, ex_l (msk_le.trans e3) s, at_of (Int.toNat_of_nonneg h0).symm h1, q w H3 (e2.trans e3) (h2.mono (msk_ex e3))⟩
theorem hv_ixV {xs : Tup α} {i : Int} {x : α} (ha : Hv K M ta σ H xs) (hb : Hv K M tb σ H i) (h0 : 0 ≤ i) (hx : xs.items[i.toNat]? = some x) : Hv K M (tOp (rIxT K) ta tb) σ H x := fun H1 e m Q q =>
  ha H1 e m _ fun v H2 e2 d => hb H2 (e.trans e2) (m.ex e2) _ fun u H3 e3 d' => by
    obtain ⟨a, vs, rfl, s, ds⟩ := d.tupv
    obtain ⟨w, h1, h2⟩ := ds.at hx
    exact ⟨a, vs, i, w, rfl, d'.int, ex_t (msk_le.trans e3) s, at_of (Int.toNat_of_nonneg h0).symm h1, q w H3 (e2.trans e3) (h2.mono (msk_ex e3))⟩
theorem hv_p0 {p : α × β} (ha : Hv K M ta σ H p) : Hv K M (tOp (rIxT K) ta (tC (.int 0))) σ H p.1 := fun H1 e m Q q =>
  ha H1 e m _ fun v H2 e2 d => by
    obtain ⟨l, a, b, rfl, s, d1, d2⟩ := d.pair
    exact ⟨l, [a, b], 0, a, rfl, rfl, ex_t msk_le s, at_of (j := 0) rfl rfl, q a H2 e2 d1⟩
theorem hv_p1 {p : α × β} (ha : Hv K M ta σ H p) : Hv K M (tOp (rIxT K) ta (tC (.int 1))) σ H p.2 := fun H1 e m Q q =>
  ha H1 e m _ fun v H2 e2 d => by
    obtain ⟨l, a, b, rfl, s, d1, d2⟩ := d.pair
    exact ⟨l, [a, b], 1, b, rfl, rfl, ex_t msk_le s, at_of (j := 1) rfl rfl, q b H2 e2 d2⟩
theorem hv_t30 {p : T3 α β γ} (ha : Hv K M ta σ H p) : Hv K M (tOp (rIxT K) ta (tC (.int 0))) σ H p.a := fun H1 e m Q q =>
  ha H1 e m _ fun v H2 e2 d => by
    obtain ⟨l, a, b, c, rfl, s, d1, d2, d3⟩ := d.t3
    exact ⟨l, [a, b, c], 0, a, rfl, rfl, ex_t msk_le s, at_of (j := 0) rfl rfl, q a H2 e2 d1⟩
theorem hv_t31 {p : T3 α β γ} (ha : Hv K M ta σ H p) : Hv K M (tOp (rIxT K) ta (tC (.int 1))) σ H p.b := fun H1 e m Q q =>
  ha H1 e m _ fun v H2 e2 d => by
    obtain ⟨l, a, b, c, rfl, s, d1, d2, d3⟩ := d.t3
    exact ⟨l, [a, b, c], 1, b, rfl, rfl, ex_t msk_le s, at_of (j := 1) rfl rfl, q b H2 e2 d2⟩
theorem hv_t32 {p : T3 α β γ} (ha : Hv K M ta σ H p) : Hv K M (tOp (rIxT K) ta (tC (.int 2))) σ H p.c := fun H1 e m Q q =>
  ha H1 e m _ fun v H2 e2 d => by
    obtain ⟨l, a, b, c, rfl, s, d1, d2, d3⟩ := d.t3
    exact ⟨l, [a, b, c], 2, c, rfl, rfl, ex_t msk_le s, at_of (j := 2) rfl rfl, q c H2 e2 d3⟩
def T3.at {α : Type} (p : T3 α α α) (i : Int) : α := if i = 0 then p.a else if i = 1 then p.b else p.c
theorem hv_t3i {p : T3 α α α} {i : Int} (ha : Hv K M ta σ H p) (hb : Hv K M tb σ H i) (h0 : 0 ≤ i) (h3 : i < 3) : Hv K M (tOp (rIxT K) ta tb) σ H (Ly.T3.at p i) := fun H1 e m Q q =>
  ha H1 e m _ fun v H2 e2 d => hb H2 (e.trans e2) (m.ex e2) _ fun u H3 e3 d' => by
    obtain ⟨l, a, b, c, rfl, s, d1, d2, d3⟩ := d.t3
    have hh : i = 0 ∨ i = 1 ∨ i = 2 := by omega
    rcases hh with rfl | rfl | rfl
    · exact ⟨l, [a, b, c], 0, a, rfl, d'.int, ex_t (msk_le.trans e3) s, at_of (j := 0) rfl rfl, q a H3 (e2.trans e3) (d1.mono (msk_ex e3))⟩
    · exact ⟨l, [a, b, c], 1, b, rfl, d'.int, ex_t (msk_le.trans e3) s, at_of (j := 1) rfl rfl, q b H3 (e2.trans e3) (d2.mono (msk_ex e3))⟩
    · exact ⟨l, [a, b, c], 2, c, rfl, d'.int, ex_t (msk_le.trans e3) s, at_of (j := 2) rfl rfl, q c H3 (e2.trans e3) (d3.mono (msk_ex e3))⟩
end
end Ly

namespace Ly
open PySem PySem.Spec PyProof.Rows L2 Evl
open PySem.W (Datum DatumOrd Tup T3 T4)

/-! ### the state of a def: what its names hold -/
/-- what a thing that may still change holds -/
inductive Mv where
  | lst (ds : List Xd)
  | dic (kds : List (Key × Xd))
  | ins (C dx : Addr) (nds : List (Str × Xd))
def MvOk (K : PySem.W.Frag) (H : Hp) (o : HO) : Mv → Prop
  | .lst ds => ∃ vs, o = .lst vs ∧ XpAll K H vs ds
  | .dic kds => ∃ kvs, o = .dK kvs ∧ kvs.map (·.1) = kds.map (·.1) ∧ XpAll K H (kvs.map (·.2)) (kds.map (·.2))
  | .ins C dx nds => ∃ fs, o = .ins C dx fs ∧ fs.map (·.1) = nds.map (·.1) ∧ XpAll K H (fs.map (·.2)) (nds.map (·.2))
theorem MvOk.mono {K : PySem.W.Frag} {H H' : Hp} {o : HO} {m : Mv} (e : Ex H H') (h : MvOk K H o m) : MvOk K H' o m := by
  cases m with
  | lst ds => obtain ⟨vs, e1, e2⟩ := h; exact ⟨vs, e1, dpa_mono e e2⟩
  | dic kds => obtain ⟨vs, e1, e2, e3⟩ := h; exact ⟨vs, e1, e2, dpa_mono e e3⟩
  | ins C dx nds => obtain ⟨vs, e1, e2, e3⟩ := h; exact ⟨vs, e1, e2, dpa_mono e e3⟩
abbrev Mus := List (Addr × Mv)
abbrev Ims := List (V × Xd)
def muA (mus : Mus) : List Addr := mus.map (·.1)
def Im (K : PySem.W.Frag) (H : Hp) : Ims → Prop
  | [] => True
  | (v, d) :: r => Xp K H v d ∧ Im K H r
def Mu (K : PySem.W.Frag) (Hm H : Hp) : Mus → Prop
  | [] => True
  | (l, m) :: r => (∃ o, H l = some o ∧ MvOk K Hm o m) ∧ Mu K Hm H r
theorem Im.mono {K : PySem.W.Frag} {H H' : Hp} (e : Ex H H') : ∀ {is : Ims}, Im K H is → Im K H' is
  | [], h => h
  | (_, _) :: _, h => ⟨dp_mono e h.1, Im.mono e h.2⟩
theorem Mu.mono {K : PySem.W.Frag} {Hm Hm' H H' : Hp} (e : Ex Hm Hm') (e' : Ex H H') : ∀ {ms : Mus}, Mu K Hm H ms → Mu K Hm' H' ms
  | [], h => h
  | (l, m) :: _, h => by
    obtain ⟨⟨o, h1, h2⟩, h3⟩ := h
    exact ⟨⟨o, e' l o h1, h2.mono e⟩, Mu.mono e e' h3⟩
theorem Mu.upd {K : PySem.W.Frag} {Hm H : Hp} {p : Addr} {o : HO} : ∀ {ms : Mus}, p ∉ muA ms → Mu K Hm H ms → Mu K Hm (upd H p o) ms
  | [], _, h => h
  | (l, m) :: r, n, h => by
    have n' : l ≠ p ∧ p ∉ muA r := by
      unfold muA at n
      simp only [List.map_cons, List.mem_cons, not_or] at n
      exact ⟨fun z => n.1 z.symm, n.2⟩
    obtain ⟨⟨o', h1, h2⟩, h3⟩ := h
    exact ⟨⟨o', by rw [upd_ne n'.1]; exact h1, h2⟩, Mu.upd n'.2 h3⟩
theorem Mu.get {K : PySem.W.Frag} {Hm H : Hp} : ∀ {ms : Mus} {k : Nat} {l : Addr} {m : Mv}, Mu K Hm H ms → ms[k]? = some (l, m) → ∃ o, H l = some o ∧ MvOk K Hm o m
  | [], k, _, _, _, e => by simp at e
  | (l, m) :: r, 0, _, _, h, e => by
    have e' : (l, m) = _ := Option.some.inj (show some (l, m) = some _ from e)
    cases e'
    exact h.1
  | (l, m) :: r, k + 1, _, _, h, e => Mu.get (ms := r) h.2 (by simpa using e)
theorem mem_muA {ms : Mus} {k : Nat} {l : Addr} {m : Mv} (e : ms[k]? = some (l, m)) : l ∈ muA ms := by
  have h : (l, m) ∈ ms := List.mem_of_getElem? e
  exact List.mem_map.mpr ⟨_, h, rfl⟩
theorem muA_set : ∀ {ms : Mus} {k : Nat} {l : Addr} {m m' : Mv}, ms[k]? = some (l, m) → muA (ms.set k (l, m')) = muA ms
  | [], k, _, _, _, e => by simp at e
  | (l, m) :: r, 0, _, _, _, e => by
    have e' : (l, m) = _ := Option.some.inj (show some (l, m) = some _ from e)
    cases e'
    rfl
  | (l, m) :: r, k + 1, l', m0, m', e => by
    have := muA_set (ms := r) (k := k) (m' := m') (show r[k]? = some (l', m0) by simpa using e)
    show l :: muA (r.set k (l', m')) = l :: muA r
    rw [this]
theorem Mu.set {K : PySem.W.Frag} {Hm H : Hp} {o : HO} {m' : Mv} : ∀ {ms : Mus} {k : Nat} {l : Addr} {m : Mv}, (muA ms).Nodup → ms[k]? = some (l, m) → MvOk K Hm o m' → Mu K Hm H ms → Mu K Hm (L2.upd H l o) (ms.set k (l, m'))
  | [], k, _, _, _, e, _, _ => by simp at e
  | (l, m) :: r, 0, _, _, nd, e, ok, h => by
    have e' : (l, m) = _ := Option.some.inj (show some (l, m) = some _ from e)
    cases e'
    have nd' : l ∉ muA r ∧ (muA r).Nodup := List.nodup_cons.mp nd
    exact ⟨⟨o, upd_same, ok⟩, Mu.upd nd'.1 h.2⟩
  | (l, m) :: r, k + 1, l', m0, nd, e, ok, h => by
    have nd' : l ∉ muA r ∧ (muA r).Nodup := List.nodup_cons.mp nd
    have e' : r[k]? = some (l', m0) := by simpa using e
    have ne : l ≠ l' := fun z => nd'.1 (z ▸ mem_muA e')
    obtain ⟨⟨o', h1, h2⟩, h3⟩ := h
    exact ⟨⟨o', by rw [upd_ne ne]; exact h1, h2⟩, Mu.set (ms := r) nd'.2 e' ok h3⟩

/-- Mc: what the caller may still change; He: the heap at the entry -/
structure Sg (K : PySem.W.Frag) (Mc : List Addr) (He H : Hp) (is : Ims) (ms : Mus) : Prop where
  ext : Ex He (msk (muA ms) H)
  okc : MOk Mc He
  nd : (muA ms).Nodup
  im : Im K (msk (muA ms ++ Mc) H) is
  mu : Mu K (msk (muA ms ++ Mc) H) H ms
section
variable {K : PySem.W.Frag} {Mc : List Addr} {He H H1 H2 : Hp} {is js : Ims} {ms : Mus} {σ : L2.St} {te ta tb tl : TE}
variable {α β : Type} [DecidableEq α] [Dx α] [DecidableEq β] [Dx β]
theorem Sg.enter (m : MOk Mc He) (im : Im K (msk Mc He) is) : Sg K Mc He He is [] := by
  refine ⟨?_, m, List.nodup_nil, im, True.intro⟩
  show Ex He (msk [] He)
  rw [msk_nil]
  exact Ex.refl He
theorem Sg.all (s : Sg K Mc He H is ms) : Ex He H := s.ext.trans msk_le
theorem Sg.mok (s : Sg K Mc He H is ms) : MOk (muA ms ++ Mc) H := fun l hl => by
  rcases List.mem_append.mp hl with h | h
  · obtain ⟨p, hp, e⟩ := List.mem_map.mp h
    obtain ⟨k, hk⟩ := List.getElem?_of_mem hp
    obtain ⟨o, ho, _⟩ := s.mu.get (k := k) (l := p.1) (m := p.2) hk
    rw [← e, ho]
    exact fun z => nomatch z
  · exact (s.okc.ex s.all) l h
theorem Sg.new_of (s : Sg K Mc He H is ms) {l : Addr} (h : l ∈ muA ms) : He l = none := by
  cases q : He l with
  | none => rfl
  | some o =>
    have := s.ext l o q
    rw [msk_in h] at this
    cases this
theorem Sg.notc (s : Sg K Mc He H is ms) {l : Addr} (h : l ∈ muA ms) : l ∉ Mc := fun z => s.okc l z (s.new_of h)
theorem Sg.ex (s : Sg K Mc He H is ms) (e : Ex H H1) : Sg K Mc He H1 is ms :=
  ⟨s.ext.trans (msk_ex e), s.okc, s.nd, s.im.mono (msk_ex e), s.mu.mono (msk_ex e) e⟩
theorem Sg.put (s : Sg K Mc He H is ms) {v : V} {x : α} (d : Dt K (msk (muA ms ++ Mc) H) v x) : Sg K Mc He H ((v, Dx.toX x) :: is) ms :=
  ⟨s.ext, s.okc, s.nd, ⟨d, s.im⟩, s.mu⟩
/-- a new thing that may change -/
theorem Sg.new (s : Sg K Mc He H is ms) {p : Addr} {o : HO} {m : Mv} (hp : H p = none) (ok : MvOk K (msk (p :: (muA ms ++ Mc)) (upd H p o)) o m) : Sg K Mc He (upd H p o) is ((p, m) :: ms) := by
  have np : p ∉ muA ms := fun z => by
    have := s.mok p (List.mem_append_left _ z)
    exact this hp
  refine ⟨s.ext.trans (msk_new hp), s.okc, List.nodup_cons.mpr ⟨np, s.nd⟩, ?_, ⟨⟨o, upd_same, ok⟩, ?_⟩⟩
  · exact s.im.mono (msk_new hp)
  · have h := s.mu.mono (msk_new (M := muA ms ++ Mc) (o := o) hp) (Ex.refl H)
    exact Mu.upd np h
/-- the k-th of what may change, changed -/
theorem Sg.set (s : Sg K Mc He H is ms) {k : Nat} {l : Addr} {m m' : Mv} {o : HO} (e : ms[k]? = some (l, m)) (ok : MvOk K (msk (muA ms ++ Mc) H) o m') : Sg K Mc He (upd H l o) is (ms.set k (l, m')) := by
  have hl : l ∈ muA ms := mem_muA e
  have ea := muA_set (m' := m') e
  have hl2 : l ∈ muA ms ++ Mc := List.mem_append_left _ hl
  refine ⟨?_, s.okc, by rw [ea]; exact s.nd, ?_, ?_⟩
  · rw [ea, msk_upd hl]; exact s.ext
  · rw [ea, msk_upd hl2]; exact s.im
  · rw [ea, msk_upd hl2]; exact Mu.set s.nd e ok s.mu
/-- no longer changed: the head of what may change, a list -/
theorem Sg.frz {l : Addr} {xs : List α} (s : Sg K Mc He H is ((l, .lst (xs.map Dx.toX)) :: ms)) : Sg K Mc He H ((.ref l, Dx.toX xs) :: is) ms := by
  have sub : Ex (msk (muA ((l, Mv.lst (xs.map Dx.toX)) :: ms) ++ Mc) H) (msk (muA ms ++ Mc) H) := msk_sub fun a ha => List.mem_cons_of_mem _ ha
  have nd := List.nodup_cons.mp s.nd
  obtain ⟨⟨o, h1, vs, e, h2⟩, h3⟩ := s.mu
  subst e
  have nl : l ∉ muA ms ++ Mc := fun z => (List.mem_append.mp z).elim nd.1 (s.notc List.mem_cons_self)
  refine ⟨s.ext.trans (msk_sub fun a ha => List.mem_cons_of_mem _ ha), s.okc, nd.2, ⟨?_, s.im.mono sub⟩, h3.mono sub (Ex.refl H)⟩
  exact Dt.ofList (SqL.of (by rw [msk_out nl]; exact h1)) (dpa_mono sub h2)
/-- what stands first moves behind -/
theorem Sg.rot {l l' : Addr} {m m' : Mv} (s : Sg K Mc He H is ((l, m) :: (l', m') :: ms)) : Sg K Mc He H is ((l', m') :: (l, m) :: ms) := by
  have ea : ∀ N : List Addr, msk (l :: l' :: N) H = msk (l' :: l :: N) H := fun N => by
    funext a
    unfold msk
    by_cases h : a ∈ l :: l' :: N
    · rw [if_pos h, if_pos (by simp only [List.mem_cons] at h ⊢; rcases h with h | h | h <;> simp [h])]
    · rw [if_neg h, if_neg (by simp only [List.mem_cons, not_or] at h ⊢; exact ⟨h.2.1, h.1, h.2.2⟩)]
  refine ⟨?_, s.okc, ?_, ?_, ?_⟩
  · have := s.ext
    show Ex He (msk (l' :: l :: muA ms) H)
    rw [← ea]; exact this
  · have nd : (l :: l' :: muA ms).Nodup := s.nd
    show (l' :: l :: muA ms).Nodup
    simp only [List.nodup_cons, List.mem_cons, not_or] at nd ⊢
    exact ⟨⟨fun z => nd.1.1 z.symm, nd.2.1⟩, nd.1.2, nd.2.2⟩
  · show Im K (msk (l' :: l :: (muA ms ++ Mc)) H) is
    rw [← ea]; exact s.im
  · have mu : (∃ o, H l = some o ∧ MvOk K (msk (l :: l' :: (muA ms ++ Mc)) H) o m) ∧ (∃ o, H l' = some o ∧ MvOk K (msk (l :: l' :: (muA ms ++ Mc)) H) o m') ∧ Mu K (msk (l :: l' :: (muA ms ++ Mc)) H) H ms := s.mu
    show (∃ o, H l' = some o ∧ MvOk K (msk (l' :: l :: (muA ms ++ Mc)) H) o m') ∧ (∃ o, H l = some o ∧ MvOk K (msk (l' :: l :: (muA ms ++ Mc)) H) o m) ∧ Mu K (msk (l' :: l :: (muA ms ++ Mc)) H) H ms
    rw [← ea]
    exact ⟨mu.2.1, mu.1, mu.2.2⟩
/-- forgetting what is known of names -/
theorem Sg.keep (s : Sg K Mc He H is ms) (h : ∀ Hm, Im K Hm is → Im K Hm js) : Sg K Mc He H js ms := ⟨s.ext, s.okc, s.nd, h _ s.im, s.mu⟩
theorem Sg.lst (s : Sg K Mc He H is ms) {k : Nat} {l : Addr} {xs : List α} (e : ms[k]? = some (l, .lst (xs.map Dx.toX))) : ∃ vs, H l = some (.lst vs) ∧ Dts K (msk (muA ms ++ Mc) H) vs xs := by
  obtain ⟨o, h1, vs, e1, h2⟩ := s.mu.get e
  subst e1
  exact ⟨vs, h1, h2⟩

/-! ### a list that may still change, read -/
def HS (K : PySem.W.Frag) (M : List Addr) (te : TE) (σ : L2.St) (H : Hp) (xs : List α) : Prop :=
  ∀ H1, Ex H H1 → MOk M H1 → ∀ Q : VK, (∀ a vs H2, Ex H1 H2 → SqL K H2 a vs → Dts K (msk M H2) vs xs → Q (.ref a) H2) → te σ H1 Q
theorem hs_of {M : List Addr} {xs : List α} (h : Hv K M te σ H xs) : HS K M te σ H xs := fun H1 e m Q q =>
  h H1 e m Q fun v H2 e2 d => by
    obtain ⟨a, vs, rfl, s, ds⟩ := d.list
    exact q a vs H2 e2 (ex_l msk_le s) ds
theorem hs_mut (s : Sg K Mc He H is ms) {k i : Nat} {l : Addr} {xs : List α} (e : ms[k]? = some (l, .lst (xs.map Dx.toX))) (h : σ[i]? = some (some (.ref l))) : HS K (muA ms ++ Mc) (tVar i) σ H xs := fun H1 e1 m Q q => by
  obtain ⟨vs, h1, h2⟩ := (s.ex e1).lst e
  exact ⟨_, h, q l vs H1 (Ex.refl H1) (SqL.of h1) h2⟩
/-- all of it, for a use that leaves nothing behind -/
theorem hv_mut (s : Sg K Mc He H is ms) {k i : Nat} {l : Addr} {xs : List α} (e : ms[k]? = some (l, .lst (xs.map Dx.toX))) (h : σ[i]? = some (some (.ref l))) : Hv K [] (tVar i) σ H xs := fun H1 e1 m Q q => by
  obtain ⟨vs, h1, h2⟩ := (s.ex e1).lst e
  refine ⟨_, h, q _ H1 (Ex.refl H1) ?_⟩
  rw [msk_nil]
  exact Dt.ofList (SqL.of h1) (h2.mono msk_le)
theorem hv_whole (s : Sg K Mc He H is ms) {x : α} (h : Hv K (muA ms ++ Mc) te σ H x) : Hv K [] te σ H x := fun H1 e m Q q =>
  h H1 e (s.mok.ex e) Q fun v H2 e2 d => q v H2 e2 (by rw [msk_nil]; exact d.mono msk_le)
theorem hv_wholeS (s : Sg K Mc He H is ms) {xs : List α} (h : HS K (muA ms ++ Mc) te σ H xs) : Hv K [] te σ H xs := fun H1 e m Q q =>
  h H1 e (s.mok.ex e) Q fun a vs H2 e2 s2 d => q _ H2 e2 (by rw [msk_nil]; exact Dt.ofList s2 (d.mono msk_le))
theorem hv_backI {M : List Addr} {x : Int} (h : Hv K [] te σ H x) : Hv K M te σ H x := fun H1 e m Q q =>
  h H1 e (fun _ z => nomatch z) Q fun v H2 e2 d => by rw [d.int]; exact q _ H2 e2 (Dt.ofInt x)
theorem hv_backB {M : List Addr} {x : Bool} (h : Hv K [] te σ H x) : Hv K M te σ H x := fun H1 e m Q q =>
  h H1 e (fun _ z => nomatch z) Q fun v H2 e2 d => by rw [d.bool]; exact q _ H2 e2 (Dt.ofBool x)
theorem hv_backS {M : List Addr} {x : Str} (h : Hv K [] te σ H x) : Hv K M te σ H x := fun H1 e m Q q =>
  h H1 e (fun _ z => nomatch z) Q fun v H2 e2 d => by rw [d.str]; exact q _ H2 e2 (Dt.ofStr x)
theorem hv_ixS {M : List Addr} {xs : List α} {i : Int} {x : α} (ha : HS K M ta σ H xs) (hb : Hv K M tb σ H i) (h0 : 0 ≤ i) (hx : xs[i.toNat]? = some x) : Hv K M (tOp (rIxL K) ta tb) σ H x := fun H1 e m Q q =>
  ha H1 e m _ fun a vs H2 e2 s ds => hb H2 (e.trans e2) (m.ex e2) _ fun u H3 e3 d' => by
    obtain ⟨w, h1, h2⟩ := ds.at hx
    exact ⟨a, vs, i, w, rfl, d'.int, ex_l e3 s, at_of (Int.toNat_of_nonneg h0).symm h1, q w H3 (e2.trans e3) (h2.mono (msk_ex e3))⟩

/-! ### statements -/
variable {D : Ends} {tz tu tw : TS} {tt : TT} {g : TG}
theorem z_asg {i : Nat} {x : α} (s : Sg K Mc He H is ms) (h : Hv K (muA ms ++ Mc) te σ H x) (k : ∀ v H1, Sg K Mc He H1 ((v, Dx.toX x) :: is) ms → tz D (σ.set i (some v)) H1) : tSeq (tAsg te (gName i)) tz D σ H :=
  h H (Ex.refl H) s.mok _ fun v H1 e d => k v H1 ((s.ex e).put d)
theorem z_asgI {i : Nat} {x : Int} (s : Sg K Mc He H is ms) (h : Hv K (muA ms ++ Mc) te σ H x) (k : ∀ H1, Sg K Mc He H1 is ms → tz D (σ.set i (some (.int x))) H1) : tSeq (tAsg te (gName i)) tz D σ H :=
  h H (Ex.refl H) s.mok _ fun v H1 e d => by rw [d.int]; exact k H1 (s.ex e)
theorem z_asgB {i : Nat} {x : Bool} (s : Sg K Mc He H is ms) (h : Hv K (muA ms ++ Mc) te σ H x) (k : ∀ H1, Sg K Mc He H1 is ms → tz D (σ.set i (some (.bl x))) H1) : tSeq (tAsg te (gName i)) tz D σ H :=
  h H (Ex.refl H) s.mok _ fun v H1 e d => by rw [d.bool]; exact k H1 (s.ex e)
theorem z_asgS {i : Nat} {x : Str} (s : Sg K Mc He H is ms) (h : Hv K (muA ms ++ Mc) te σ H x) (k : ∀ H1, Sg K Mc He H1 is ms → tz D (σ.set i (some (.str x))) H1) : tSeq (tAsg te (gName i)) tz D σ H :=
  h H (Ex.refl H) s.mok _ fun v H1 e d => by rw [d.str]; exact k H1 (s.ex e)
/-- x = [], to be filled -/
theorem z_nil {i : Nat} (s : Sg K Mc He H is ms) (k : ∀ p H1, Sg K Mc He H1 is ((p, .lst []) :: ms) → tz D (σ.set i (some (.ref p))) H1) : tSeq (tAsg (tLst tNil) (gName i)) tz D σ H :=
  ⟨Nat.zero_le _, fun p hp => k p _ (s.new hp ⟨[], rfl, .nil⟩)⟩
theorem z_if {b : Bool} (s : Sg K Mc He H is ms) (h : HT (muA ms ++ Mc) tt σ H b) (h1 : b = true → ∀ H1, Sg K Mc He H1 is ms → tu { D with nx := tz D } σ H1) (h2 : b = false → ∀ H1, Sg K Mc He H1 is ms → tw { D with nx := tz D } σ H1) :
    tSeq (tIfS tt tu tw) tz D σ H := h H (Ex.refl H) s.mok _ fun H1 e => by
  cases b with
  | true => exact h1 rfl H1 (s.ex e)
  | false => exact h2 rfl H1 (s.ex e)
theorem z_ifE {b : Bool} (s : Sg K Mc He H is ms) (h : HT (muA ms ++ Mc) tt σ H b) (h1 : b = true → ∀ H1, Sg K Mc He H1 is ms → tu D σ H1) (h2 : b = false → ∀ H1, Sg K Mc He H1 is ms → tw D σ H1) :
    tIfS tt tu tw D σ H := h H (Ex.refl H) s.mok _ fun H1 e => by
  cases b with
  | true => exact h1 rfl H1 (s.ex e)
  | false => exact h2 rfl H1 (s.ex e)
theorem z_ret {x : α} (s : Sg K Mc He H is ms) (h : Hv K (muA ms ++ Mc) te σ H x) (k : ∀ v H1, Ex He H1 → Dt K (msk Mc H1) v x → D.rt v H1) : tRet te D σ H :=
  h H (Ex.refl H) s.mok _ fun v H1 e d => k v H1 (s.ex e).all (d.mono (msk_sub fun a ha => List.mem_append_right _ ha))
/-- xs.append(e) -/
theorem z_app {kk : Nat} {l : Addr} {xs : List α} {x : α} (s : Sg K Mc He H is ms) (e : ms[kk]? = some (l, .lst (xs.map Dx.toX))) (hi : Ev ta σ H (.ref l)) (h : Hv K (muA ms ++ Mc) te σ H x) (hz : xs.length < 100000)
    (k : ∀ H1, Sg K Mc He H1 is (ms.set kk (l, .lst ((xs ++ [x]).map Dx.toX))) → D.nx σ H1) : tDrop (tBM K "list" rAppend ta (tCons te tNil)) D σ H := hi H (Ex.refl H) _ fun H1 e1 => by
  obtain ⟨vs, h1, h2⟩ := (s.ex e1).lst e
  refine ⟨Or.inl ⟨rfl, vs, sq_of h1⟩, h H1 e1 (s.mok.ex e1) _ fun v H2 e2 d => ?_⟩
  obtain ⟨vs', h3, h4⟩ := ((s.ex e1).ex e2).lst e
  refine ⟨l, vs', v, rfl, rfl, h3, sz_lt (by rw [h4.len]; exact hz), k _ (((s.ex e1).ex e2).set e ⟨_, rfl, ?_⟩)⟩
  rw [List.map_append]
  exact dpa_app h4 (.cons d .nil)
theorem zq_app {kk : Nat} {l : Addr} {xs : List α} {x : α} (s : Sg K Mc He H is ms) (e : ms[kk]? = some (l, .lst (xs.map Dx.toX))) (hi : Ev ta σ H (.ref l)) (h : Hv K (muA ms ++ Mc) te σ H x) (hz : xs.length < 100000)
    (k : ∀ H1, Sg K Mc He H1 is (ms.set kk (l, .lst ((xs ++ [x]).map Dx.toX))) → tz D σ H1) : tSeq (tDrop (tBM K "list" rAppend ta (tCons te tNil))) tz D σ H := z_app (D := { D with nx := tz D }) s e hi h hz k
/-- the same as last statements -/
theorem z_asgE {i : Nat} {x : α} (s : Sg K Mc He H is ms) (h : Hv K (muA ms ++ Mc) te σ H x) (k : ∀ v H1, Sg K Mc He H1 ((v, Dx.toX x) :: is) ms → D.nx (σ.set i (some v)) H1) : tAsg te (gName i) D σ H :=
  h H (Ex.refl H) s.mok _ fun v H1 e d => k v H1 ((s.ex e).put d)
theorem z_asgIE {i : Nat} {x : Int} (s : Sg K Mc He H is ms) (h : Hv K (muA ms ++ Mc) te σ H x) (k : ∀ H1, Sg K Mc He H1 is ms → D.nx (σ.set i (some (.int x))) H1) : tAsg te (gName i) D σ H :=
  h H (Ex.refl H) s.mok _ fun v H1 e d => by rw [d.int]; exact k H1 (s.ex e)
theorem z_asgBE {i : Nat} {x : Bool} (s : Sg K Mc He H is ms) (h : Hv K (muA ms ++ Mc) te σ H x) (k : ∀ H1, Sg K Mc He H1 is ms → D.nx (σ.set i (some (.bl x))) H1) : tAsg te (gName i) D σ H :=
  h H (Ex.refl H) s.mok _ fun v H1 e d => by rw [d.bool]; exact k H1 (s.ex e)
theorem z_asgSE {i : Nat} {x : Str} (s : Sg K Mc He H is ms) (h : Hv K (muA ms ++ Mc) te σ H x) (k : ∀ H1, Sg K Mc He H1 is ms → D.nx (σ.set i (some (.str x))) H1) : tAsg te (gName i) D σ H :=
  h H (Ex.refl H) s.mok _ fun v H1 e d => by rw [d.str]; exact k H1 (s.ex e)
theorem z_cut {N : L2.St → Hp → Prop} (h : tu { D with nx := N } σ H) (k : ∀ σ' H', N σ' H' → tz D σ' H') : tCut tu tz D σ H := ⟨N, h, k⟩

/-! ### loops -/
theorem for_listD {M : List Addr} {a : Addr} {xs : List α} (Pv : Nat → L2.St → Hp → Prop) (h0 : Pv 0 σ H) (hl : ∀ i σ' H', i ≤ xs.length → Pv i σ' H' → ∃ vs, SqL K H' a vs ∧ Dts K (msk M H') vs xs)
    (hs : ∀ i x w σ' H', xs[i]? = some x → Pv i σ' H' → Dt K (msk M H') w x → g w σ' H' fun σ2 H2 => tu { D with nx := Pv (i + 1), ct := Pv (i + 1), bk := D.nx } σ2 H2) (hd : ∀ σ' H', Pv xs.length σ' H' → D.nx σ' H') :
    ∃ W : Nat → Nat → L2.St → Hp → Prop, (∃ m, W 0 m σ H) ∧ ∀ i m σ H, W i m σ H →
      ((Itl K a).stop i H ∧ D.nx σ H) ∨ ((Itl K a).go i H ∧ ∃ N : L2.St → Hp → Prop, (∀ σ' H', N σ' H' → ∃ m', m' < m ∧ W (i + 1) m' σ' H') ∧ ∀ x H', (Itl K a).yld i H x H' → g x σ H' fun σ2 H2 => tu { D with nx := N, ct := N, bk := D.nx } σ2 H2) := by
  refine ⟨fun i m σ H => m = xs.length - i ∧ i ≤ xs.length ∧ Pv i σ H, ⟨xs.length, by simp, Nat.zero_le _, h0⟩, ?_⟩
  rintro i m σ H ⟨rfl, hi, p⟩
  obtain ⟨vs, q, ds⟩ := hl i σ H hi p
  have el := ds.len
  by_cases hlt : i < xs.length
  · refine .inr ⟨⟨vs, vs[i]'(by omega), q, by simp [show i < vs.length by omega]⟩, Pv (i + 1), fun σ' H' p' => ⟨xs.length - (i + 1), by omega, rfl, hlt, p'⟩, fun x H' y => ?_⟩
    obtain ⟨e, y⟩ := y
    subst e
    obtain ⟨w, h1, h2⟩ := ds.at (i := i) (x := xs[i]) (by simp [hlt])
    have e1 : x = w := Option.some.inj ((y vs q).symm.trans h1)
    subst e1
    exact hs i _ x σ _ (by simp [hlt]) p h2
  · have e : i = xs.length := by omega
    subst e
    exact .inl ⟨⟨vs, q, by omega⟩, hd σ H p⟩
/-- over a value -/
theorem z_for {xs : List α} (s : Sg K Mc He H is ms) (h : Hv K (muA ms ++ Mc) tl σ H xs) (Pv : V → Nat → L2.St → Hp → Prop) (h0 : ∀ v H1, Sg K Mc He H1 ((v, Dx.toX xs) :: is) ms → Pv v 0 σ H1)
    (hl : ∀ v i σ' H', Pv v i σ' H' → Dt K (msk (muA ms ++ Mc) H') v xs)
    (hs : ∀ v i x w σ' H', xs[i]? = some x → Pv v i σ' H' → Dt K (msk (muA ms ++ Mc) H') w x → g w σ' H' fun σ2 H2 => tu { D with nx := Pv v (i + 1), ct := Pv v (i + 1), bk := D.nx } σ2 H2)
    (hd : ∀ v σ' H', Pv v xs.length σ' H' → D.nx σ' H') : tFor (iList K tl) g tu D σ H :=
  h H (Ex.refl H) s.mok _ fun v H1 e d => by
    obtain ⟨a, vs, rfl, s1, ds⟩ := d.list
    refine ⟨a, rfl, ⟨vs, ex_l msk_le s1⟩, for_listD (Pv (.ref a)) (h0 _ H1 ((s.ex e).put d)) (fun i σ' H' _ p => ?_) (hs _) (hd _)⟩
    obtain ⟨a', vs', e', s2, ds'⟩ := (hl _ i σ' H' p).list
    cases e'
    exact ⟨vs', ex_l msk_le s2, ds'⟩
theorem zq_for {xs : List α} (s : Sg K Mc He H is ms) (h : Hv K (muA ms ++ Mc) tl σ H xs) (Pv : V → Nat → L2.St → Hp → Prop) (h0 : ∀ v H1, Sg K Mc He H1 ((v, Dx.toX xs) :: is) ms → Pv v 0 σ H1)
    (hl : ∀ v i σ' H', Pv v i σ' H' → Dt K (msk (muA ms ++ Mc) H') v xs)
    (hs : ∀ v i x w σ' H', xs[i]? = some x → Pv v i σ' H' → Dt K (msk (muA ms ++ Mc) H') w x → g w σ' H' fun σ2 H2 => tu { D with nx := Pv v (i + 1), ct := Pv v (i + 1), bk := tz D } σ2 H2)
    (hd : ∀ v σ' H', Pv v xs.length σ' H' → tz D σ' H') : tSeq (tFor (iList K tl) g tu) tz D σ H := z_for (D := { D with nx := tz D }) s h Pv h0 hl hs hd
/-- over the numbers 0 .. n - 1 -/
theorem z_forR {j : Nat} {n : Int} (s : Sg K Mc He H is ms) (h : Hv K (muA ms ++ Mc) te σ H n) (hn : -100000 ≤ n ∧ n ≤ 100000) (Pv : Nat → L2.St → Hp → Prop) (h0 : ∀ H1, Sg K Mc He H1 is ms → Pv 0 σ H1)
    (hs : ∀ (i : Nat) σ' H', (i : Int) < n → Pv i σ' H' → tu { D with nx := Pv (i + 1), ct := Pv (i + 1), bk := D.nx } (σ'.set j (some (.int (i : Int)))) H') (hd : ∀ σ' H', Pv n.toNat σ' H' → D.nx σ' H') : tFor (iRng1 (tCons te tNil)) (gName j) tu D σ H :=
  h H (Ex.refl H) s.mok _ fun v H1 e d => by
    refine ⟨n, by rw [d.int], by omega, by omega, for_range (lo := 0) (n := n.toNat) Pv (h0 H1 (s.ex e)) (fun i σ' H' hi p => ?_) hd⟩
    have e0 : (0 : Int) + (i : Int) = (i : Int) := Int.zero_add _
    show tu { D with nx := Pv (i + 1), ct := Pv (i + 1), bk := D.nx } (σ'.set j (some (.int ((0 : Int) + (i : Int))))) H'
    rw [e0]
    exact hs i σ' H' (by omega) p
theorem zq_forR {j : Nat} {n : Int} (s : Sg K Mc He H is ms) (h : Hv K (muA ms ++ Mc) te σ H n) (hn : -100000 ≤ n ∧ n ≤ 100000) (Pv : Nat → L2.St → Hp → Prop) (h0 : ∀ H1, Sg K Mc He H1 is ms → Pv 0 σ H1)
    (hs : ∀ (i : Nat) σ' H', (i : Int) < n → Pv i σ' H' → tu { D with nx := Pv (i + 1), ct := Pv (i + 1), bk := tz D } (σ'.set j (some (.int (i : Int)))) H') (hd : ∀ σ' H', Pv n.toNat σ' H' → tz D σ' H') : tSeq (tFor (iRng1 (tCons te tNil)) (gName j) tu) tz D σ H :=
  z_forR (D := { D with nx := tz D }) s h hn Pv h0 hs hd
theorem z_forR2 {j : Nat} {lo n : Int} (s : Sg K Mc He H is ms) (h1 : Hv K (muA ms ++ Mc) ta σ H lo) (h : Hv K (muA ms ++ Mc) te σ H n) (hn : -100000 ≤ lo ∧ lo ≤ 100000 ∧ -100000 ≤ n ∧ n ≤ 100000) (Pv : Nat → L2.St → Hp → Prop) (h0 : ∀ H1, Sg K Mc He H1 is ms → Pv 0 σ H1)
    (hs : ∀ (i : Nat) σ' H', lo + (i : Int) < n → Pv i σ' H' → tu { D with nx := Pv (i + 1), ct := Pv (i + 1), bk := D.nx } (σ'.set j (some (.int (lo + (i : Int))))) H') (hd : ∀ σ' H', Pv (n - lo).toNat σ' H' → D.nx σ' H') : tFor (iRng2 (tCons ta (tCons te tNil))) (gName j) tu D σ H :=
  h1 H (Ex.refl H) s.mok _ fun v H1 e d => h H1 e (s.mok.ex e) _ fun v' H2 e2 d' => by
    refine ⟨lo, n, by rw [d.int, d'.int], ⟨by omega, by omega, by omega, by omega⟩, for_range (lo := lo) (n := (n - lo).toNat) Pv (h0 H2 ((s.ex e).ex e2)) (fun i σ' H' hi p => hs i σ' H' (by omega) p) hd⟩
theorem zq_forR2 {j : Nat} {lo n : Int} (s : Sg K Mc He H is ms) (h1 : Hv K (muA ms ++ Mc) ta σ H lo) (h : Hv K (muA ms ++ Mc) te σ H n) (hn : -100000 ≤ lo ∧ lo ≤ 100000 ∧ -100000 ≤ n ∧ n ≤ 100000) (Pv : Nat → L2.St → Hp → Prop) (h0 : ∀ H1, Sg K Mc He H1 is ms → Pv 0 σ H1)
    (hs : ∀ (i : Nat) σ' H', lo + (i : Int) < n → Pv i σ' H' → tu { D with nx := Pv (i + 1), ct := Pv (i + 1), bk := tz D } (σ'.set j (some (.int (lo + (i : Int))))) H') (hd : ∀ σ' H', Pv (n - lo).toNat σ' H' → tz D σ' H') : tSeq (tFor (iRng2 (tCons ta (tCons te tNil))) (gName j) tu) tz D σ H :=
  z_forR2 (D := { D with nx := tz D }) s h1 h hn Pv h0 hs hd
end
end Ly

namespace Ly
open PySem PySem.Spec PyProof.Rows L2 Evl
open PySem.W (Datum DatumOrd Tup T3 T4)

/-! ### calls -/
section
variable {K : PySem.W.Frag} {Mc M : List Addr} {He H H1 H2 : Hp} {is js : Ims} {ms : Mus} {σ : L2.St} {te ta tb tl : TE}
variable {α β γ : Type} [DecidableEq α] [Dx α] [DecidableEq β] [Dx β]
/-- the promise of a def that changes nothing: its arguments hold what args tells of c, it gives F c -/
def PrD (K : PySem.W.Frag) (args : γ → List Xd) (pre : γ → Prop) (F : γ → β) : Sp := fun vs H Q _ =>
  ∃ (Mc : List Addr) (c : γ), MOk Mc H ∧ XpAll K (msk Mc H) vs (args c) ∧ pre c ∧ ∀ w H', Ex H H' → Dt K (msk Mc H') w (F c) → Q w H'
def HD (K : PySem.W.Frag) (M : List Addr) (ta : TA) (σ : L2.St) (H : Hp) (ds : List Xd) : Prop := HA M ta σ H (fun vs H => XpAll K (msk M H) vs ds)
theorem hd_nil : HD K M tNil σ H [] := fun H1 e m Q q => q [] H1 (Ex.refl H1) .nil
theorem hd_cons {tr : TA} {x : α} {ds : List Xd} (h : Hv K M te σ H x) (hr : HD K M tr σ H ds) : HD K M (tCons te tr) σ H (Dx.toX x :: ds) := fun H1 e m Q q =>
  h H1 e m _ fun v H2 e2 d => hr H2 (e.trans e2) (m.ex e2) _ fun vs H3 e3 p => q _ H3 (e2.trans e3) (.cons (dp_mono (msk_ex e3) d) p)
theorem hv_call {args : γ → List Xd} {pre : γ → Prop} {F : γ → β} {tr : TA} {E : XK} (c : γ) (h : HD K M tr σ H (args c)) (p : pre c) : Hv K M (tCall (PrD K args pre F) [] E tr) σ H (F c) := fun H1 e m Q q =>
  h H1 e m _ fun vs H2 e2 d => by
    show PrD K args pre F (vs ++ []) H2 Q E
    rw [List.append_nil]
    exact ⟨M, c, m.ex e2, d, p, fun w H3 e3 d3 => q w H3 (e2.trans e3) d3⟩
end

/-! ### loops, as functions -/
def loopN {S : Type} (f : S → Int → S) : Nat → Int → S → S
  | 0, _, s => s
  | n + 1, k, s => loopN f n (k + 1) (f s k)
theorem loopN_step {S : Type} {f : S → Int → S} {n i : Nat} {lo : Int} {s : S} (h : i < n) : loopN f (n - i) (lo + (i : Int)) s = loopN f (n - (i + 1)) (lo + ((i + 1 : Nat) : Int)) (f s (lo + (i : Int))) := by
  have e : n - i = (n - (i + 1)) + 1 := by omega
  rw [e]
  show loopN f (n - (i + 1)) (lo + (i : Int) + 1) _ = _
  rw [show lo + (i : Int) + 1 = lo + ((i + 1 : Nat) : Int) by omega]
theorem loopN_end {S : Type} {f : S → Int → S} {n : Nat} {lo : Int} {s : S} : loopN f (n - n) lo s = s := by rw [Nat.sub_self]; rfl
/-- a turn that may leave: a result, a break, or on -/
inductive Lp (ρ S : Type) where
  | ret (r : ρ)
  | brk (s : S)
  | nxt (s : S)
def loopNR {ρ S : Type} (f : S → Int → Lp ρ S) : Nat → Int → S → ρ ⊕ S
  | 0, _, s => .inr s
  | n + 1, k, s => match f s k with
    | .ret r => .inl r
    | .brk s' => .inr s'
    | .nxt s' => loopNR f n (k + 1) s'
theorem loopNR_nxt {ρ S : Type} {f : S → Int → Lp ρ S} {n i : Nat} {lo : Int} {s s' : S} (h : i < n) (e : f s (lo + (i : Int)) = .nxt s') : loopNR f (n - i) (lo + (i : Int)) s = loopNR f (n - (i + 1)) (lo + ((i + 1 : Nat) : Int)) s' := by
  have e1 : n - i = (n - (i + 1)) + 1 := by omega
  rw [e1]
  show (match f s (lo + (i : Int)) with | .ret r => Sum.inl r | .brk s' => Sum.inr s' | .nxt s' => loopNR f (n - (i + 1)) (lo + (i : Int) + 1) s') = _
  rw [e, show lo + (i : Int) + 1 = lo + ((i + 1 : Nat) : Int) by omega]
theorem loopNR_ret {ρ S : Type} {f : S → Int → Lp ρ S} {n i : Nat} {lo : Int} {s : S} {r : ρ} (h : i < n) (e : f s (lo + (i : Int)) = .ret r) : loopNR f (n - i) (lo + (i : Int)) s = .inl r := by
  have e1 : n - i = (n - (i + 1)) + 1 := by omega
  rw [e1]
  show (match f s (lo + (i : Int)) with | .ret r => Sum.inl r | .brk s' => Sum.inr s' | .nxt s' => loopNR f (n - (i + 1)) (lo + (i : Int) + 1) s') = _
  rw [e]
theorem loopNR_brk {ρ S : Type} {f : S → Int → Lp ρ S} {n i : Nat} {lo : Int} {s s' : S} (h : i < n) (e : f s (lo + (i : Int)) = .brk s') : loopNR f (n - i) (lo + (i : Int)) s = .inr s' := by
  have e1 : n - i = (n - (i + 1)) + 1 := by omega
  rw [e1]
  show (match f s (lo + (i : Int)) with | .ret r => Sum.inl r | .brk s' => Sum.inr s' | .nxt s' => loopNR f (n - (i + 1)) (lo + (i : Int) + 1) s') = _
  rw [e]
theorem loopNR_end {ρ S : Type} {f : S → Int → Lp ρ S} {n : Nat} {lo : Int} {s : S} : loopNR f (n - n) lo s = .inr s := by rw [Nat.sub_self]; rfl
theorem drop_at {α : Type} {xs : List α} {i : Nat} {x : α} (h : xs[i]? = some x) : xs.drop i = x :: xs.drop (i + 1) := by
  obtain ⟨h1, h2⟩ := List.getElem?_eq_some_iff.mp h
  rw [List.drop_eq_getElem_cons h1, h2]
theorem foldl_step {α S : Type} {f : S → α → S} {xs : List α} {i : Nat} {x : α} {s : S} (h : xs[i]? = some x) : (xs.drop i).foldl f s = (xs.drop (i + 1)).foldl f (f s x) := by
  rw [drop_at h]; rfl
theorem foldl_end {α S : Type} {f : S → α → S} {xs : List α} {s : S} : (xs.drop xs.length).foldl f s = s := by rw [List.drop_length]; rfl
def loopL {α ρ S : Type} (f : S → α → Lp ρ S) : List α → S → ρ ⊕ S
  | [], s => .inr s
  | x :: r, s => match f s x with
    | .ret r => .inl r
    | .brk s' => .inr s'
    | .nxt s' => loopL f r s'
theorem loopL_nxt {α ρ S : Type} {f : S → α → Lp ρ S} {xs : List α} {i : Nat} {x : α} {s s' : S} (h : xs[i]? = some x) (e : f s x = .nxt s') : loopL f (xs.drop i) s = loopL f (xs.drop (i + 1)) s' := by
  rw [drop_at h, loopL, e]
theorem loopL_ret {α ρ S : Type} {f : S → α → Lp ρ S} {xs : List α} {i : Nat} {x : α} {s : S} {r : ρ} (h : xs[i]? = some x) (e : f s x = .ret r) : loopL f (xs.drop i) s = .inl r := by
  rw [drop_at h, loopL, e]
theorem loopL_brk {α ρ S : Type} {f : S → α → Lp ρ S} {xs : List α} {i : Nat} {x : α} {s s' : S} (h : xs[i]? = some x) (e : f s x = .brk s') : loopL f (xs.drop i) s = .inr s' := by
  rw [drop_at h, loopL, e]
theorem loopL_end {α ρ S : Type} {f : S → α → Lp ρ S} {xs : List α} {s : S} : loopL f (xs.drop xs.length) s = .inr s := by rw [List.drop_length]; rfl

/-! ### items, lengths -/
section
variable {K : PySem.W.Frag} {Mc M : List Addr} {He H H1 H2 : Hp} {is js : Ims} {ms : Mus} {σ : L2.St} {te ta tb tl : TE}
variable {α β γ : Type} [DecidableEq α] [Dx α] [DecidableEq β] [Dx β] [DecidableEq γ] [Dx γ]
theorem getD_at {xs : List α} {i : Int} {d : α} (h0 : 0 ≤ i) (h : i < (xs.length : Int)) : xs[i.toNat]? = some (xs.getD i.toNat d) := by
  have h1 : i.toNat < xs.length := by omega
  rw [List.getD_eq_getElem?_getD, List.getElem?_eq_getElem h1]
  rfl
theorem hv_at {xs : List α} {i : Int} (d : α) (ha : HS K M ta σ H xs) (hb : Hv K M tb σ H i) (h0 : 0 ≤ i) (h : i < (xs.length : Int)) : Hv K M (tOp (rIxL K) ta tb) σ H (xs.getD i.toNat d) :=
  hv_ixS ha hb h0 (getD_at h0 h)
theorem hv_atV {xs : Tup α} {i : Int} (d : α) (ha : Hv K M ta σ H xs) (hb : Hv K M tb σ H i) (h0 : 0 ≤ i) (h : i < (xs.items.length : Int)) : Hv K M (tOp (rIxT K) ta tb) σ H (xs.items.getD i.toNat d) :=
  hv_ixV ha hb h0 (getD_at h0 h)
/-- len -/
theorem hv_len {xs : List α} (ha : HS K M ta σ H xs) : Hv K M (tCB (fun xs H Q => ∃ x n, xs = [x] ∧ LenV K x H n ∧ Q (.int n) H) (tCons ta tNil)) σ H (xs.length : Int) := fun H1 e m Q q =>
  ha H1 e m _ fun a vs H2 e2 s d => ⟨.ref a, vs.length, rfl, Or.inl ⟨vs, s, rfl⟩, q _ H2 e2 (by rw [d.len]; exact Dt.ofInt _)⟩
theorem hv_lenV {xs : Tup α} (ha : Hv K M ta σ H xs) : Hv K M (tCB (fun xs H Q => ∃ x n, xs = [x] ∧ LenV K x H n ∧ Q (.int n) H) (tCons ta tNil)) σ H (xs.items.length : Int) := fun H1 e m Q q =>
  ha H1 e m _ fun v H2 e2 d => by
    obtain ⟨a, vs, rfl, s, ds⟩ := d.tupv
    exact ⟨.ref a, vs.length, rfl, Or.inr ⟨vs, ex_t msk_le s, rfl⟩, q _ H2 e2 (by rw [ds.len]; exact Dt.ofInt _)⟩
theorem hv_len2 {x : α × β} (ha : Hv K M ta σ H x) : Hv K M (tCB (fun xs H Q => ∃ x n, xs = [x] ∧ LenV K x H n ∧ Q (.int n) H) (tCons ta tNil)) σ H (2 : Int) := fun H1 e m Q q =>
  ha H1 e m _ fun v H2 e2 d => by
    obtain ⟨a, u, w, rfl, s, _⟩ := d.pair
    exact ⟨.ref a, 2, rfl, Or.inr ⟨_, ex_t msk_le s, rfl⟩, q _ H2 e2 (Dt.ofInt _)⟩
theorem hv_len3 {x : T3 α β γ} (ha : Hv K M ta σ H x) : Hv K M (tCB (fun xs H Q => ∃ x n, xs = [x] ∧ LenV K x H n ∧ Q (.int n) H) (tCons ta tNil)) σ H (3 : Int) := fun H1 e m Q q =>
  ha H1 e m _ fun v H2 e2 d => by
    obtain ⟨a, u, w, z, rfl, s, _⟩ := d.t3
    exact ⟨.ref a, 3, rfl, Or.inr ⟨_, ex_t msk_le s, rfl⟩, q _ H2 e2 (Dt.ofInt _)⟩

/-! ### isinstance -/
/-- the built-in type of every value of α -/
class TyNm (α : Type) [DecidableEq α] [Dx α] where
  nm : String
  ty : ∀ {K : PySem.W.Frag} {H : Hp} {v : V} {x : α}, Dt K H v x → TyX K H v (.type nm)
theorem tyx_ex {K : PySem.W.Frag} {H H' : Hp} {v : V} {n : String} (e : Ex H H') (h : TyX K H v (.type n)) : TyX K H' v (.type n) := by
  cases h with
  | base h =>
    cases h with
    | non => exact .base .non
    | bl b => exact .base (.bl b)
    | int b => exact .base (.int b)
    | str b => exact .base (.str b)
    | flt b => exact .base (.flt b)
    | lst h => exact .base (.lst (e _ _ h))
    | frz h => exact .base (.frz (e _ _ h))
    | tup h => exact .base (.tup (e _ _ h))
    | dK h => exact .base (.dK (e _ _ h))
    | dT h => exact .base (.dT (e _ _ h))
  | byt y => exact .byt y
  | set h => exact .set (e _ _ h)
  | kList h c => exact .kList h c
  | kTuple h c => exact .kTuple h c
  | kDict h c => exact .kDict h c
  | fTuple h => exact .fTuple (e _ _ h)
  | fDict h => exact .fDict (e _ _ h)

instance : TyNm Int := ⟨"int", fun d => by cases d.int; exact .base (.int _)⟩
instance : TyNm Bool := ⟨"bool", fun d => by cases d.bool; exact .base (.bl _)⟩
instance : TyNm Str := ⟨"str", fun d => by cases d.str; exact .base (.str _)⟩
theorem tyx_L {K : PySem.W.Frag} {H : Hp} {a : Addr} {vs : List V} (h : SqL K H a vs) : TyX K H (.ref a) (.type "list") := by
  rcases h with (h | ⟨o, h⟩) | ⟨o, its, n, h, c, _⟩
  · exact .base (.lst h)
  · exact .base (.frz h)
  · exact .kList h c
theorem tyx_T {K : PySem.W.Frag} {H : Hp} {a : Addr} {vs : List V} (h : SqT K H a vs) : TyX K H (.ref a) (.type "tuple") := by
  rcases h with (h | ⟨o, h⟩) | ⟨o, its, n, h, c, _⟩
  · exact .base (.tup h)
  · exact .fTuple h
  · exact .kTuple h c
instance : TyNm (List α) := ⟨"list", fun d => by obtain ⟨a, vs, rfl, s, _⟩ := d.list; exact tyx_L s⟩
instance : TyNm (Tup α) := ⟨"tuple", fun d => by obtain ⟨a, vs, rfl, s, _⟩ := d.tupv; exact tyx_T s⟩
instance : TyNm (α × β) := ⟨"tuple", fun d => by obtain ⟨a, u, w, rfl, s, _⟩ := d.pair; exact tyx_T s⟩
instance : TyNm (T3 α β γ) := ⟨"tuple", fun d => by obtain ⟨a, u, w, z, rfl, s, _⟩ := d.t3; exact tyx_T s⟩
theorem hv_isi {x : α} [T : TyNm α] {n : String} {b : Bool} (ha : Hv K M ta σ H x) (h : kitB T.nm n = some b) : Hv K M (tCB (rIsi K) (tCons ta (tCons (tC (.ty n)) tNil))) σ H b := fun H1 e m Q q =>
  ha H1 e m _ fun v H2 e2 d => ⟨v, .ty n, .type T.nm, .type n, b, rfl, .ty n, tyx_ex msk_le (T.ty d), kit_ty h, q _ H2 e2 (Dt.ofBool b)⟩

/-! ### == and < of data -/
theorem dt_holds [Datum α] [DxD α] {X : Cx} {pins : List (Addr × Obj)} {s : Shared} {x : α} {v : V} {u : Value} (I : Inv X pins σ H s) (d : Dt X.K H v x) (r : RelV v u) : PySem.W.Holds s.heap u x := Dp.reads I _ v u (DxD.link d) r
def rEqT (α : Type) [DecidableEq α] [Dx α] (K : PySem.W.Frag) : R2 := fun x y H Q => ∃ a b : α, Dt K H x a ∧ Dt K H y b ∧ Q (.bl (decide (a = b))) H
def rNeT (α : Type) [DecidableEq α] [Dx α] (K : PySem.W.Frag) : R2 := fun x y H Q => ∃ a b : α, Dt K H x a ∧ Dt K H y b ∧ Q (.bl (!decide (a = b))) H
theorem op_eqT [Datum α] [DxD α] {X : Cx} (hu : X.A.units + Datum.depth α < cLine) : OpR X (compareOp .Eq) (rEqT α X.K) := by
  intro pins s σ H x y v u Q I rx ry h
  obtain ⟨a, b, da, db, q⟩ := h
  exact PySem.W.eq_datum (dt_holds I da rx) (dt_holds I db ry) hu ⟨.bl _, H, I, rfl, q⟩
theorem op_neT [Datum α] [DxD α] {X : Cx} (hu : X.A.units + Datum.depth α < cLine) : OpR X (compareOp .NotEq) (rNeT α X.K) := by
  intro pins s σ H x y v u Q I rx ry h
  obtain ⟨a, b, da, db, q⟩ := h
  exact PySem.W.ne_datum (dt_holds I da rx) (dt_holds I db ry) hu ⟨.bl _, H, I, rfl, by rw [show decide (a ≠ b) = !decide (a = b) from decide_not]; exact q⟩
theorem hv_eqT {x y : α} (ha : Hv K [] ta σ H x) (hb : Hv K [] tb σ H y) : Hv K M (tOp (rEqT α K) ta tb) σ H (decide (x = y)) := fun H1 e m Q q =>
  ha H1 e (fun _ z => nomatch z) _ fun v H2 e2 d => hb H2 (e.trans e2) (fun _ z => nomatch z) _ fun u H3 e3 d' => by
    rw [msk_nil] at d d'
    exact ⟨x, y, d.mono e3, d', q _ H3 (e2.trans e3) (Dt.ofBool _)⟩
theorem hv_neT {x y : α} (ha : Hv K [] ta σ H x) (hb : Hv K [] tb σ H y) : Hv K M (tOp (rNeT α K) ta tb) σ H (!decide (x = y)) := fun H1 e m Q q =>
  ha H1 e (fun _ z => nomatch z) _ fun v H2 e2 d => hb H2 (e.trans e2) (fun _ z => nomatch z) _ fun u H3 e3 d' => by
    rw [msk_nil] at d d'
    exact ⟨x, y, d.mono e3, d', q _ H3 (e2.trans e3) (Dt.ofBool _)⟩
end
section
variable {K : PySem.W.Frag} {M : List Addr} {H H1 H2 : Hp} {σ : L2.St} {te ta tb tl : TE}
variable {α : Type} [DecidableEq α] [Dx α] [DatumOrd α]
def rLtT (α : Type) [DecidableEq α] [Dx α] [DatumOrd α] (K : PySem.W.Frag) : R2 := fun x y H Q => ∃ a b : α, Dt K H x a ∧ Dt K H y b ∧ Q (.bl (DatumOrd.lt a b)) H
theorem op_ltT [DxD α] {X : Cx} (hu : X.A.units + Datum.depth α < cLine) : OpR X (compareOp .Lt) (rLtT α X.K) := by
  intro pins s σ H x y v u Q I rx ry h
  obtain ⟨a, b, da, db, q⟩ := h
  exact PySem.W.lt_datum (dt_holds I da rx) (dt_holds I db ry) hu ⟨.bl _, H, I, rfl, q⟩
theorem hv_ltT {x y : α} (ha : Hv K [] ta σ H x) (hb : Hv K [] tb σ H y) : Hv K M (tOp (rLtT α K) ta tb) σ H (DatumOrd.lt x y) := fun H1 e m Q q =>
  ha H1 e (fun _ z => nomatch z) _ fun v H2 e2 d => hb H2 (e.trans e2) (fun _ z => nomatch z) _ fun u H3 e3 d' => by
    rw [msk_nil] at d d'
    exact ⟨x, y, d.mono e3, d', q _ H3 (e2.trans e3) (Dt.ofBool _)⟩
end
theorem hud {A : Around} {k d : Nat} (hr : Room k A) (h : d ≤ 64) : A.units + d < cLine := Nat.lt_of_le_of_lt (Nat.add_le_add_left h _) hr.units
end Ly

namespace Ly
open PySem PySem.Spec PyProof.Rows L2 Evl
open PySem.W (Datum DatumOrd Tup T3 T4)

theorem dpa_inv {K : PySem.W.Frag} {H : Hp} {vs : List V} {d : Xd} {ds : List Xd} (h : XpAll K H vs (d :: ds)) : ∃ v r, vs = v :: r ∧ Xp K H v d ∧ XpAll K H r ds := by
  cases h with
  | cons a b => exact ⟨_, _, rfl, a, b⟩
theorem dpa_inv0 {K : PySem.W.Frag} {H : Hp} {vs : List V} (h : XpAll K H vs []) : vs = [] := by cases h; rfl

section
variable {K : PySem.W.Frag} {Mc : List Addr} {He H H1 H2 : Hp} {is js : Ims} {ms : Mus} {σ : L2.St} {te ta tb tl : TE}
variable {α β : Type} [DecidableEq α] [Dx α] [DecidableEq β] [Dx β]
variable {D : Ends} {tz tu tw : TS} {tt : TT} {g : TG}
/-! ### statements that name what they store -/
theorem z_asgG {i : Nat} {x : α} (s : Sg K Mc He H is ms) (h : Hv K (muA ms ++ Mc) te σ H x) (k : ∀ y, y = x → ∀ v H1, Sg K Mc He H1 ((v, Dx.toX y) :: is) ms → tz D (σ.set i (some v)) H1) : tSeq (tAsg te (gName i)) tz D σ H :=
  z_asg s h (k x rfl)
theorem z_asgIG {i : Nat} {x : Int} (s : Sg K Mc He H is ms) (h : Hv K (muA ms ++ Mc) te σ H x) (k : ∀ y, y = x → ∀ H1, Sg K Mc He H1 is ms → tz D (σ.set i (some (.int y))) H1) : tSeq (tAsg te (gName i)) tz D σ H :=
  z_asgI s h (k x rfl)
theorem z_asgBG {i : Nat} {x : Bool} (s : Sg K Mc He H is ms) (h : Hv K (muA ms ++ Mc) te σ H x) (k : ∀ y, y = x → ∀ H1, Sg K Mc He H1 is ms → tz D (σ.set i (some (.bl y))) H1) : tSeq (tAsg te (gName i)) tz D σ H :=
  z_asgB s h (k x rfl)
theorem z_asgSG {i : Nat} {x : Str} (s : Sg K Mc He H is ms) (h : Hv K (muA ms ++ Mc) te σ H x) (k : ∀ y, y = x → ∀ H1, Sg K Mc He H1 is ms → tz D (σ.set i (some (.str y))) H1) : tSeq (tAsg te (gName i)) tz D σ H :=
  z_asgS s h (k x rfl)
theorem z_augG {i : Nat} {f : Int → Int → Int} {a b : Int} (s : Sg K Mc He H is ms) (hx : σ[i]? = some (some (.int a))) (h : Hv K (muA ms ++ Mc) te σ H b) (k : ∀ y, y = f a b → ∀ H1, Sg K Mc He H1 is ms → tz D (σ.set i (some (.int y))) H1) : tSeq (tAug i te (ipI f)) tz D σ H :=
  ⟨.int a, hx, h H (Ex.refl H) s.mok _ fun v H1 e d => ⟨a, b, rfl, d.int, k _ rfl H1 (s.ex e)⟩⟩
theorem z_nilG {i : Nat} (α : Type) [DecidableEq α] [Dx α] (s : Sg K Mc He H is ms) (k : ∀ y : List α, y = [] → ∀ p H1, Sg K Mc He H1 is ((p, .lst (y.map Dx.toX)) :: ms) → tz D (σ.set i (some (.ref p))) H1) : tSeq (tAsg (tLst tNil) (gName i)) tz D σ H :=
  z_nil s (k [] rfl)
theorem zq_appG {kk : Nat} {l : Addr} {xs : List α} {x : α} (s : Sg K Mc He H is ms) (e : ms[kk]? = some (l, .lst (xs.map Dx.toX))) (hi : Ev ta σ H (.ref l)) (h : Hv K (muA ms ++ Mc) te σ H x) (hz : xs.length < 100000)
    (k : ∀ y, y = xs ++ [x] → ∀ H1, Sg K Mc He H1 is (ms.set kk (l, .lst (y.map Dx.toX))) → tz D σ H1) : tSeq (tDrop (tBM K "list" rAppend ta (tCons te tNil))) tz D σ H := zq_app s e hi h hz (k _ rfl)
theorem zq_ret {x : α} (s : Sg K Mc He H is ms) (h : Hv K (muA ms ++ Mc) te σ H x) (k : ∀ v H1, Ex He H1 → Dt K (msk Mc H1) v x → D.rt v H1) : tSeq (tRet te) tz D σ H := z_ret (D := { D with nx := tz D }) s h k
/-- an if without else -/
theorem z_ifx {b : Bool} (s : Sg K Mc He H is ms) (h : HT (muA ms ++ Mc) tt σ H b) (h1 : b = true → ∀ H1, Sg K Mc He H1 is ms → tu { D with nx := tz D } σ H1) (h2 : b = false → ∀ H1, Sg K Mc He H1 is ms → tz D σ H1) :
    tSeq (tIfS tt tu tNext) tz D σ H := z_if s h h1 h2
/-- an if behind which both ways go on, N what they reach -/
theorem z_ifj {b : Bool} (N : L2.St → Hp → Prop) (s : Sg K Mc He H is ms) (h : HT (muA ms ++ Mc) tt σ H b) (h1 : b = true → ∀ H1, Sg K Mc He H1 is ms → tu { D with nx := N } σ H1) (h2 : b = false → ∀ H1, Sg K Mc He H1 is ms → tw { D with nx := N } σ H1)
    (k : ∀ σ' H', N σ' H' → tz D σ' H') : tCut (tIfS tt tu tw) tz D σ H := ⟨N, z_ifE (D := { D with nx := N }) s h h1 h2, k⟩

/-! ### loops that name their item -/
theorem zq_forR1G {j : Nat} {n : Int} (s : Sg K Mc He H is ms) (h : Hv K (muA ms ++ Mc) te σ H n) (hn : -100000 ≤ n ∧ n ≤ 100000) (Pv : Nat → L2.St → Hp → Prop) (h0 : ∀ H1, Sg K Mc He H1 is ms → Pv 0 σ H1)
    (hs : ∀ (i : Nat) (x : Int) σ' H', x = (0 : Int) + (i : Int) → i < n.toNat → Pv i σ' H' → tu { D with nx := Pv (i + 1), ct := Pv (i + 1), bk := tz D } (σ'.set j (some (.int x))) H') (hd : ∀ σ' H', Pv n.toNat σ' H' → tz D σ' H') : tSeq (tFor (iRng1 (tCons te tNil)) (gName j) tu) tz D σ H :=
  zq_forR s h hn Pv h0 (fun i σ' H' hi p => hs i _ σ' H' (Int.zero_add _).symm (by omega) p) hd
theorem zq_forR2G {j : Nat} {lo n : Int} (s : Sg K Mc He H is ms) (h1 : Hv K (muA ms ++ Mc) ta σ H lo) (h : Hv K (muA ms ++ Mc) te σ H n) (hn : -100000 ≤ lo ∧ lo ≤ 100000 ∧ -100000 ≤ n ∧ n ≤ 100000) (Pv : Nat → L2.St → Hp → Prop) (h0 : ∀ H1, Sg K Mc He H1 is ms → Pv 0 σ H1)
    (hs : ∀ (i : Nat) (x : Int) σ' H', x = lo + (i : Int) → i < (n - lo).toNat → Pv i σ' H' → tu { D with nx := Pv (i + 1), ct := Pv (i + 1), bk := tz D } (σ'.set j (some (.int x))) H') (hd : ∀ σ' H', Pv (n - lo).toNat σ' H' → tz D σ' H') : tSeq (tFor (iRng2 (tCons ta (tCons te tNil))) (gName j) tu) tz D σ H :=
  zq_forR2 s h1 h hn Pv h0 (fun i σ' H' hi p => hs i _ σ' H' rfl (by omega) p) hd
/-- over a list, the target a name; the item put among what is known -/
theorem zq_forG {xs : List α} {j : Nat} (s : Sg K Mc He H is ms) (h : Hv K (muA ms ++ Mc) tl σ H xs) (Pv : V → Nat → L2.St → Hp → Prop) (h0 : ∀ v H1, Sg K Mc He H1 ((v, Dx.toX xs) :: is) ms → Pv v 0 σ H1)
    (hl : ∀ v i σ' H', Pv v i σ' H' → Dt K (msk (muA ms ++ Mc) H') v xs)
    (hs : ∀ v i x w σ' H', xs[i]? = some x → Pv v i σ' H' → Dt K (msk (muA ms ++ Mc) H') w x → tu { D with nx := Pv v (i + 1), ct := Pv v (i + 1), bk := tz D } (σ'.set j (some w)) H')
    (hd : ∀ v σ' H', Pv v xs.length σ' H' → tz D σ' H') : tSeq (tFor (iList K tl) (gName j) tu) tz D σ H := zq_for s h Pv h0 hl hs hd
/-- over a list that may still change (not in the loop) -/
theorem zq_forM {xs : List α} {kk : Nat} {l : Addr} {ii : Nat} (s : Sg K Mc He H is ms) (e : ms[kk]? = some (l, .lst (xs.map Dx.toX))) (hi : σ[ii]? = some (some (.ref l))) (Pv : Nat → L2.St → Hp → Prop) (h0 : ∀ H1, Sg K Mc He H1 is ms → Pv 0 σ H1)
    (hl : ∀ i σ' H', Pv i σ' H' → ∃ vs, H' l = some (.lst vs) ∧ Dts K (msk (muA ms ++ Mc) H') vs xs)
    (hs : ∀ i x w σ' H', xs[i]? = some x → Pv i σ' H' → Dt K (msk (muA ms ++ Mc) H') w x → g w σ' H' fun σ2 H2 => tu { D with nx := Pv (i + 1), ct := Pv (i + 1), bk := tz D } σ2 H2)
    (hd : ∀ σ' H', Pv xs.length σ' H' → tz D σ' H') : tSeq (tFor (iList K (tVar ii)) g tu) tz D σ H := by
  obtain ⟨vs, h1, h2⟩ := s.lst e
  refine ⟨_, hi, l, rfl, ⟨vs, SqL.of h1⟩, for_listD (D := { D with nx := tz D }) (M := muA ms ++ Mc) Pv (h0 H s) (fun i σ' H' _ p => ?_) hs hd⟩
  obtain ⟨vs', h3, h4⟩ := hl i σ' H' p
  exact ⟨vs', SqL.of h3, h4⟩
end
end Ly

namespace Ly
open PySem PySem.Spec PyProof.Rows L2 Evl
open PySem.W (Datum DatumOrd Tup T3 T4)
theorem dts_ints {K : PySem.W.Frag} {H : Hp} : ∀ ns : List Int, Dts K H (ns.map V.int) ns
  | [] => Dts.nil
  | n :: r => Dts.cons (Dt.ofInt n) (dts_ints r)
/-- the law's promise is kept where its mirror is true -/
theorem law_sp {K : PySem.W.Frag} {F : List Int → Bool} {pre : List Int → Prop} {H : Hp} {a : Addr} {ns : List Int} {E : XK} (h : SqL K H a (ns.map V.int)) (p : pre ns) (t : F ns = true) :
    PrD K (fun c : List Int => [Dx.toX c]) pre F [.ref a] H (fun v _ => v = .bl true) E := by
  refine ⟨[], ns, (fun _ z => nomatch z), ?_, p, fun w H' e d => ?_⟩
  · rw [msk_nil]
    exact .cons (Dt.ofList h (dts_ints ns)) .nil
  · rw [d.bool, t]
end Ly

namespace Ly
open PySem PySem.Spec PyProof.Rows L2 Evl
open PySem.W (Datum DatumOrd Tup T3 T4)

section
variable {K : PySem.W.Frag} {Mc M : List Addr} {He H H1 H2 : Hp} {is js : Ims} {ms : Mus} {σ : L2.St} {te ta tb tl : TE} {tt : TT} {g : TG} {tlo thi : TO}
variable {α β γ δ : Type} [DecidableEq α] [Dx α] [DecidableEq β] [Dx β] [DecidableEq γ] [Dx γ] [DecidableEq δ] [Dx δ]
/-! ### parts of lists, copies -/
def HO' (M : List Addr) (to : TO) (σ : L2.St) (H : Hp) (o : Option Int) : Prop := ∀ H1, Ex H H1 → MOk M H1 → ∀ Q : Option Int → Hp → Prop, (∀ H2, Ex H1 H2 → Q o H2) → to σ H1 Q
theorem ho_none : HO' M tNoPart σ H none := fun H1 _ _ _ q => q H1 (Ex.refl H1)
theorem ho_some {i : Int} (h : Hv K M te σ H i) : HO' M (tPart te) σ H (some i) := fun H1 e m _ q => h H1 e m _ fun v H2 e2 d => ⟨i, d.int, q H2 e2⟩
def cutL {α : Type} (xs : List α) (lo hi : Option Int) : List α := (xs.drop (HT.sIx xs.length 0 lo)).take (HT.sIx xs.length xs.length hi - HT.sIx xs.length 0 lo)
theorem dpa_drop {H : Hp} : ∀ {vs : List V} {ds : List Xd} (n : Nat), XpAll K H vs ds → XpAll K H (vs.drop n) (ds.drop n)
  | _, _, 0, h => h
  | _, _, n + 1, .nil => .nil
  | _, _, n + 1, .cons a b => dpa_drop n b
theorem dpa_take {H : Hp} : ∀ {vs : List V} {ds : List Xd} (n : Nat), XpAll K H vs ds → XpAll K H (vs.take n) (ds.take n)
  | _, _, 0, h => by simpa using XpAll.nil
  | _, _, n + 1, .nil => .nil
  | _, _, n + 1, .cons a b => .cons a (dpa_take n b)
theorem Dts.cut {H : Hp} {vs : List V} {xs : List α} {lo hi : Option Int} (h : Dts K H vs xs) : Dts K H (cutV vs lo hi) (cutL xs lo hi) := by
  unfold cutV cutL Dts
  rw [h.len, List.map_take, List.map_drop]
  exact dpa_take _ (dpa_drop _ h)
theorem hv_slice {xs : List α} {lo hi : Option Int} (h : HS K M te σ H xs) (h1 : HO' M tlo σ H lo) (h2 : HO' M thi σ H hi) : Hv K M (tSl (rSlL K) te tlo thi) σ H (cutL xs lo hi) := fun H1 e m Q q =>
  h H1 e m _ fun a vs H2 e2 s d => h1 H2 (e.trans e2) (m.ex e2) _ fun H3 e3 => h2 H3 ((e.trans e2).trans e3) ((m.ex e2).ex e3) _ fun H4 e4 =>
    ⟨a, vs, rfl, ex_l (e3.trans e4) s, fun p hp => by
      have m4 := ((m.ex e2).ex e3).ex e4
      have e5 : Ex H4 (upd H4 p (.lst (cutV vs lo hi))) := Ex.new hp
      exact q _ _ (((e2.trans e3).trans e4).trans e5) (Dt.ofList (SqL.of (msk_at m4 hp)) ((d.mono (msk_ex ((e3.trans e4).trans e5))).cut))⟩
theorem hv_listOf {xs : List α} (h : HS K M te σ H xs) : Hv K M (tCB (fun xs H Q => ∃ p ys, xs = [.ref p] ∧ (SqL K H p ys ∨ SqT K H p ys) ∧ ∀ l, H l = none → Q (.ref l) (upd H l (.lst ys))) (tCons te tNil)) σ H xs := fun H1 e m Q q =>
  h H1 e m _ fun a vs H2 e2 s d => ⟨a, vs, rfl, Or.inl s, fun p hp => by
    have e3 : Ex H2 (upd H2 p (.lst vs)) := Ex.new hp
    exact q _ _ (e2.trans e3) (Dt.ofList (SqL.of (msk_at (m.ex e2) hp)) (d.mono (msk_ex e3)))⟩
theorem hv_listOfV {xs : Tup α} (h : Hv K M te σ H xs) : Hv K M (tCB (fun xs H Q => ∃ p ys, xs = [.ref p] ∧ (SqL K H p ys ∨ SqT K H p ys) ∧ ∀ l, H l = none → Q (.ref l) (upd H l (.lst ys))) (tCons te tNil)) σ H xs.items := fun H1 e m Q q =>
  h H1 e m _ fun v H2 e2 d => by
    obtain ⟨a, vs, rfl, s, ds⟩ := d.tupv
    refine ⟨a, vs, rfl, Or.inr (ex_t msk_le s), fun p hp => ?_⟩
    have e3 : Ex H2 (upd H2 p (.lst vs)) := Ex.new hp
    exact q _ _ (e2.trans e3) (Dt.ofList (SqL.of (msk_at (m.ex e2) hp)) (ds.mono (msk_ex e3)))
theorem hv_tupleOf {xs : List α} (h : HS K M te σ H xs) : Hv K M (tCB (fun xs H Q => ∃ p ys, xs = [.ref p] ∧ ((SqL K H p ys ∧ ∀ l, H l = none → Q (.ref l) (upd H l (.tup ys))) ∨ (SqT K H p ys ∧ Q (.ref p) H))) (tCons te tNil)) σ H (Tup.mk xs) := fun H1 e m Q q =>
  h H1 e m _ fun a vs H2 e2 s d => ⟨a, vs, rfl, Or.inl ⟨s, fun p hp => by
    have e3 : Ex H2 (upd H2 p (.tup vs)) := Ex.new hp
    exact q _ _ (e2.trans e3) (Dt.ofTupv (SqT.of (msk_at (m.ex e2) hp)) (d.mono (msk_ex e3)))⟩⟩
theorem hv_cat {xs ys : List α} (ha : HS K M ta σ H xs) (hb : HS K M tb σ H ys) (hz : xs.length + ys.length ≤ 100000) :
    Hv K M (tOp (fun x y H Q => ∃ a b xs ys, x = .ref a ∧ y = .ref b ∧ SqL K H a xs ∧ SqL K H b ys ∧ xs.length + ys.length ≤ sizeLine ∧ ∀ p, H p = none → Q (.ref p) (upd H p (.lst (xs ++ ys)))) ta tb) σ H (xs ++ ys) := fun H1 e m Q q =>
  ha H1 e m _ fun a vs H2 e2 s d => hb H2 (e.trans e2) (m.ex e2) _ fun b ws H3 e3 s' d' =>
    ⟨a, b, vs, ws, rfl, rfl, ex_l e3 s, s', sz_of (by rw [d.len, d'.len]; exact hz), fun p hp => by
      have m3 := (m.ex e2).ex e3
      have e4 : Ex H3 (upd H3 p (.lst (vs ++ ws))) := Ex.new hp
      exact q _ _ ((e2.trans e3).trans e4) (Dt.ofList (SqL.of (msk_at m3 hp)) ((d.mono (msk_ex (e3.trans e4))).app (d'.mono (msk_ex e4))))⟩
/-! ### truth, None -/
theorem ht_truL {xs : List α} (h : HS K M te σ H xs) : HT M (fun σ H Q => te σ H fun x H' => ∃ k, TruV K x H' k ∧ Q k H') σ H (!xs.isEmpty) := fun H1 e m Q q =>
  h H1 e m _ fun a vs H2 e2 s d => ⟨!vs.isEmpty, Or.inl ⟨vs, s, rfl⟩, by
    have : vs.isEmpty = xs.isEmpty := by
      have := d.len
      cases vs <;> cases xs <;> simp_all
    rw [this]
    exact q H2 e2⟩
theorem dt_none [SomeX α] {v : V} {x : Option α} (d : Dt K H v x) : decide (v = .non) = x.isNone := by
  cases x with
  | none => cases (show Xp K H v .none from d); rfl
  | some a =>
    have n := SomeX.some a
    have d' : Xp K H v (Dx.toX a) := d
    generalize Dx.toX a = z at n d'
    cases d' with
    | non => exact absurd rfl n
    | _ => rfl
theorem hv_isN [SomeX α] {x : Option α} (h : Hv K M ta σ H x) : Hv K M (tOp (fun x y H Q => y = .non ∧ Q (.bl (decide (x = .non))) H) ta (tC .non)) σ H x.isNone := fun H1 e m Q q =>
  h H1 e m _ fun v H2 e2 d => ⟨rfl, q _ H2 e2 (by rw [dt_none d]; exact Dt.ofBool _)⟩
theorem hv_notN [SomeX α] {x : Option α} (h : Hv K M ta σ H x) : Hv K M (tOp (fun x y H Q => y = .non ∧ Q (.bl (!decide (x = .non))) H) ta (tC .non)) σ H (!x.isNone) := fun H1 e m Q q =>
  h H1 e m _ fun v H2 e2 d => ⟨rfl, q _ H2 e2 (by rw [dt_none d]; exact Dt.ofBool _)⟩
theorem hv_un [SomeX α] {x : α} (h : Hv K M te σ H (some x)) : Hv K M te σ H x := fun H1 e m Q q => h H1 e m Q fun v H2 e2 d => q v H2 e2 d

/-! ### comprehensions -/
theorem take_snoc {xs : List α} {i : Nat} {x : α} (h : xs[i]? = some x) : xs.take (i + 1) = xs.take i ++ [x] := by
  rw [List.take_add_one, h]; rfl
theorem lc_listD {a : Addr} {xs : List α} {vs : List Nat} {D : Addr} {Qd : Hp → Prop} {M' : List Addr} (Pv : Nat → Hp → Prop) (h0 : Pv 0 (upd H1 D (.lst []))) (hl : ∀ i H', i ≤ xs.length → Pv i H' → ∃ us, SqL K H' a us ∧ Dts K (msk M' H') us xs)
    (hs : ∀ i x w H', xs[i]? = some x → Pv i H' → Dt K (msk M' H') w x → g w (wipe σ vs) H' fun σ2 H2 => wipe σ2 vs = wipe σ vs ∧ tt σ2 H2 fun b H3 =>
      if b = true then te σ2 H3 fun y H4 => ∃ acc, H4 D = some (.lst acc) ∧ acc.length < sizeLine ∧ Pv (i + 1) (upd H4 D (.lst (acc ++ [y]))) else Pv (i + 1) H3) (hd : ∀ H', Pv xs.length H' → Qd H') :
    ∃ W : Nat → Nat → Hp → Prop, (∃ m, W 0 m (upd H1 D (.lst []))) ∧ ∀ i m H, W i m H →
      ((Itl K a).stop i H ∧ Qd H) ∨ ((Itl K a).go i H ∧ ∃ Nx : Hp → Prop, (∀ H', Nx H' → ∃ m', m' < m ∧ W (i + 1) m' H') ∧ ∀ x H', (Itl K a).yld i H x H' → g x (wipe σ vs) H' fun σ2 H2 => wipe σ2 vs = wipe σ vs ∧ tt σ2 H2 fun b H3 =>
        if b = true then te σ2 H3 fun y H4 => ∃ acc, H4 D = some (.lst acc) ∧ acc.length < sizeLine ∧ Nx (upd H4 D (.lst (acc ++ [y]))) else Nx H3) := by
  refine ⟨fun i m H => m = xs.length - i ∧ i ≤ xs.length ∧ Pv i H, ⟨xs.length, by simp, Nat.zero_le _, h0⟩, ?_⟩
  rintro i m H ⟨rfl, hi, p⟩
  obtain ⟨us, q, ds⟩ := hl i H hi p
  have el := ds.len
  by_cases hlt : i < xs.length
  · refine .inr ⟨⟨us, us[i]'(by omega), q, by simp [show i < us.length by omega]⟩, Pv (i + 1), fun H' p' => ⟨xs.length - (i + 1), by omega, rfl, hlt, p'⟩, fun x H' y => ?_⟩
    obtain ⟨e, y⟩ := y
    subst e
    obtain ⟨w, h1, h2⟩ := ds.at (i := i) (x := xs[i]) (by simp [hlt])
    have e1 : x = w := Option.some.inj ((y us q).symm.trans h1)
    subst e1
    exact hs i _ x _ (by simp [hlt]) p h2
  · have e : i = xs.length := by omega
    subst e
    exact .inl ⟨⟨us, q, by omega⟩, hd H p⟩
/-- a turn's end: the item goes behind the others, or not -/
theorem lc_turn {D : Addr} {ys zs : List β} {b : Bool} {y : β} {σ2 : L2.St} (s : Sg K Mc He H is ((D, .lst (ys.map Dx.toX)) :: ms)) (hz : ys.length < 50000) (N : Hp → Prop)
    (ht : HT (muA ((D, Mv.lst (ys.map Dx.toX)) :: ms) ++ Mc) tt σ2 H b) (he : b = true → Hv K (muA ((D, Mv.lst (ys.map Dx.toX)) :: ms) ++ Mc) te σ2 H y)
    (hzs : zs = if b = true then ys ++ [y] else ys) (hN : ∀ H', (∃ H4, Ex H H4 ∧ (H' = H4 ∨ ∃ o, H' = upd H4 D o)) → Sg K Mc He H' is ((D, .lst (zs.map Dx.toX)) :: ms) → N H') :
    tt σ2 H fun b' H3 => if b' = true then te σ2 H3 fun v H4 => ∃ acc, H4 D = some (.lst acc) ∧ acc.length < sizeLine ∧ N (upd H4 D (.lst (acc ++ [v]))) else N H3 := by
  refine ht H (Ex.refl H) s.mok _ fun H3 e3 => ?_
  cases b with
  | false =>
    show N H3
    rw [if_neg Bool.false_ne_true] at hzs
    subst hzs
    exact hN H3 ⟨H3, e3, .inl rfl⟩ (s.ex e3)
  | true =>
    show te σ2 H3 fun v H4 => ∃ acc, H4 D = some (.lst acc) ∧ acc.length < sizeLine ∧ N (upd H4 D (.lst (acc ++ [v])))
    rw [if_pos rfl] at hzs
    subst hzs
    refine he rfl H3 e3 ((s.ex e3).mok) _ fun v H4 e4 d => ?_
    have s4 := (s.ex e3).ex e4
    obtain ⟨us, h1, h2⟩ := s4.lst (k := 0) rfl
    refine ⟨us, h1, sz_lt (by rw [h2.len]; omega), hN _ ⟨H4, e3.trans e4, .inr ⟨_, rfl⟩⟩ (s4.set (k := 0) (m' := .lst ((ys ++ [y]).map Dx.toX)) rfl ⟨_, rfl, ?_⟩)⟩
    rw [List.map_append]
    exact dpa_app h2 (.cons d .nil)
theorem filter_snoc {f : α → Bool} {ef : α → β} {xs : List α} {i : Nat} {x : α} (h : xs[i]? = some x) : ((xs.take (i + 1)).filter f).map ef = if f x = true then ((xs.take i).filter f).map ef ++ [ef x] else ((xs.take i).filter f).map ef := by
  rw [take_snoc h, List.filter_append, List.map_append]
  by_cases e : f x = true
  · rw [if_pos e]; simp [List.filter_cons, e]
  · rw [if_neg e]; simp [List.filter_cons, e]
theorem hv_lcL {vs : List Nat} (s : Sg K Mc He H is ms) {xs : List α} (f : α → Bool) (ef : α → β) (h : Hv K (muA ms ++ Mc) tl σ H xs) (hz : xs.length ≤ 40000)
    (hb : ∀ D src x w (ys : List β) H1, Sg K Mc He H1 ((w, Dx.toX x) :: (src, Dx.toX xs) :: is) ((D, .lst (ys.map Dx.toX)) :: ms) → x ∈ xs →
      ∀ Q : L2.St → Hp → Prop, (∀ σ2, wipe σ2 vs = wipe σ vs → HT (muA ((D, Mv.lst (ys.map Dx.toX)) :: ms) ++ Mc) tt σ2 H1 (f x) → (f x = true → Hv K (muA ((D, Mv.lst (ys.map Dx.toX)) :: ms) ++ Mc) te σ2 H1 (ef x)) → Q σ2 H1) → g w (wipe σ vs) H1 Q) :
    Hv K (muA ms ++ Mc) (tLc (iList K tl) g tt te vs) σ H ((xs.filter f).map ef) := fun H1 e m Q q =>
  h H1 e m _ fun v H2 e2 d => by
    obtain ⟨a, us, rfl, s1, ds⟩ := d.list
    refine ⟨a, rfl, ⟨us, ex_l msk_le s1⟩, fun D hD => ?_⟩
    have sA : Sg K Mc He H2 ((.ref a, Dx.toX xs) :: is) ms := ((s.ex e).ex e2).put d
    have sB : Sg K Mc He (upd H2 D (.lst [])) ((.ref a, Dx.toX xs) :: is) ((D, .lst (([] : List β).map Dx.toX)) :: ms) := sA.new hD ⟨[], rfl, .nil⟩
    refine lc_listD (xs := xs) (M' := D :: (muA ms ++ Mc)) (fun i H' => Ex H2 H' ∧ Sg K Mc He H' ((.ref a, Dx.toX xs) :: is) ((D, .lst ((((xs.take i).filter f).map ef).map Dx.toX)) :: ms)) ⟨Ex.new hD, sB⟩
      (fun i H' _ p => ?_) (fun i x w H' hx p dw => ?_) (fun H' p => ?_)
    · obtain ⟨a', us', e', s2, ds'⟩ := Dt.list (α := α) p.2.im.1
      cases e'
      exact ⟨us', ex_l msk_le s2, ds'⟩
    · have hi : i < xs.length := (List.getElem?_eq_some_iff.mp hx).1
      refine hb D (.ref a) x w _ H' (p.2.put dw) (List.mem_of_getElem? hx) _ fun σ2 hw ht he => ⟨hw, ?_⟩
      have hlen : (((xs.take i).filter f).map ef).length < 50000 := by
        rw [List.length_map]
        have := List.length_filter_le f (xs.take i)
        rw [List.length_take] at this
        omega
      have key := lc_turn (ms := ms) (zs := ((xs.take (i + 1)).filter f).map ef) p.2 hlen (fun H3 => Ex H2 H3 ∧ Sg K Mc He H3 ((.ref a, Dx.toX xs) :: is) ((D, .lst ((((xs.take (i + 1)).filter f).map ef).map Dx.toX)) :: ms)) ht he (filter_snoc hx) (fun H3 h4 s3 => ⟨by
        obtain ⟨H4, e4, e5⟩ := h4
        rcases e5 with e5 | ⟨o, e5⟩
        · rw [e5]; exact p.1.trans e4
        · rw [e5]; exact Ex.mut (p.1.trans e4) hD, s3⟩)
      exact key
    · have z := p.2
      rw [List.take_length] at z
      exact q _ H' (e2.trans p.1) (z.frz).im.1

/-- without a test -/
theorem hv_lcL0 {vs : List Nat} (s : Sg K Mc He H is ms) {xs : List α} (ef : α → β) (h : Hv K (muA ms ++ Mc) tl σ H xs) (hz : xs.length ≤ 40000)
    (hb : ∀ D src x w (ys : List β) H1, Sg K Mc He H1 ((w, Dx.toX x) :: (src, Dx.toX xs) :: is) ((D, .lst (ys.map Dx.toX)) :: ms) → x ∈ xs →
      ∀ Q : L2.St → Hp → Prop, (∀ σ2, wipe σ2 vs = wipe σ vs → Hv K (muA ((D, Mv.lst (ys.map Dx.toX)) :: ms) ++ Mc) te σ2 H1 (ef x) → Q σ2 H1) → g w (wipe σ vs) H1 Q) :
    Hv K (muA ms ++ Mc) (tLc (iList K tl) g tYes te vs) σ H (xs.map ef) := by
  have key := hv_lcL (g := g) (tt := tYes) (te := te) (vs := vs) s (fun _ => true) ef h hz (fun D src x w ys H1 s1 hx Q k => hb D src x w ys H1 s1 hx Q fun σ2 hw he => k σ2 hw (fun H2 _ _ _ q => q H2 (Ex.refl H2)) fun _ => he)
  exact key.is (by rw [List.filter_eq_self.mpr (fun _ _ => rfl)])
/-- 0, 1, .. below n -/
def irng (lo : Int) (n : Nat) : List Int := (List.range n).map fun (i : Nat) => lo + (i : Int)
theorem irng_get {lo : Int} {n i : Nat} (h : i < n) : (irng lo n)[i]? = some (lo + (i : Int)) := by
  unfold irng
  rw [List.getElem?_map, List.getElem?_range h]
  rfl
theorem irng_len {lo : Int} {n : Nat} : (irng lo n).length = n := by unfold irng; rw [List.length_map, List.length_range]
theorem hv_lcR {vs : List Nat} (s : Sg K Mc He H is ms) {n : Int} (f : Int → Bool) (ef : Int → β) (h : Hv K (muA ms ++ Mc) ta σ H n) (hz : -100000 ≤ n ∧ n ≤ 40000)
    (hb : ∀ D (x : Int) (ys : List β) H1, Sg K Mc He H1 is ((D, .lst (ys.map Dx.toX)) :: ms) → 0 ≤ x ∧ x < n →
      ∀ Q : L2.St → Hp → Prop, (∀ σ2, wipe σ2 vs = wipe σ vs → HT (muA ((D, Mv.lst (ys.map Dx.toX)) :: ms) ++ Mc) tt σ2 H1 (f x) → (f x = true → Hv K (muA ((D, Mv.lst (ys.map Dx.toX)) :: ms) ++ Mc) te σ2 H1 (ef x)) → Q σ2 H1) → g (.int x) (wipe σ vs) H1 Q) :
    Hv K (muA ms ++ Mc) (tLc (iRng1 (tCons ta tNil)) g tt te vs) σ H (((irng 0 n.toNat).filter f).map ef) := fun H1 e m Q q =>
  h H1 e m _ fun v H2 e2 d => by
    refine ⟨n, by rw [d.int], by omega, by omega, fun D hD => ?_⟩
    have sA : Sg K Mc He H2 is ms := (s.ex e).ex e2
    have sB : Sg K Mc He (upd H2 D (.lst [])) is ((D, .lst (([] : List β).map Dx.toX)) :: ms) := sA.new hD ⟨[], rfl, .nil⟩
    refine lc_range (lo := 0) (n := n.toNat) (fun i H' => Ex H2 H' ∧ Sg K Mc He H' is ((D, .lst (((((irng 0 n.toNat).take i).filter f).map ef).map Dx.toX)) :: ms)) ⟨Ex.new hD, sB⟩
      (fun i H' hi p => ?_) (fun H' p => ?_)
    · have hx : (irng 0 n.toNat)[i]? = some ((0 : Int) + (i : Int)) := irng_get hi
      refine hb D ((0 : Int) + (i : Int)) _ H' p.2 ⟨by omega, by omega⟩ _ fun σ2 hw ht he => ⟨hw, ?_⟩
      have hlen : ((((irng 0 n.toNat).take i).filter f).map ef).length < 50000 := by
        rw [List.length_map]
        have := List.length_filter_le f ((irng 0 n.toNat).take i)
        rw [List.length_take, irng_len] at this
        omega
      exact lc_turn (ms := ms) (zs := (((irng 0 n.toNat).take (i + 1)).filter f).map ef) p.2 hlen (fun H3 => Ex H2 H3 ∧ Sg K Mc He H3 is ((D, .lst (((((irng 0 n.toNat).take (i + 1)).filter f).map ef).map Dx.toX)) :: ms)) ht he (filter_snoc hx) (fun H3 h4 s3 => ⟨by
        obtain ⟨H4, e4, e5⟩ := h4
        rcases e5 with e5 | ⟨o, e5⟩
        · rw [e5]; exact p.1.trans e4
        · rw [e5]; exact Ex.mut (p.1.trans e4) hD, s3⟩)
    · have z := p.2
      have et : (irng 0 n.toNat).take n.toNat = irng 0 n.toNat := List.take_of_length_le (by rw [irng_len]; exact Nat.le_refl _)
      rw [et] at z
      exact q _ H' (e2.trans p.1) (z.frz).im.1
theorem hv_lcR0 {vs : List Nat} (s : Sg K Mc He H is ms) {n : Int} (ef : Int → β) (h : Hv K (muA ms ++ Mc) ta σ H n) (hz : -100000 ≤ n ∧ n ≤ 40000)
    (hb : ∀ D (x : Int) (ys : List β) H1, Sg K Mc He H1 is ((D, .lst (ys.map Dx.toX)) :: ms) → 0 ≤ x ∧ x < n →
      ∀ Q : L2.St → Hp → Prop, (∀ σ2, wipe σ2 vs = wipe σ vs → Hv K (muA ((D, Mv.lst (ys.map Dx.toX)) :: ms) ++ Mc) te σ2 H1 (ef x) → Q σ2 H1) → g (.int x) (wipe σ vs) H1 Q) :
    Hv K (muA ms ++ Mc) (tLc (iRng1 (tCons ta tNil)) g tYes te vs) σ H ((irng 0 n.toNat).map ef) := by
  have key := hv_lcR (g := g) (tt := tYes) (te := te) (vs := vs) s (fun _ => true) ef h hz (fun D x ys H1 s1 hx Q k => hb D x ys H1 s1 hx Q fun σ2 hw he => k σ2 hw (fun H2 _ _ _ q => q H2 (Ex.refl H2)) fun _ => he)
  exact key.is (by rw [List.filter_eq_self.mpr (fun _ _ => rfl)])
end
/-! ### the least of a list -/
section
variable {K : PySem.W.Frag} {M : List Addr} {σ : L2.St} {H : Hp} {te : TE}
variable {α : Type} [DecidableEq α] [Dx α] [DatumOrd α]
theorem toD_inj {a b : α} (h : Datum.toD a = Datum.toD b) : a = b := by
  have e := Datum.eqv a b
  rw [h, Datum.eqv b b] at e
  simpa using e.symm
theorem holds_inj {h : Heap} {v : Value} {a b : α} (x : PySem.W.Holds h v a) (y : PySem.W.Holds h v b) : a = b := by
  obtain ⟨as, r⟩ := x
  obtain ⟨bs, r'⟩ := y
  exact toD_inj (PySem.W.alike_unique _ _ _ _ _ (DatumOrd.alike a b) r r')
def minL (l : List α) (d : α) : α := match l with
  | [] => d
  | x :: r => PySem.W.minOf x r
def rMinT (α : Type) [DecidableEq α] [Dx α] [DatumOrd α] (K : PySem.W.Frag) : List V → Hp → VK → Prop := fun vs H Q => ∃ (a : Addr) (us : List V) (x : α) (xs : List α), vs = [V.ref a] ∧ SqL K H a us ∧ Dts K H us (x :: xs) ∧ ∀ (i : Nat) (v : V), us[i]? = some v → (x :: xs)[i]? = some (PySem.W.minOf x xs) → Q v H
theorem dts_holdAll [DxD α] {X : Cx} {pins : List (Addr × Obj)} {s : Shared} (I : L2.Inv X pins σ H s) {us : List V} {its : List Value} {xs : List α} (d : Dts X.K H us xs) (r : Vals us its) : PySem.W.HoldAll s.heap its xs := Dp.readsAll I _ us its (link_all d) r
theorem call_minT [DxD α] {X : Cx} (hc : X.calm = true) (hu : X.A.units + 1 + Datum.depth α < cLine) : CallR X (.builtin "min") (rMinT α X.K) := by
  intro pins s σ H vs us Q I r h
  obtain ⟨a, ws, x, xs, rfl, hS, hD, q⟩ := h
  obtain ⟨u, rfl, rx⟩ := vals1 r
  cases rx
  obtain ⟨its, rv, pl, hz⟩ := I.list hS
  refine PySem.W.min_list_datum (I.ok.hd hc) pl.isList (dts_holdAll I hD rv) hu fun i v h' tk hi hold kk => ?_
  have hi' : its[i]? = some v := by simpa using hi
  have hlen := rv.length
  have hil : i < ws.length := by
    have := (List.getElem?_eq_some_iff.mp hi').1
    omega
  obtain ⟨u', e1, e2⟩ := rv.get (i := i) (x := ws[i]) (by simp [hil])
  rw [hi'] at e1
  cases e1
  have hx2 : ∃ z, (x :: xs)[i]? = some z := ⟨(x :: xs)[i]'(by rw [← hD.len]; exact hil), by simp [hD.len ▸ hil]⟩
  obtain ⟨z, hz2⟩ := hx2
  obtain ⟨w, w1, w2⟩ := hD.at hz2
  have ew : w = ws[i] := by
    rw [List.getElem?_eq_getElem hil] at w1
    exact (Option.some.inj w1).symm
  subst ew
  have I' : L2.Inv X pins σ H { s with heap := h', toks := tk } := I.kept kk
  have ez : z = PySem.W.minOf x xs := holds_inj (dt_holds I' w2 e2) hold
  exact ⟨_, H, I', e2, q i _ (by simp [hil]) (by rw [← ez]; exact hz2)⟩
theorem hv_min {xs : List α} (d : α) (h : HS K M te σ H xs) (hne : xs ≠ []) : Hv K M (tCB (rMinT α K) (tCons te tNil)) σ H (minL xs d) := fun H1 e m Q q =>
  h H1 e m _ fun a vs H2 e2 s ds => by
    cases xs with
    | nil => exact absurd rfl hne
    | cons x r =>
      refine ⟨a, vs, x, r, rfl, s, ds.mono msk_le, fun i v hv hx => ?_⟩
      obtain ⟨w, w1, w2⟩ := ds.at hx
      rw [hv] at w1
      cases w1
      exact q v H2 e2 w2
end
theorem hud1 {A : Around} {k d : Nat} (hr : Room k A) (h : 1 + d ≤ 64) : A.units + 1 + d < cLine := by
  have := hud hr h
  omega
/-! ### what a loop keeps -/
theorem loopN_keep {S : Type} {f : S → Int → S} (P : S → Nat → Prop) (h : ∀ s k j, P s j → P (f s k) (j + 1)) : ∀ (n : Nat) (k : Int) (s : S) (j : Nat), P s j → P (loopN f n k s) (j + n)
  | 0, _, _, _, p => p
  | n + 1, k, s, j, p => by
    have := loopN_keep P h n (k + 1) (f s k) (j + 1) (h s k j p)
    show P (loopN f n (k + 1) (f s k)) (j + (n + 1))
    rw [show j + (n + 1) = j + 1 + n by omega]
    exact this
theorem sIx_nn {n d : Nat} {i : Int} (h : 0 ≤ i) : HT.sIx n d (some i) = min i.toNat n := by
  have e : i = ((i.toNat : Nat) : Int) := (Int.toNat_of_nonneg h).symm
  rw [e]
  exact HT.sIx_nat n d i.toNat
theorem cutL_from {α : Type} {xs : List α} {i : Int} (h : 0 ≤ i) : cutL xs (some i) none = xs.drop i.toNat := by
  unfold cutL
  rw [sIx_nn h, HT.sIx_none]
  by_cases e : i.toNat ≤ xs.length
  · rw [Nat.min_eq_left e]
    exact List.take_of_length_le (by rw [List.length_drop]; exact Nat.le_refl _)
  · rw [Nat.min_eq_right (by omega), List.drop_eq_nil_of_le (Nat.le_refl _), List.drop_eq_nil_of_le (by omega)]
    exact List.take_nil
theorem cutL_to {α : Type} {xs : List α} {i : Int} (h : 0 ≤ i) : cutL xs none (some i) = xs.take i.toNat := by
  unfold cutL
  rw [sIx_nn h, HT.sIx_none, List.drop_zero, Nat.sub_zero, List.take_eq_take_iff]
  omega
end Ly

namespace Ly
open PySem PySem.Spec PyProof.Rows L2 Evl
open PySem.W (Datum DatumOrd Tup T3 T4 minOf)
section
variable {α : Type} [DecidableEq α] [DatumOrd α]
theorem lt_irrefl (a : α) : DatumOrd.lt a a = false := by
  rw [← DatumOrd.lt_eq]; exact PySem.W.dataLt_self _
theorem lt_trans {a b c : α} (h : DatumOrd.lt a b = true) (h' : DatumOrd.lt b c = true) : DatumOrd.lt a c = true := by
  rw [← DatumOrd.lt_eq] at h h' ⊢
  exact lex_trans _ _ _ h h'
theorem lt_total {a b : α} (h : DatumOrd.lt a b = false) (h' : DatumOrd.lt b a = false) : Datum.toD a = Datum.toD b ∨ PySem.W.keyToks (Datum.toD a) = PySem.W.keyToks (Datum.toD b) := by
  rw [← DatumOrd.lt_eq] at h h'
  exact .inr (lex_total _ _ h h')
theorem lt_neg {a b c : α} (h : DatumOrd.lt a c = true) : DatumOrd.lt a b = true ∨ DatumOrd.lt b c = true := by
  rw [← DatumOrd.lt_eq] at h
  rw [← DatumOrd.lt_eq, ← DatumOrd.lt_eq]
  exact lex_negTrans _ _ _ h
theorem minOf_spec : ∀ (xs : List α) (x : α), minOf x xs ∈ x :: xs ∧ ∀ y ∈ x :: xs, DatumOrd.lt y (minOf x xs) = false
  | [], x => ⟨List.mem_cons_self, fun y hy => by
    have e : y = x := by simpa using hy
    rw [e]; exact lt_irrefl x⟩
  | z :: r, x => by
    have e : minOf x (z :: r) = minOf (if DatumOrd.lt z x = true then z else x) r := rfl
    rw [e]
    by_cases h : DatumOrd.lt z x = true
    · rw [if_pos h]
      obtain ⟨h1, h2⟩ := minOf_spec r z
      refine ⟨?_, fun y hy => ?_⟩
      · rcases List.mem_cons.mp h1 with q | q
        · rw [q]; simp
        · simp [q]
      · rcases List.mem_cons.mp hy with q | q
        · subst q
          cases hq : DatumOrd.lt y (minOf z r) with
          | false => rfl
          | true => exact absurd (lt_trans h hq) (by rw [h2 z List.mem_cons_self]; decide)
        · exact h2 y q
    · rw [if_neg h]
      obtain ⟨h1, h2⟩ := minOf_spec r x
      refine ⟨?_, fun y hy => ?_⟩
      · rcases List.mem_cons.mp h1 with q | q
        · rw [q]; simp
        · simp [q]
      · rcases List.mem_cons.mp hy with q | q
        · subst q; exact h2 y List.mem_cons_self
        · rcases List.mem_cons.mp q with q | q
          · subst q
            cases hq : DatumOrd.lt y (minOf x r) with
            | false => rfl
            | true =>
              rcases lt_neg (b := x) hq with q2 | q2
              · exact absurd q2 h
              · exact absurd q2 (by rw [h2 x List.mem_cons_self]; decide)
          · exact h2 y (List.mem_cons_of_mem _ q)
end
end Ly

namespace Ly
open PySem PySem.Spec PyProof.Rows L2 Evl
open PySem.W (Datum DatumOrd Tup T3 T4 minOf)
section
variable {K : PySem.W.Frag} {Mc M : List Addr} {He H H1 H2 : Hp} {is js : Ims} {ms : Mus} {σ : L2.St} {te ta tb tl : TE} {tt : TT} {g : TG} {tlo thi : TO}
variable {D : Ends} {tz tu tw : TS}
/-! ### texts -/
theorem hv_addS {a b : Str} (ha : Hv K M ta σ H a) (hb : Hv K M tb σ H b) (hz : a.length + b.length ≤ 100000) :
    Hv K M (tOp (fun x y H Q => ∃ i j, x = .str i ∧ y = .str j ∧ i.length + j.length ≤ sizeLine ∧ Q (.str (i ++ j)) H) ta tb) σ H (a ++ b) := fun H1 e m Q q =>
  ha H1 e m _ fun v H2 e2 d => hb H2 (e.trans e2) (m.ex e2) _ fun u H3 e3 d' => ⟨a, b, d.str, d'.str, sz_of hz, q _ H3 (e2.trans e3) (Dt.ofStr _)⟩
theorem hv_lower {a : Str} (ha : Hv K M ta σ H a) (hz : a.length ≤ 100000) : Hv K M (tM0 (fun x xs H Q => ∃ a, x = .str a ∧ xs = [] ∧ a.length ≤ 5592405 ∧ Q (.str (Txt.lower a)) H) ta) σ H (Txt.lower a) := fun H1 e m Q q =>
  ha H1 e m _ fun v H2 e2 d => ⟨⟨a, d.str⟩, a, d.str, rfl, by omega, q _ H2 e2 (Dt.ofStr _)⟩
theorem hv_lenS {a : Str} (ha : Hv K M ta σ H a) (hz : a.length ≤ 100000) : Hv K M (tCB (fun xs H Q => ∃ x n, xs = [x] ∧ LenV K x H n ∧ Q (.int n) H) (tCons ta tNil)) σ H (a.length : Int) := fun H1 e m Q q =>
  ha H1 e m _ fun v H2 e2 d => ⟨v, a.length, rfl, by rw [d.str]; exact ⟨sz_of hz, rfl⟩, q _ H2 e2 (Dt.ofInt _)⟩
/-- the sign at a place -/
def strAt (s : Str) (i : Nat) : Str := ⟨#[s.cps.toList.getD i 0]⟩
theorem hv_ixStr {a : Str} {i : Int} (ha : Hv K M ta σ H a) (hb : Hv K M tb σ H i) (hz : a.length ≤ 100000) (h0 : 0 ≤ i) (h1 : i < (a.length : Int)) : Hv K M (tOp rIxS ta tb) σ H (strAt a i.toNat) := fun H1 e m Q q =>
  ha H1 e m _ fun v H2 e2 d => hb H2 (e.trans e2) (m.ex e2) _ fun u H3 e3 d' => by
    have hl : i.toNat < a.cps.toList.length := by
      have : a.length = a.cps.toList.length := by simp [Str.length]
      omega
    refine ⟨a, i, a.cps.toList.getD i.toNat 0, d.str, d'.int, sz_of hz, ?_, q _ H3 (e2.trans e3) (Dt.ofStr _)⟩
    rw [show i = ((i.toNat : Nat) : Int) from (Int.toNat_of_nonneg h0).symm]
    refine atI_nat ?_
    rw [List.getD_eq_getElem?_getD, Int.toNat_natCast, List.getElem?_eq_getElem hl]
    rfl
theorem hv_sliceS {a : Str} {lo hi : Option Int} (h : Hv K M te σ H a) (h1 : HO' M tlo σ H lo) (h2 : HO' M thi σ H hi) (hz : a.length ≤ 100000) : Hv K M (tSl rSlS te tlo thi) σ H (cutS a lo hi) := fun H1 e m Q q =>
  h H1 e m _ fun v H2 e2 d => h1 H2 (e.trans e2) (m.ex e2) _ fun H3 e3 => h2 H3 ((e.trans e2).trans e3) ((m.ex e2).ex e3) _ fun H4 e4 =>
    ⟨a, d.str, sz_of hz, q _ H4 ((e2.trans e3).trans e4) (Dt.ofStr _)⟩
def inStr (i j : Str) : Bool := !(Builtin.Str.occurrences j i 0 j.length 1).isEmpty
theorem hv_inStr {a b : Str} (ha : Hv K M ta σ H a) (hb : Hv K M tb σ H b) : Hv K M (tOp (fun x y H Q => ∃ i j, x = .str i ∧ y = .str j ∧ Q (.bl (!(Builtin.Str.occurrences j i 0 j.length 1).isEmpty)) H) ta tb) σ H (inStr a b) := fun H1 e m Q q =>
  ha H1 e m _ fun v H2 e2 d => hb H2 (e.trans e2) (m.ex e2) _ fun u H3 e3 d' => ⟨a, b, d.str, d'.str, q _ H3 (e2.trans e3) (Dt.ofBool _)⟩
theorem hv_niStr {a b : Str} (ha : Hv K M ta σ H a) (hb : Hv K M tb σ H b) : Hv K M (tOp (fun x y H Q => ∃ i j, x = .str i ∧ y = .str j ∧ Q (.bl (!(!(Builtin.Str.occurrences j i 0 j.length 1).isEmpty))) H) ta tb) σ H (!inStr a b) := fun H1 e m Q q =>
  ha H1 e m _ fun v H2 e2 d => hb H2 (e.trans e2) (m.ex e2) _ fun u H3 e3 d' => ⟨a, b, d.str, d'.str, q _ H3 (e2.trans e3) (Dt.ofBool _)⟩
theorem hv_find {a b : Str} (ha : Hv K M ta σ H a) (hb : Hv K M tb σ H b) : Hv K M (tM1 (fun x xs H Q => ∃ a b, x = .str a ∧ xs = [.str b] ∧ Q (.int (Txt.find a b)) H) ta tb) σ H (Txt.find a b) := fun H1 e m Q q =>
  ha H1 e m _ fun v H2 e2 d => ⟨⟨a, d.str⟩, hb H2 (e.trans e2) (m.ex e2) _ fun u H3 e3 d' => ⟨a, b, d.str, by rw [d'.str], q _ H3 (e2.trans e3) (Dt.ofInt _)⟩⟩
theorem hv_find3 {a b : Str} {i : Int} (ha : Hv K M ta σ H a) (hb : Hv K M tb σ H b) (hc : Hv K M te σ H i) :
    Hv K M (tBM K "str" (fun x xs H Q => ∃ (a b : Str) (i : Int), x = .str a ∧ xs = [.str b, .int i] ∧ Q (.int (Txt.find3 a b i)) H) ta (tCons tb (tCons te tNil))) σ H (Txt.find3 a b i) := fun H1 e m Q q =>
  ha H1 e m _ fun v H2 e2 d => ⟨by rw [d.str]; exact (rfl : ("str" : String) = "str"), hb H2 (e.trans e2) (m.ex e2) _ fun u H3 e3 d' => hc H3 ((e.trans e2).trans e3) ((m.ex e2).ex e3) _ fun z H4 e4 d'' =>
    ⟨a, b, i, d.str, by rw [d'.str, d''.int], q _ H4 ((e2.trans e3).trans e4) (Dt.ofInt _)⟩⟩
theorem dts_strs {H : Hp} : ∀ {vs : List V} {xs : List Str}, Dts K H vs xs → vs = xs.map V.str
  | [], [], _ => rfl
  | [], _ :: _, h => by cases h
  | _ :: _, [], h => by cases h
  | v :: vs, x :: xs, h => by
    cases h with
    | cons a b =>
      rw [List.map_cons, Dt.str (H := H) (K := K) (v := v) (i := x) a, dts_strs (vs := vs) (xs := xs) b]
theorem hv_join {a : Str} {xs : List Str} (ha : Hv K M ta σ H a) (hb : HS K M tb σ H xs) (hz : (xs.map (·.length)).sum + xs.length * a.length ≤ 100000) :
    Hv K M (tM1 (fun x xs H Q => ∃ a p, ∃ ys : List Str, x = .str a ∧ xs = [.ref p] ∧ (SqL K H p (ys.map V.str) ∨ SqT K H p (ys.map V.str)) ∧ (ys.map (·.length)).sum + ys.length * a.length ≤ 16777216 ∧ Q (.str (Txt.join a ys)) H) ta tb) σ H (Txt.join a xs) := fun H1 e m Q q =>
  ha H1 e m _ fun v H2 e2 d => ⟨⟨a, d.str⟩, hb H2 (e.trans e2) (m.ex e2) _ fun p vs H3 e3 s ds => ⟨a, p, xs, d.str, rfl, Or.inl (by rw [← dts_strs ds]; exact s), by omega, q _ H3 (e2.trans e3) (Dt.ofStr _)⟩⟩
theorem hv_intI {i : Int} (ha : Hv K M ta σ H i) : Hv K M (tCB (fun xs H Q => (∃ i, xs = [.int i] ∧ Q (.int i) H) ∨ ∃ k, xs = [.bl k] ∧ Q (.int (if k then 1 else 0)) H) (tCons ta tNil)) σ H i := fun H1 e m Q q =>
  ha H1 e m _ fun v H2 e2 d => Or.inl ⟨i, by rw [d.int], q _ H2 e2 (Dt.ofInt _)⟩
theorem hv_intS {a : Str} {n : Int} (ha : Hv K M ta σ H a) (hn : PySem.intText? a = some n) (hz : a.length ≤ 640) : Hv K M (tCB (fun xs H Q => ∃ a n, xs = [.str a] ∧ PySem.intText? a = some n ∧ a.length ≤ 640 ∧ Q (.int n) H) (tCons ta tNil)) σ H n := fun H1 e m Q q =>
  ha H1 e m _ fun v H2 e2 d => ⟨a, n, by rw [d.str], hn, hz, q _ H2 e2 (Dt.ofInt _)⟩
/-- a text, so often -/
def mulS (a : Str) (n : Int) : Str := ⟨(List.replicate n.toNat a.cps.toList).flatten.toArray⟩
theorem mulS_len (a : Str) (n : Int) : (mulS a n).length = a.length * n.toNat := by
  have h1 : (mulS a n).length = (List.replicate n.toNat a.cps.toList).flatten.length := by simp [mulS, Str.length]
  have h2 : a.length = a.cps.toList.length := by simp [Str.length]
  rw [h1, h2, List.length_flatten, List.map_replicate, List.sum_replicate_nat, Nat.mul_comm]
theorem foldl_app : ∀ (k : Nat) (x : Array Nat) (acc : Array Nat), ((List.replicate k x).foldl (· ++ ·) acc).toList = acc.toList ++ (List.replicate k x.toList).flatten
  | 0, x, acc => by simp
  | k + 1, x, acc => by
    rw [List.replicate_succ, List.foldl_cons, foldl_app k x (acc ++ x), List.replicate_succ, List.flatten_cons, Array.toList_append, List.append_assoc]
theorem op_mulS {X : Cx} : OpR X (binaryOp .Mult) (fun x y H Q => ∃ i n, x = .str i ∧ y = .int n ∧ 1 ≤ n ∧ i.length * n.toNat ≤ 100000 ∧ n ≤ 100000 ∧ Q (.str (mulS i n)) H) := by
  intro pins s σ H x y v u Q I rx ry h
  obtain ⟨i, n, rfl, rfl, h1, h2, h3, q⟩ := h
  obtain ⟨t, rfl⟩ := rx
  obtain ⟨t', rfl⟩ := ry
  have hc : ¬ n < 1 := by omega
  refine PySem.P.mul_str ?_ (fun _ hb => ?_) (fun _ _ => ?_) ?_
  · rw [decide_eq_false (by omega), decide_eq_false (by omega)]; rfl
  · have h4 : (i.length : Int) ≤ 100000 := by
      have : i.length * 1 ≤ i.length * n.toNat := Nat.mul_le_mul_left _ (by omega)
      omega
    have h5 : (100000 : Int) ≤ (2 ^ 63 - 1) / n := by
      refine Int.le_ediv_of_mul_le (by omega) ?_
      omega
    omega
  · have hs : sizeLine = 16777216 := sizeLine_eq
    show decide (i.length * n.toNat > sizeLine) = false
    exact decide_eq_false (by omega)
  · rw [if_neg hc]
    by_cases e : (n == 1 || i.length == 0) = true
    · rw [if_pos e]
      have em : mulS i n = i := by
        refine TL.ext_tl ?_
        show (List.replicate n.toNat i.cps.toList).flatten = i.cps.toList
        rcases Bool.or_eq_true _ _ |>.mp e with e1 | e1
        · have : n = 1 := by simpa using e1
          subst this
          simp
        · have : i.cps.toList = [] := by
            have : i.length = 0 := by simpa using e1
            have h9 : i.cps.toList.length = 0 := by simpa [Str.length] using this
            exact List.length_eq_zero_iff.mp h9
          rw [this]
          simp
      rw [em] at q
      exact ⟨.str i, H, I, ⟨t, rfl⟩, q⟩
    · rw [if_neg e]
      have em : (⟨(List.replicate n.toNat i.cps).foldl (· ++ ·) #[]⟩ : Str) = mulS i n := by
        refine TL.ext_tl ?_
        show ((List.replicate n.toNat i.cps).foldl (· ++ ·) #[]).toList = (List.replicate n.toNat i.cps.toList).flatten
        rw [foldl_app]
        rfl
      rw [em]
      exact ⟨by rw [mulS_len]; exact sz_of h2, .str _, H, I.tok _, ⟨_, rfl⟩, q⟩
theorem hv_mulS {a : Str} {n : Int} (ha : Hv K M ta σ H a) (hb : Hv K M tb σ H n) (h1 : 1 ≤ n) (h2 : a.length * n.toNat ≤ 100000) (h3 : n ≤ 100000) :
    Hv K M (tOp (fun x y H Q => ∃ i n, x = .str i ∧ y = .int n ∧ 1 ≤ n ∧ i.length * n.toNat ≤ 100000 ∧ n ≤ 100000 ∧ Q (.str (mulS i n)) H) ta tb) σ H (mulS a n) := fun H1 e m Q q =>
  ha H1 e m _ fun v H2 e2 d => hb H2 (e.trans e2) (m.ex e2) _ fun u H3 e3 d' => ⟨a, n, d.str, d'.int, h1, h2, h3, q _ H3 (e2.trans e3) (Dt.ofStr _)⟩
theorem hv_max2 {i j : Int} (ha : Hv K M ta σ H i) (hb : Hv K M tb σ H j) : Hv K M (tCB (fun xs H Q => ∃ i j, xs = [.int i, .int j] ∧ Q (.int (if j > i then j else i)) H) (tCons ta (tCons tb tNil))) σ H (max i j) := fun H1 e m Q q =>
  ha H1 e m _ fun v H2 e2 d => hb H2 (e.trans e2) (m.ex e2) _ fun u H3 e3 d' => ⟨i, j, by rw [d.int, d'.int], q _ H3 (e2.trans e3) (by
    rw [show (if j > i then j else i) = max i j by split <;> omega]; exact Dt.ofInt _)⟩
theorem hv_min2 {i j : Int} (ha : Hv K M ta σ H i) (hb : Hv K M tb σ H j) : Hv K M (tCB (fun xs H Q => ∃ i j, xs = [.int i, .int j] ∧ Q (.int (if j < i then j else i)) H) (tCons ta (tCons tb tNil))) σ H (min i j) := fun H1 e m Q q =>
  ha H1 e m _ fun v H2 e2 d => hb H2 (e.trans e2) (m.ex e2) _ fun u H3 e3 d' => ⟨i, j, by rw [d.int, d'.int], q _ H3 (e2.trans e3) (by
    rw [show (if j < i then j else i) = min i j by split <;> omega]; exact Dt.ofInt _)⟩
end
section
variable {K : PySem.W.Frag} {Mc M : List Addr} {He H H1 H2 : Hp} {is js : Ims} {ms : Mus} {σ : L2.St} {te ta tb tl : TE} {tt : TT} {g : TG} {tlo thi : TO}
variable {α β γ : Type} [DecidableEq α] [Dx α] [DecidableEq β] [Dx β] [DecidableEq γ] [Dx γ]
variable {D : Ends} {tz tu tw : TS}
theorem hv_chain {r r' : R2} {a b : Bool} {x : α} (h1 : ∀ H1, Ex H H1 → MOk M H1 → ∀ Q : V → V → Hp → Prop, (∀ y k H2, Ex H1 H2 → k = .bl a → Q y k H2) → ta σ H1 fun x H2 => tb σ H2 fun y H3 => r x y H3 fun z H4 => Q y z H4) : True := True.intro
/-- i < j < k and the like -/
theorem hv_chainI {g1 g2 : Int → Int → Bool} {i j k : Int} (ha : Hv K M ta σ H i) (hb : Hv K M tb σ H j) (hc : Hv K M te σ H k) :
    Hv K M (tChain (rI0 fun i j => .bl (g1 i j)) (rI0 fun i j => .bl (g2 i j)) ta tb te) σ H (g1 i j && g2 j k) := fun H1 e m Q q =>
  ha H1 e m _ fun v H2 e2 d => hb H2 (e.trans e2) (m.ex e2) _ fun u H3 e3 d' => ⟨i, j, d.int, d'.int, g1 i j, rfl, by
    cases hg : g1 i j with
    | false =>
      rw [if_neg Bool.false_ne_true]
      exact q _ H3 (e2.trans e3) (by rw [hg]; exact Dt.ofBool _)
    | true =>
      rw [if_pos rfl]
      refine hc H3 ((e.trans e2).trans e3) ((m.ex e2).ex e3) _ fun z H4 e4 d'' => ⟨j, k, d'.int, d''.int, q _ H4 ((e2.trans e3).trans e4) ?_⟩
      show Dt K _ (V.bl (g2 j k)) _
      rw [hg]
      exact Dt.ofBool _⟩
/-! ### new lists -/
/-- a new list, told apart from all else -/
def HF (K : PySem.W.Frag) (M : List Addr) (te : TE) (σ : L2.St) (H : Hp) (xs : List α) : Prop :=
  ∀ H1, Ex H H1 → MOk M H1 → ∀ Q : VK, (∀ p vs H3, H1 p = none → Ex H1 H3 → H3 p = some (.lst vs) → Dts K (msk (p :: M) H3) vs xs → Q (.ref p) H3) → te σ H1 Q
theorem hv_hf {xs : List α} (h : HF K M te σ H xs) : Hv K M te σ H xs := fun H1 e m Q q =>
  h H1 e m Q fun p vs H3 n e3 h3 d => q _ H3 e3 (Dt.ofList (SqL.of (by rw [msk_out (m.nin n)]; exact h3)) (d.mono (msk_sub fun a ha => List.mem_cons_of_mem _ ha)))
theorem Sg.newF (s : Sg K Mc He H is ms) {p : Addr} {vs : List V} {xs : List α} (n : H p = none) (e : Ex H H1) (h : H1 p = some (.lst vs)) (d : Dts K (msk (p :: (muA ms ++ Mc)) H1) vs xs) : Sg K Mc He H1 is ((p, .lst (xs.map Dx.toX)) :: ms) := by
  have np : p ∉ muA ms := fun z => s.mok p (List.mem_append_left _ z) n
  have sub : Ex (msk (muA ms ++ Mc) H) (msk (p :: (muA ms ++ Mc)) H1) := fun a o q => by
    by_cases z : a ∈ muA ms ++ Mc
    · rw [msk_in z] at q; cases q
    · rw [msk_out z] at q
      have na : a ≠ p := ne_of_none q n
      rw [msk_out (by simp only [List.mem_cons, not_or]; exact ⟨na, z⟩)]
      exact e a o q
  refine ⟨fun a o q => ?_, s.okc, List.nodup_cons.mpr ⟨np, s.nd⟩, s.im.mono sub, ⟨⟨.lst vs, h, vs, rfl, d⟩, ?_⟩⟩
  · have q' := s.ext a o q
    by_cases z : a ∈ muA ms
    · rw [msk_in z] at q'; cases q'
    · rw [msk_out z] at q'
      have na : a ≠ p := ne_of_none q' n
      show msk (p :: muA ms) H1 a = some o
      rw [msk_out (by simp only [List.mem_cons, not_or]; exact ⟨na, z⟩)]
      exact e a o q'
  · exact s.mu.mono sub e
theorem hf_lst {tr : TA} {xs : List α} (h : HAs K M tr σ H xs) (hl : xs.length ≤ 100000) : HF K M (tLst tr) σ H xs := fun H1 e m Q q =>
  h H1 e m _ fun vs H2 e2 d => ⟨sz_of (by rw [d.len]; exact hl), fun p hp => by
    have e3 : Ex H2 (upd H2 p (.lst vs)) := Ex.new hp
    exact q p vs _ (fresh_back e2 hp) (e2.trans e3) upd_same (d.mono (msk_new hp))⟩
theorem hf_rep {tr : TA} {xs : List α} {n : Int} (h : HAs K M tr σ H xs) (hb : Hv K M tb σ H n) (hl : xs.length ≤ 1000) (h0 : 0 ≤ n) (hn : xs.length * n.toNat ≤ 100000) (hn2 : n ≤ 100000) : HF K M (tOp rRep (tLst tr) tb) σ H (List.replicate n.toNat xs).flatten := fun H1 e m Q q =>
  h H1 e m _ fun vs H2 e2 d => ⟨sz_of (by rw [d.len]; omega), fun p hp => by
    have e3 : Ex H2 (upd H2 p (.lst vs)) := Ex.new hp
    refine hb _ ((e.trans e2).trans e3) ((m.ex e2).ex e3) _ fun u H4 e4 d' => ⟨p, n, vs, rfl, d'.int, e4 p _ upd_same, by omega, by omega, sz_of (by rw [d.len]; exact hn), fun l hl2 => ?_⟩
    have e5 : Ex H4 (upd H4 l (.lst (List.replicate n.toNat vs).flatten)) := Ex.new hl2
    refine q l _ _ (fresh_back ((e2.trans e3).trans e4) hl2) (((e2.trans e3).trans e4).trans e5) upd_same ?_
    have d2 : Dts K (msk M H2) vs xs := d
    have d3 : Dts K (msk (l :: M) (upd H4 l (.lst (List.replicate n.toNat vs).flatten))) vs xs := (d2.mono (msk_ex (e3.trans e4))).mono (msk_new hl2)
    have rep : ∀ k : Nat, Dts K (msk (l :: M) (upd H4 l (.lst (List.replicate n.toNat vs).flatten))) (List.replicate k vs).flatten (List.replicate k xs).flatten := fun k => by
      induction k with
      | zero => exact Dts.nil
      | succ k ih =>
        rw [List.replicate_succ, List.replicate_succ, List.flatten_cons, List.flatten_cons]
        exact d3.app ih
    exact rep _⟩
theorem hf_listOf {xs : List α} (h : HS K M te σ H xs) : HF K M (tCB (fun xs H Q => ∃ p ys, xs = [.ref p] ∧ (SqL K H p ys ∨ SqT K H p ys) ∧ ∀ l, H l = none → Q (.ref l) (upd H l (.lst ys))) (tCons te tNil)) σ H xs := fun H1 e m Q q =>
  h H1 e m _ fun a vs H2 e2 s d => ⟨a, vs, rfl, Or.inl s, fun p hp => by
    have e3 : Ex H2 (upd H2 p (.lst vs)) := Ex.new hp
    exact q p vs _ (fresh_back e2 hp) (e2.trans e3) upd_same (d.mono (msk_new hp))⟩
/-- x = a new list that is to be changed -/
theorem z_freshG {i : Nat} {x : List α} (s : Sg K Mc He H is ms) (h : HF K (muA ms ++ Mc) te σ H x) (k : ∀ y, y = x → ∀ p H1, Sg K Mc He H1 is ((p, .lst (y.map Dx.toX)) :: ms) → tz D (σ.set i (some (.ref p))) H1) : tSeq (tAsg te (gName i)) tz D σ H :=
  h H (Ex.refl H) s.mok _ fun p vs H3 n e3 h3 d => k x rfl p H3 (s.newF n e3 h3 d)
theorem dpa_set {H : Hp} : ∀ {vs : List V} {ds : List Xd} {j : Nat} {v : V} {d : Xd}, XpAll K H vs ds → Xp K H v d → XpAll K H (vs.set j v) (ds.set j d)
  | _, _, j, _, _, .nil, _ => .nil
  | _, _, 0, _, _, .cons a b, h => .cons h b
  | _, _, j + 1, _, _, .cons a b, h => .cons a (dpa_set b h)
/-- xs[i] = e -/
theorem z_setG {kk : Nat} {l : Addr} {xs : List α} {x : α} {i : Int} (s : Sg K Mc He H is ms) (e : ms[kk]? = some (l, .lst (xs.map Dx.toX))) (h : Hv K (muA ms ++ Mc) te σ H x) (ho : Ev ta σ H (.ref l)) (hi : Hv K (muA ms ++ Mc) tb σ H i) (h0 : 0 ≤ i) (h1 : i < (xs.length : Int))
    (k : ∀ y, y = xs.set i.toNat x → ∀ H1, Sg K Mc He H1 is (ms.set kk (l, .lst (y.map Dx.toX))) → tz D σ H1) : tSeq (tAsg te (gSub ta tb rSetL)) tz D σ H :=
  h H (Ex.refl H) s.mok _ fun v H2 e2 d => ho H2 e2 _ fun H3 e3 => hi H3 (e2.trans e3) (s.mok.ex (e2.trans e3)) _ fun u H4 e4 d' => by
    have s4 := ((s.ex e2).ex e3).ex e4
    obtain ⟨vs, h3, h4⟩ := s4.lst e
    have hn : i.toNat < vs.length := by rw [h4.len]; omega
    refine ⟨l, vs, i, i.toNat, rfl, d'.int, h3, ?_, k _ rfl _ (s4.set e ⟨_, rfl, ?_⟩)⟩
    · have := ixN_nat hn
      rwa [Int.toNat_of_nonneg h0] at this
    · rw [List.map_set]
      exact dpa_set h4 (dp_mono (msk_ex (e3.trans e4)) d)
/-- xs[-1] = e -/
theorem z_setLastG {kk : Nat} {l : Addr} {xs : List α} {x : α} (s : Sg K Mc He H is ms) (e : ms[kk]? = some (l, .lst (xs.map Dx.toX))) (h : Hv K (muA ms ++ Mc) te σ H x) (ho : Ev ta σ H (.ref l)) (h1 : 0 < xs.length)
    (k : ∀ y, y = xs.set (xs.length - 1) x → ∀ H1, Sg K Mc He H1 is (ms.set kk (l, .lst (y.map Dx.toX))) → tz D σ H1) : tSeq (tAsg te (gSub ta (tUn (rU fun i => .int (-i)) (tC (.int 1))) rSetL)) tz D σ H :=
  h H (Ex.refl H) s.mok _ fun v H2 e2 d => ho H2 e2 _ fun H3 e3 => ⟨1, rfl, by
    have s4 := (s.ex e2).ex e3
    obtain ⟨vs, h3, h4⟩ := s4.lst e
    have hn : vs.length = xs.length := h4.len
    refine ⟨l, vs, -1, xs.length - 1, rfl, rfl, h3, ?_, k _ rfl _ (s4.set e ⟨_, rfl, ?_⟩)⟩
    · unfold ixN
      rw [if_neg (by decide), if_pos (by omega)]
      show some _ = some _
      congr 1
      omega
    · rw [List.map_set]
      exact dpa_set h4 (dp_mono (msk_ex e3) d)⟩
/-- xs.extend(a new list) -/
theorem zq_extG {kk : Nat} {l : Addr} {xs ys : List α} (s : Sg K Mc He H is ms) (e : ms[kk]? = some (l, .lst (xs.map Dx.toX))) (hi : Ev ta σ H (.ref l)) (h : HF K (muA ms ++ Mc) te σ H ys) (hz : xs.length + ys.length ≤ 100000)
    (k : ∀ y, y = xs ++ ys → ∀ H1, Sg K Mc He H1 is (ms.set kk (l, .lst (y.map Dx.toX))) → tz D σ H1) : tSeq (tDrop (tBM K "list" rExtend ta (tCons te tNil))) tz D σ H := hi H (Ex.refl H) _ fun H1 e1 => by
  obtain ⟨vs, h1, h2⟩ := (s.ex e1).lst e
  refine ⟨Or.inl ⟨rfl, vs, sq_of h1⟩, h H1 e1 (s.mok.ex e1) _ fun p ws H3 n e3 h3 d => ?_⟩
  obtain ⟨vs', h4, h5⟩ := ((s.ex e1).ex e3).lst e
  refine ⟨l, p, vs', ws, rfl, rfl, h4, h3, sz_of (by rw [h5.len, d.len]; exact hz), k _ rfl _ (((s.ex e1).ex e3).set e ⟨_, rfl, ?_⟩)⟩
  rw [List.map_append]
  exact dpa_app h5 (dpa_mono (msk_sub fun a ha => List.mem_cons_of_mem _ ha) d)
/-! ### a, b = e -/
theorem z_unp2 {i j : Nat} {p : α × β} (s : Sg K Mc He H is ms) (h : Hv K (muA ms ++ Mc) te σ H p) (k : ∀ x y, (x, y) = p → ∀ v u H1, Sg K Mc He H1 ((v, Dx.toX x) :: (u, Dx.toX y) :: is) ms → tz D ((σ.set i (some v)).set j (some u)) H1) :
    tSeq (tAsg te (gTup K 2 (gCons (gName i) (gCons (gName j) gNil)))) tz D σ H :=
  h H (Ex.refl H) s.mok _ fun v H1 e d => by
    obtain ⟨l, a, b, rfl, st, d1, d2⟩ := d.pair
    exact ⟨l, [a, b], rfl, ex_t msk_le st, rfl, a, [b], rfl, b, [], rfl, rfl, k p.1 p.2 rfl a b H1 (((s.ex e).put d2).put d1)⟩
/-! ### for over a text -/
def chars (s : Str) : List Str := s.cps.toList.map fun c => ⟨#[c]⟩
theorem chars_len (s : Str) : (chars s).length = s.length := by simp [chars, Str.length]
theorem zq_forS {a : Str} {j : Nat} (s : Sg K Mc He H is ms) (h : Hv K (muA ms ++ Mc) te σ H a) (Pv : Nat → L2.St → Hp → Prop) (h0 : ∀ H1, Sg K Mc He H1 is ms → Pv 0 σ H1)
    (hs : ∀ i x σ' H', (chars a)[i]? = some x → Pv i σ' H' → tu { D with nx := Pv (i + 1), ct := Pv (i + 1), bk := tz D } (σ'.set j (some (.str x))) H')
    (hd : ∀ σ' H', Pv (chars a).length σ' H' → tz D σ' H') : tSeq (tFor (iStr te) (gName j) tu) tz D σ H :=
  h H (Ex.refl H) s.mok _ fun v H1 e d => ⟨a, d.str, by
    have hsz : a.cps.size = (chars a).length := by rw [chars_len]; rfl
    refine for_it (D := { D with nx := tz D }) (walk_str (z := a)) Pv (h0 H1 (s.ex e)) (fun _ _ _ _ _ => True.intro) (fun i x σ' H' H'' hi p y => ?_) (fun σ' H' p => hd σ' H' (by rw [← hsz]; exact p))
    obtain ⟨rfl, c, hc, rfl⟩ := y
    refine hs i _ σ' _ ?_ p
    unfold chars
    rw [List.getElem?_map]
    have : a.cps.toList[i]? = some c := by rw [Array.getElem?_toList]; exact hc
    rw [this]
    rfl⟩
/-! ### while -/
def loopW {S : Type} (c : S → Bool) (f : S → S) : Nat → S → S
  | 0, s => s
  | n + 1, s => if c s = true then loopW c f n (f s) else s
/-- R tells what a state is, μ falls -/
theorem zq_while {S : Type} (c : S → Bool) (f : S → S) (μ : S → Nat) (N : Nat) (s0 : S) (R : S → L2.St → Hp → Prop) (hN : μ s0 < N) (h0 : R s0 σ H)
    (hs : ∀ x σ' H', R x σ' H' → ∃ M', MOk M' H' ∧ HT M' tt σ' H' (c x) ∧
      (c x = true → ∀ H2, Ex H' H2 → tu { D with nx := fun σ2 H3 => ∃ y, y = f x ∧ μ y < μ x ∧ R y σ2 H3, ct := fun σ2 H3 => ∃ y, y = f x ∧ μ y < μ x ∧ R y σ2 H3, bk := tz D } σ' H2))
    (hd : ∀ x σ' H' H2, R x σ' H' → c x = false → Ex H' H2 → loopW c f N s0 = x → tz D σ' H2) : tSeq (tWhile tt tu) tz D σ H := by
  refine ⟨fun m σ' H' => ∃ x, μ x < m ∧ loopW c f N s0 = loopW c f m x ∧ R x σ' H', ⟨N, s0, hN, rfl, h0⟩, ?_⟩
  rintro m σ' H' ⟨x, hm, he, hR⟩
  obtain ⟨M', mo, ht, ht1⟩ := hs x σ' H' hR
  refine ht H' (Ex.refl H') mo _ fun H2 e2 => ?_
  obtain ⟨n, rfl⟩ : ∃ n, m = n + 1 := ⟨m - 1, by omega⟩
  cases hc : c x with
  | true =>
    refine ⟨fun σ2 H3 => ∃ y, y = f x ∧ μ y < μ x ∧ R y σ2 H3, fun σ2 H3 ⟨y, hy, hl, hR2⟩ => ⟨n, Nat.lt_succ_self _, y, by omega, ?_, hR2⟩, ht1 hc H2 e2⟩
    rw [he, hy]
    show (if c x = true then loopW c f n (f x) else x) = _
    rw [if_pos hc]
  | false =>
    refine hd x σ' H' H2 hR hc e2 ?_
    rw [he]
    show (if c x = true then loopW c f n (f x) else x) = x
    rw [if_neg (by rw [hc]; exact Bool.false_ne_true)]
/-! ### new lists by comprehensions -/
theorem hf_lcL0 {vs : List Nat} (s : Sg K Mc He H is ms) {xs : List α} (ef : α → β) (h : Hv K (muA ms ++ Mc) tl σ H xs) (hz : xs.length ≤ 40000)
    (hb : ∀ D src x w (ys : List β) H1, Sg K Mc He H1 ((w, Dx.toX x) :: (src, Dx.toX xs) :: is) ((D, .lst (ys.map Dx.toX)) :: ms) → x ∈ xs →
      ∀ Q : L2.St → Hp → Prop, (∀ σ2, wipe σ2 vs = wipe σ vs → Hv K (muA ((D, Mv.lst (ys.map Dx.toX)) :: ms) ++ Mc) te σ2 H1 (ef x) → Q σ2 H1) → g w (wipe σ vs) H1 Q) :
    HF K (muA ms ++ Mc) (tLc (iList K tl) g tYes te vs) σ H (xs.map ef) := fun H1 e m Q q =>
  h H1 e m _ fun v H2 e2 d => by
    obtain ⟨a, us, rfl, s1, ds⟩ := d.list
    refine ⟨a, rfl, ⟨us, ex_l msk_le s1⟩, fun D hD => ?_⟩
    have sA : Sg K Mc He H2 ((.ref a, Dx.toX xs) :: is) ms := ((s.ex e).ex e2).put d
    have sB : Sg K Mc He (upd H2 D (.lst [])) ((.ref a, Dx.toX xs) :: is) ((D, .lst (([] : List β).map Dx.toX)) :: ms) := sA.new hD ⟨[], rfl, .nil⟩
    refine lc_listD (xs := xs) (M' := D :: (muA ms ++ Mc)) (fun i H' => Ex H2 H' ∧ Sg K Mc He H' ((.ref a, Dx.toX xs) :: is) ((D, .lst (((xs.take i).map ef).map Dx.toX)) :: ms)) ⟨Ex.new hD, sB⟩
      (fun i H' _ p => ?_) (fun i x w H' hx p dw => ?_) (fun H' p => ?_)
    · obtain ⟨a', us', e', s2, ds'⟩ := Dt.list (α := α) p.2.im.1
      cases e'
      exact ⟨us', ex_l msk_le s2, ds'⟩
    · have hi : i < xs.length := (List.getElem?_eq_some_iff.mp hx).1
      refine hb D (.ref a) x w _ H' (p.2.put dw) (List.mem_of_getElem? hx) _ fun σ2 hw he => ⟨hw, ?_⟩
      have hlen : ((xs.take i).map ef).length < 50000 := by
        rw [List.length_map, List.length_take]
        omega
      exact lc_turn (ms := ms) (tt := tYes) (b := true) (zs := (xs.take (i + 1)).map ef) p.2 hlen (fun H3 => Ex H2 H3 ∧ Sg K Mc He H3 ((.ref a, Dx.toX xs) :: is) ((D, .lst (((xs.take (i + 1)).map ef).map Dx.toX)) :: ms)) (fun H2 _ _ _ q => q H2 (Ex.refl H2)) (fun _ => he) (by rw [if_pos rfl, take_snoc hx, List.map_append]; rfl) (fun H3 h4 s3 => ⟨by
        obtain ⟨H4, e4, e5⟩ := h4
        rcases e5 with e5 | ⟨o, e5⟩
        · rw [e5]; exact p.1.trans e4
        · rw [e5]; exact Ex.mut (p.1.trans e4) hD, s3⟩)
    · have z := p.2
      rw [List.take_length] at z
      obtain ⟨us2, h3, h4⟩ := z.lst (k := 0) rfl
      exact q D us2 H' (fresh_back e2 hD) (e2.trans p.1) h3 h4
theorem hf_lcR0 {vs : List Nat} (s : Sg K Mc He H is ms) {n : Int} (ef : Int → β) (h : Hv K (muA ms ++ Mc) ta σ H n) (hz : -100000 ≤ n ∧ n ≤ 40000)
    (hb : ∀ D (x : Int) (ys : List β) H1, Sg K Mc He H1 is ((D, .lst (ys.map Dx.toX)) :: ms) → 0 ≤ x ∧ x < n →
      ∀ Q : L2.St → Hp → Prop, (∀ σ2, wipe σ2 vs = wipe σ vs → Hv K (muA ((D, Mv.lst (ys.map Dx.toX)) :: ms) ++ Mc) te σ2 H1 (ef x) → Q σ2 H1) → g (.int x) (wipe σ vs) H1 Q) :
    HF K (muA ms ++ Mc) (tLc (iRng1 (tCons ta tNil)) g tYes te vs) σ H ((irng 0 n.toNat).map ef) := fun H1 e m Q q =>
  h H1 e m _ fun v H2 e2 d => by
    refine ⟨n, by rw [d.int], by omega, by omega, fun D hD => ?_⟩
    have sA : Sg K Mc He H2 is ms := (s.ex e).ex e2
    have sB : Sg K Mc He (upd H2 D (.lst [])) is ((D, .lst (([] : List β).map Dx.toX)) :: ms) := sA.new hD ⟨[], rfl, .nil⟩
    refine lc_range (lo := 0) (n := n.toNat) (fun i H' => Ex H2 H' ∧ Sg K Mc He H' is ((D, .lst ((((irng 0 n.toNat).take i).map ef).map Dx.toX)) :: ms)) ⟨Ex.new hD, sB⟩
      (fun i H' hi p => ?_) (fun H' p => ?_)
    · have hx : (irng 0 n.toNat)[i]? = some ((0 : Int) + (i : Int)) := irng_get hi
      refine hb D ((0 : Int) + (i : Int)) _ H' p.2 ⟨by omega, by omega⟩ _ fun σ2 hw he => ⟨hw, ?_⟩
      have hlen : (((irng 0 n.toNat).take i).map ef).length < 50000 := by
        rw [List.length_map, List.length_take, irng_len]
        omega
      exact lc_turn (ms := ms) (tt := tYes) (b := true) (zs := ((irng 0 n.toNat).take (i + 1)).map ef) p.2 hlen (fun H3 => Ex H2 H3 ∧ Sg K Mc He H3 is ((D, .lst ((((irng 0 n.toNat).take (i + 1)).map ef).map Dx.toX)) :: ms)) (fun H2 _ _ _ q => q H2 (Ex.refl H2)) (fun _ => he) (by rw [if_pos rfl, take_snoc hx, List.map_append]; rfl) (fun H3 h4 s3 => ⟨by
        obtain ⟨H4, e4, e5⟩ := h4
        rcases e5 with e5 | ⟨o, e5⟩
        · rw [e5]; exact p.1.trans e4
        · rw [e5]; exact Ex.mut (p.1.trans e4) hD, s3⟩)
    · have z := p.2
      have et : (irng 0 n.toNat).take n.toNat = irng 0 n.toNat := List.take_of_length_le (by rw [irng_len]; exact Nat.le_refl _)
      rw [et] at z
      obtain ⟨us2, h3, h4⟩ := z.lst (k := 0) rfl
      exact q D us2 H' (fresh_back e2 hD) (e2.trans p.1) h3 h4
/-- the items with their places -/
def enumL (xs : List α) : List (Int × α) := List.zipWith (fun (i : Nat) (x : α) => ((i : Int), x)) (List.range xs.length) xs
theorem enumL_len (xs : List α) : (enumL xs).length = xs.length := by unfold enumL; rw [List.length_zipWith, List.length_range, Nat.min_self]
theorem enumL_get {xs : List α} {i : Nat} {x : α} (h : xs[i]? = some x) : (enumL xs)[i]? = some ((i : Int), x) := by
  have hi : i < xs.length := (List.getElem?_eq_some_iff.mp h).1
  unfold enumL
  rw [List.getElem?_zipWith, List.getElem?_range hi, h]
/-- [.. for i, x in enumerate(xs)] -/
theorem hf_lcE0 {vs : List Nat} (s : Sg K Mc He H is ms) {xs : List α} (ef : Int × α → β) (h : Hv K (muA ms ++ Mc) tl σ H xs) (hz : xs.length ≤ 40000)
    (hb : ∀ D src (x : Int × α) w (ys : List β) H1, Sg K Mc He H1 ((w, Dx.toX x) :: (src, Dx.toX xs) :: is) ((D, .lst (ys.map Dx.toX)) :: ms) → x ∈ enumL xs →
      ∀ Q : L2.St → Hp → Prop, (∀ σ2, wipe σ2 vs = wipe σ vs → Hv K (muA ((D, Mv.lst (ys.map Dx.toX)) :: ms) ++ Mc) te σ2 H1 (ef x) → Q σ2 H1) → g w (wipe σ vs) H1 Q) :
    HF K (muA ms ++ Mc) (tLc (iEnum K (tCons tl tNil)) g tYes te vs) σ H ((enumL xs).map ef) := fun H1 e m Q q =>
  h H1 e m _ fun v H2 e2 d => by
    obtain ⟨a, us, rfl, s1, ds⟩ := d.list
    have s1' : SqL K H2 a us := ex_l msk_le s1
    refine ⟨a, us, rfl, s1', fun D hD => ?_⟩
    have sA : Sg K Mc He H2 ((.ref a, Dx.toX xs) :: is) ms := ((s.ex e).ex e2).put d
    have sB : Sg K Mc He (upd H2 D (.lst [])) ((.ref a, Dx.toX xs) :: is) ((D, .lst (([] : List β).map Dx.toX)) :: ms) := sA.new hD ⟨[], rfl, .nil⟩
    have hlu : us.length = xs.length := ds.len
    refine lc_it (walk_enum (K := K) (a := a) (xs := us)) (fun i H' => Ex H2 H' ∧ Sg K Mc He H' ((.ref a, Dx.toX xs) :: is) ((D, .lst ((((enumL xs).take i).map ef).map Dx.toX)) :: ms)) ⟨Ex.new hD, sB⟩
      (fun i H' _ p => ex_l p.1 s1') (fun i x H' H'' hi p y => ?_) (fun H' p => ?_)
    · obtain ⟨T, x0, x1, rfl, nT, rfl, f1, f2⟩ := y
      have hix : i < xs.length := by rw [← hlu]; exact hi
      have gx : xs[i]? = some xs[i] := by simp [hix]
      have gE := enumL_get gx
      have e0 : x0 = .int (i : Int) := (Option.some.inj f1).symm
      subst e0
      have eT : Ex H' (upd H' T (.tup [.int (i : Int), x1])) := Ex.new nT
      have sT := p.2.ex eT
      have dm : Dt K (msk (D :: (muA ms ++ Mc)) (upd H' T (.tup [.int (i : Int), x1]))) x1 xs[i] := by
        have d2 : Dts K (msk (D :: (muA ms ++ Mc)) (upd H' T (.tup [.int (i : Int), x1]))) us xs := by
          have q1 : Dts K (msk (muA ms ++ Mc) H2) us xs := ds
          have q2 : Ex (msk (muA ms ++ Mc) H2) (msk (D :: (muA ms ++ Mc)) (upd H' T (.tup [.int (i : Int), x1]))) := fun b o hb' => by
            by_cases z : b ∈ muA ms ++ Mc
            · rw [msk_in z] at hb'; cases hb'
            · rw [msk_out z] at hb'
              have nb : b ≠ D := ne_of_none hb' hD
              rw [msk_out (by simp only [List.mem_cons, not_or]; exact ⟨nb, z⟩)]
              exact eT b o (p.1 b o hb')
          exact q1.mono q2
        obtain ⟨w, w1, w2⟩ := d2.at gx
        have : x1 = w := Option.some.inj (f2.symm.trans w1)
        subst this; exact w2
      have nTD : T ∉ D :: (muA ms ++ Mc) := fun z => (p.2.mok T z) nT
      have dw : Dt K (msk (D :: (muA ms ++ Mc)) (upd H' T (.tup [.int (i : Int), x1]))) (.ref T) ((i : Int), xs[i]) := Dt.ofPair (SqT.of (by rw [msk_out nTD]; exact upd_same)) (Dt.ofInt _) dm
      refine hb D (.ref a) ((i : Int), xs[i]) (.ref T) _ _ (sT.put dw) (List.mem_of_getElem? gE) _ fun σ2 hw he => ⟨hw, ?_⟩
      have hlen : (((enumL xs).take i).map ef).length < 50000 := by
        rw [List.length_map, List.length_take, enumL_len]
        omega
      exact lc_turn (ms := ms) (tt := tYes) (b := true) (zs := ((enumL xs).take (i + 1)).map ef) sT hlen (fun H3 => Ex H2 H3 ∧ Sg K Mc He H3 ((.ref a, Dx.toX xs) :: is) ((D, .lst ((((enumL xs).take (i + 1)).map ef).map Dx.toX)) :: ms)) (fun H2 _ _ _ q => q H2 (Ex.refl H2)) (fun _ => he) (by rw [if_pos rfl, take_snoc gE, List.map_append]; rfl) (fun H3 h4 s3 => ⟨by
        obtain ⟨H4, e4, e5⟩ := h4
        rcases e5 with e5 | ⟨o, e5⟩
        · rw [e5]; exact (p.1.trans eT).trans e4
        · rw [e5]; exact Ex.mut ((p.1.trans eT).trans e4) hD, s3⟩)
    · have z := p.2
      have et : (enumL xs).take us.length = enumL xs := List.take_of_length_le (by rw [enumL_len, hlu]; exact Nat.le_refl _)
      rw [et] at z
      obtain ⟨us2, h3, h4⟩ := z.lst (k := 0) rfl
      exact q D us2 H' (fresh_back e2 hD) (e2.trans p.1) h3 h4
theorem z_augSG {i : Nat} {a b : Str} (s : Sg K Mc He H is ms) (hx : σ[i]? = some (some (.str a))) (h : Hv K (muA ms ++ Mc) te σ H b) (hz : a.length + b.length ≤ 100000) (k : ∀ y, y = a ++ b → ∀ H1, Sg K Mc He H1 is ms → tz D (σ.set i (some (.str y))) H1) :
    tSeq (tAug i te (fun x y H Q => ∃ i j, x = .str i ∧ y = .str j ∧ i.length + j.length ≤ sizeLine ∧ Q (.str (i ++ j)) H)) tz D σ H :=
  ⟨.str a, hx, h H (Ex.refl H) s.mok _ fun v H1 e d => ⟨a, b, rfl, d.str, sz_of hz, k _ rfl H1 (s.ex e)⟩⟩
end
theorem str_len_app (a b : Str) : (a ++ b).length = a.length + b.length := by
  rw [TL.len_tl, TL.len_tl, TL.len_tl, TL.tl_append, List.length_append]
theorem chars_one {s x : Str} {i : Nat} (h : (chars s)[i]? = some x) : x.length = 1 := by
  unfold chars at h
  rw [List.getElem?_map] at h
  cases hc : s.cps.toList[i]? with
  | none => rw [hc] at h; cases h
  | some c =>
    rw [hc] at h
    cases h
    rfl
theorem strAt_len (s : Str) (i : Nat) : (strAt s i).length = 1 := rfl
end Ly

namespace Ly
open PySem PySem.Spec PyProof.Rows L2 Evl
open PySem.W (Datum DatumOrd Tup T3 T4 minOf)
section
variable {K : PySem.W.Frag} {Mc M : List Addr} {He H H1 H2 : Hp} {is js : Ims} {ms : Mus} {σ : L2.St} {te ta tb tl : TE} {tt : TT} {g : TG} {tlo thi : TO}
theorem inV_strs (a : Str) : ∀ xs : List Str, inV (.str a) (xs.map V.str) = decide (a ∈ xs)
  | [] => by simp [inV]
  | x :: xs => by
    have ih := inV_strs a xs
    unfold inV at ih ⊢
    rw [List.map_cons, List.any_cons, ih]
    show (x == a || _) = _
    by_cases h : x = a
    · subst h; simp
    · have h2 : ¬ a = x := fun z => h z.symm
      simp [h, h2]
theorem flat_strs : ∀ xs : List Str, (xs.map V.str).all flatV = true
  | [] => rfl
  | x :: xs => by rw [List.map_cons, List.all_cons, flat_strs xs]; rfl
theorem hv_memS {neg : Bool} {tr : TA} {a : Str} {xs : List Str} (ha : Hv K M ta σ H a) (hr : HAs K M tr σ H xs) (hl : xs.length ≤ 100000) : Hv K M (tOp (rIn K neg) ta (tTup tr)) σ H (if neg then !decide (a ∈ xs) else decide (a ∈ xs)) := fun H1 e m Q q =>
  ha H1 e m _ fun v H2 e2 d => hr H2 (e.trans e2) (m.ex e2) _ fun vs H3 e3 d' => ⟨sz_of (by rw [d'.len]; exact hl), fun p hp => by
    have e4 : Ex H3 (upd H3 p (.tup vs)) := Ex.new hp
    have hv := dts_strs d'
    refine ⟨p, vs, rfl, Or.inr (SqT.of upd_same), by rw [d.str]; rfl, by rw [hv]; exact flat_strs xs, ?_⟩
    have hb : inV v vs = decide (a ∈ xs) := by rw [d.str, hv]; exact inV_strs a xs
    rw [hb]
    exact q _ _ ((e2.trans e3).trans e4) (Dt.ofBool _)⟩
theorem hv_inTS {tr : TA} {a : Str} {xs : List Str} (ha : Hv K M ta σ H a) (hr : HAs K M tr σ H xs) (hl : xs.length ≤ 100000) : Hv K M (tOp (rIn K false) ta (tTup tr)) σ H (decide (a ∈ xs)) := hv_memS (neg := false) ha hr hl
theorem hv_niTS {tr : TA} {a : Str} {xs : List Str} (ha : Hv K M ta σ H a) (hr : HAs K M tr σ H xs) (hl : xs.length ≤ 100000) : Hv K M (tOp (rIn K true) ta (tTup tr)) σ H (!decide (a ∈ xs)) := hv_memS (neg := true) ha hr hl
end
/-! ### facts of texts -/
abbrev cps (s : Str) : List Nat := s.cps.toList
theorem len_cps (s : Str) : s.length = (cps s).length := by simp [Str.length, cps]
theorem cps_app (a b : Str) : cps (a ++ b) = cps a ++ cps b := by
  show (a ++ b).cps.toList = _
  rw [PySem.Str.cps_append, Array.toList_append]
theorem str_ext {a b : Str} (h : cps a = cps b) : a = b := by
  cases a; cases b
  congr 1
  exact Array.toList_inj.mp h
theorem cps_lower {s : Str} (h : ∀ c ∈ cps s, c < 128) : cps (Txt.lower s) = (cps s).map PyProof.Rows.lo1 := by
  rw [PyProof.Rows.lower_ascii h]
  show (Array.map _ _).toList = _
  rw [Array.toList_map]
theorem find3_cases (x y : Str) (i : Int) :
    (Txt.find3 x y i = -1 ∧ ∀ k, PySem.fromIndex x.length i ≤ k → ¬ StrLaws.At x y x.length k) ∨
    ∃ k : Nat, Txt.find3 x y i = (k : Int) ∧ PySem.fromIndex x.length i ≤ k ∧ StrLaws.At x y x.length k ∧ ∀ v, PySem.fromIndex x.length i ≤ v → v < k → ¬ StrLaws.At x y x.length v := by
  unfold Txt.find3
  rcases StrLaws.occ_head_from x y (PySem.fromIndex x.length i) 1 (Nat.le_refl 1) with ⟨h0, hn⟩ | ⟨k, r, h0, h1, h2, h3⟩
  · rw [h0]; exact .inl ⟨rfl, hn⟩
  · rw [h0]; exact .inr ⟨k, rfl, h1, h2, h3⟩
theorem from_nat (n : Nat) {i : Int} (h : 0 ≤ i) : PySem.fromIndex n i = i.toNat := by
  unfold PySem.fromIndex
  rw [if_neg (by omega)]
  omega
theorem inStr_one (c : Nat) (s : Str) : inStr ⟨#[c]⟩ s = decide (c ∈ cps s) := StrLaws.found_one s c
theorem chars_cps (s : Str) : chars s = (cps s).map fun c => ⟨#[c]⟩ := rfl
theorem mem_chars {s x : Str} {i : Nat} (h : (chars s)[i]? = some x) : ∃ c ∈ cps s, x = ⟨#[c]⟩ := by
  rw [chars_cps, List.getElem?_map] at h
  cases hc : (cps s)[i]? with
  | none => rw [hc] at h; cases h
  | some c =>
    rw [hc] at h
    exact ⟨c, List.mem_of_getElem? hc, (Option.some.inj h).symm⟩
abbrev DIG : Str := PySem.Str.ofString "0123456789"
theorem cps_dig : cps DIG = [48, 49, 50, 51, 52, 53, 54, 55, 56, 57] := by decide +kernel
theorem dig_iff (c : Nat) : inStr ⟨#[c]⟩ DIG = true ↔ 48 ≤ c ∧ c ≤ 57 := by
  rw [inStr_one, cps_dig, decide_eq_true_eq]
  simp only [List.mem_cons, List.not_mem_nil, or_false]
  omega
theorem int_dig {c : Nat} (h : 48 ≤ c ∧ c ≤ 57) : PySem.intText? ⟨#[c]⟩ = some ((c - 48 : Nat) : Int) := by
  obtain ⟨h1, h2⟩ := h
  have : c = 48 ∨ c = 49 ∨ c = 50 ∨ c = 51 ∨ c = 52 ∨ c = 53 ∨ c = 54 ∨ c = 55 ∨ c = 56 ∨ c = 57 := by omega
  rcases this with h | h | h | h | h | h | h | h | h | h <;> (subst h; decide +kernel)
theorem int_sign {s x : Str} {i : Nat} (h : (chars s)[i]? = some x) (hd : inStr x DIG = true) : PySem.intText? x = some ((PySem.intText? x).getD 0) := by
  obtain ⟨c, _, rfl⟩ := mem_chars h
  rw [int_dig ((dig_iff c).mp hd)]
  rfl
theorem sum_le {α : Type} (f : α → Str) (n : Nat) (h : ∀ x, (f x).length ≤ n) : ∀ xs : List α, ((xs.map f).map (·.length)).sum ≤ n * xs.length
  | [] => by simp
  | x :: xs => by
    have := sum_le f n h xs
    have := h x
    rw [List.map_cons, List.map_cons, List.sum_cons, List.length_cons, Nat.mul_add]
    omega
theorem getD_P {α : Type} {P : α → Prop} {xs : List α} {d : α} (h : ∀ x ∈ xs, P x) (hd : P d) (i : Nat) : P (xs.getD i d) := by
  rw [List.getD_eq_getElem?_getD]
  cases hx : xs[i]? with
  | none => exact hd
  | some x => exact h x (List.mem_of_getElem? hx)
theorem next_find (d c : Str) {s : Int} (h0 : 0 ≤ s) : Txt.find3 d c (s + 1) < 0 ∨ (s < Txt.find3 d c (s + 1) ∧ Txt.find3 d c (s + 1) ≤ (d.length : Int)) := by
  rcases find3_cases d c (s + 1) with ⟨h, _⟩ | ⟨k, h, h1, h2, _⟩
  · left; omega
  · right
    rw [from_nat _ (by omega)] at h1
    have := h2.1
    omega
theorem loopW_inv {S : Type} {c : S → Bool} {f : S → S} (I : S → Prop) (hs : ∀ s, I s → c s = true → I (f s)) : ∀ (n : Nat) (s : S), I s → I (loopW c f n s)
  | 0, s, h => h
  | n + 1, s, h => by
    rw [loopW]
    split
    · rename_i hc
      exact loopW_inv I hs n _ (hs s h hc)
    · exact h
theorem foldl_inv {S α : Type} {f : S → α → S} (I : S → Prop) : ∀ (l : List α) (s : S), (∀ s x, x ∈ l → I s → I (f s x)) → I s → I (l.foldl f s)
  | [], s, _, h => h
  | x :: l, s, hs, h => by
    rw [List.foldl_cons]
    exact foldl_inv I l _ (fun s y hy => hs s y (List.mem_cons_of_mem _ hy)) (hs s x List.mem_cons_self h)
end Ly

namespace Ly
open PySem PySem.Spec PyProof.Rows L2 Evl
/-! ### facts of loops and of places in texts -/
/-- what lies from lo on, n places long -/
def gl {β : Type} (occ : Nat → Bool) (blk : Nat → List β) : Nat → Nat → List β
  | _, 0 => []
  | lo, n + 1 => (if occ lo = true then blk lo else []) ++ gl occ blk (lo + 1) n
theorem gl_skip {β : Type} {occ : Nat → Bool} {blk : Nat → List β} : ∀ (j lo r : Nat), (∀ v, lo ≤ v → v < lo + j → occ v = false) → gl occ blk lo (j + r) = gl occ blk (lo + j) r
  | 0, lo, r, _ => by rw [Nat.zero_add, Nat.add_zero]
  | j + 1, lo, r, h => by
    rw [show j + 1 + r = (j + r) + 1 by omega, gl, h lo (by omega) (by omega), if_neg Bool.false_ne_true, List.nil_append, gl_skip j (lo + 1) r fun v h1 h2 => h v (by omega) (by omega)]
    rw [show lo + 1 + j = lo + (j + 1) by omega]
theorem gl_none {β : Type} {occ : Nat → Bool} {blk : Nat → List β} : ∀ (j lo : Nat), (∀ v, lo ≤ v → v < lo + j → occ v = false) → gl occ blk lo j = []
  | 0, lo, _ => rfl
  | j + 1, lo, h => by
    rw [gl, h lo (by omega) (by omega), if_neg Bool.false_ne_true, List.nil_append]
    exact gl_none j (lo + 1) fun v h1 h2 => h v (by omega) (by omega)
theorem gl_mem {β : Type} {occ : Nat → Bool} {blk : Nat → List β} {x : β} : ∀ (n lo : Nat), x ∈ gl occ blk lo n → ∃ k, lo ≤ k ∧ k < lo + n ∧ occ k = true ∧ x ∈ blk k
  | 0, lo, h => by cases h
  | n + 1, lo, h => by
    rw [gl, List.mem_append] at h
    rcases h with h | h
    · cases ho : occ lo with
      | true => rw [ho, if_pos rfl] at h; exact ⟨lo, by omega, by omega, ho, h⟩
      | false => rw [ho, if_neg Bool.false_ne_true] at h; cases h
    · obtain ⟨k, h1, h2, h3⟩ := gl_mem n (lo + 1) h
      exact ⟨k, by omega, by omega, h3⟩
theorem gl_split {β : Type} {occ : Nat → Bool} {blk : Nat → List β} : ∀ (a b lo : Nat), gl occ blk lo (a + b) = gl occ blk lo a ++ gl occ blk (lo + a) b
  | 0, b, lo => by rw [Nat.zero_add]; rfl
  | a + 1, b, lo => by
    rw [show a + 1 + b = (a + b) + 1 by omega, gl, gl, gl_split a b (lo + 1), List.append_assoc, show lo + 1 + a = lo + (a + 1) by omega]
/-- turns over the places, and turns over what lies there -/
theorem foldl_gl {S β : Type} {occ : Nat → Bool} {blk : Nat → List β} {f : S → β → S} {g : S → Int → S} : ∀ (n lo : Nat) (s : S), (∀ v s, lo ≤ v → v < lo + n → g s (v : Int) = if occ v = true then (blk v).foldl f s else s) → (gl occ blk lo n).foldl f s = loopN g n (lo : Int) s
  | 0, lo, s, _ => rfl
  | n + 1, lo, s, h => by
    rw [gl, List.foldl_append, loopN, h lo s (by omega) (by omega)]
    have ih := fun s' => foldl_gl (occ := occ) (blk := blk) (f := f) (g := g) n (lo + 1) s' fun v s h1 h2 => h v s (by omega) (by omega)
    have e : ((lo : Int) + 1) = ((lo + 1 : Nat) : Int) := by omega
    rw [e]
    cases ho : occ lo with
    | true => rw [if_pos rfl, if_pos rfl]; exact ih _
    | false => rw [if_neg Bool.false_ne_true, if_neg Bool.false_ne_true]; exact ih _
/-- turns over places with the item there, and turns over the list told with its places -/
theorem loopN_enum {S α : Type} [DecidableEq α] [Dx α] {g : S → Int → α → S} {d : α} {xs : List α} : ∀ (k i : Nat) (s : S), i + k = xs.length → loopN (fun s x => g s x (xs.getD (Int.toNat x) d)) k (i : Int) s = ((enumL xs).drop i).foldl (fun s p => g s p.1 p.2) s
  | 0, i, s, h => by
    rw [List.drop_eq_nil_of_le (by rw [enumL_len]; omega)]
    rfl
  | k + 1, i, s, h => by
    have hi : i < xs.length := by omega
    have gx : xs[i]? = some xs[i] := by simp [hi]
    have gE := enumL_get gx
    obtain ⟨hi2, ge⟩ := List.getElem?_eq_some_iff.mp gE
    rw [List.drop_eq_getElem_cons hi2, ge, List.foldl_cons, loopN]
    have e : ((i : Int) + 1) = ((i + 1 : Nat) : Int) := by omega
    rw [e, loopN_enum k (i + 1) _ (by omega)]
    have e2 : xs.getD (Int.toNat (i : Int)) d = xs[i] := by
      rw [Int.toNat_natCast, List.getD_eq_getElem?_getD, gx]
      rfl
    rw [e2]
theorem enumL_mem {α : Type} [DecidableEq α] [Dx α] {xs : List α} {p : Int × α} (h : p ∈ enumL xs) : 0 ≤ p.1 ∧ p.1 < (xs.length : Int) ∧ p.2 ∈ xs := by
  obtain ⟨i, hi, rfl⟩ := List.getElem_of_mem h
  have hx : i < xs.length := by rw [enumL_len] at hi; exact hi
  have gx : xs[i]? = some xs[i] := by simp [hx]
  have gE := enumL_get gx
  obtain ⟨_, ge⟩ := List.getElem?_eq_some_iff.mp gE
  rw [ge]
  exact ⟨by show (0 : Int) ≤ (i : Int); omega, by show (i : Int) < _; omega, List.getElem_mem hx⟩
/-- c lies in d at k -/
def occ (d c : Str) (k : Nat) : Bool := decide (k + c.length ≤ d.length) && Builtin.Str.subAt d c k
theorem occ_iff (d c : Str) (k : Nat) : occ d c k = true ↔ StrLaws.At d c d.length k := by
  unfold occ StrLaws.At
  rw [Bool.and_eq_true, decide_eq_true_eq]
theorem occ_no {d c : Str} {k : Nat} (h : ¬ StrLaws.At d c d.length k) : occ d c k = false := by
  cases e : occ d c k with
  | false => rfl
  | true => exact absurd ((occ_iff d c k).mp e) h
theorem find_zero (d c : Str) : Txt.find d c = Txt.find3 d c ((0 : Nat) : Int) := by
  unfold Txt.find Txt.find3
  rw [from_nat _ (by omega)]
  rfl
/-- the places, found one after another -/
theorem loopW_occ {β : Type} {d c : Str} {blk : Nat → List β} {f : List β × Int → List β × Int} (hf : ∀ l (k : Nat), f (l, (k : Int)) = (l ++ blk k, Txt.find3 d c ((k : Int) + 1))) :
    ∀ (fuel lo : Nat) (l : List β), lo ≤ d.length + 1 → d.length + 1 - lo < fuel →
      (loopW (fun (s_ : List β × Int) => decide ((0 : Int) ≤ s_.2)) f fuel (l, Txt.find3 d c (lo : Int))).1 = l ++ gl (occ d c) blk lo (d.length + 1 - lo)
  | 0, lo, l, _, h => by omega
  | fuel + 1, lo, l, h1, h2 => by
    rw [loopW]
    rcases find3_cases d c (lo : Int) with ⟨h, hn⟩ | ⟨k, h, hk, hat, hn⟩
    · rw [from_nat _ (by omega), Int.toNat_natCast] at hn
      rw [h, if_neg (show ¬ decide ((0 : Int) ≤ -1) = true by decide)]
      rw [gl_none _ _ fun v h1 h2 => occ_no (hn v h1), List.append_nil]
    · rw [from_nat _ (by omega), Int.toNat_natCast] at hk hn
      have hle := hat.1
      rw [h, if_pos (by show decide ((0 : Int) ≤ (k : Int)) = true; rw [decide_eq_true_eq]; omega), hf, show ((k : Int) + 1) = ((k + 1 : Nat) : Int) by omega, loopW_occ hf fuel (k + 1) _ (by omega) (by omega), List.append_assoc]
      congr 1
      rw [show d.length + 1 - lo = (k - lo) + (d.length + 1 - k) by omega, gl_skip (k - lo) lo _ fun v h1 h2 => occ_no (hn v h1 (by omega))]
      rw [show lo + (k - lo) = k by omega, show d.length + 1 - k = (d.length + 1 - (k + 1)) + 1 by omega, gl, if_pos ((occ_iff d c k).mpr hat)]
theorem cut_occ {d c : Str} {k : Nat} (h : k + c.length ≤ d.length) : decide (cutS d (some (k : Int)) (some ((k : Int) + ((c.length : Nat) : Int))) = c) = occ d c k := by
  have e1 : HT.sIx d.length 0 (some (k : Int)) = k := by rw [HT.sIx_nat]; omega
  have e2 : HT.sIx d.length d.length (some ((k : Int) + ((c.length : Nat) : Int))) = k + c.length := by
    rw [show ((k : Int) + ((c.length : Nat) : Int)) = ((k + c.length : Nat) : Int) by omega, HT.sIx_nat]; omega
  unfold occ
  rw [decide_eq_true h, Bool.true_and, StrLaws.subAt_eq]
  unfold cutS
  rw [e1, e2, show k + c.length - k = c.length by omega]
  by_cases q : (d.cps.toList.drop k).take c.length = c.cps.toList
  · rw [q, beq_self_eq_true, decide_eq_true_eq]
  · have q2 : ((d.cps.toList.drop k).take c.length == c.cps.toList) = false := beq_eq_false_iff_ne.mpr q
    rw [q2, decide_eq_false]
    intro z
    apply q
    have := congrArg (fun (s : Str) => s.cps.toList) z
    simpa using this
theorem loopNR_all {ρ S : Type} {f : S → Int → Lp ρ S} (h : ∀ s k, f s k = .nxt s) : ∀ (n : Nat) (k : Int) (s : S), loopNR f n k s = .inr s
  | 0, _, _ => rfl
  | n + 1, k, s => by rw [loopNR, h]; exact loopNR_all h n (k + 1) s
theorem set_same {xs : List Int} {i : Nat} {v : Int} (h : xs.getD i 0 = v) : xs.set i v = xs := by
  rw [List.getD_eq_getElem?_getD] at h
  cases hx : xs[i]? with
  | none => exact List.set_eq_of_length_le (List.getElem?_eq_none_iff.mp hx)
  | some x =>
    rw [hx] at h
    obtain ⟨hi, hg⟩ := List.getElem?_eq_some_iff.mp hx
    subst h
    rw [← hg]
    exact List.set_getElem_self hi
theorem getD_nonneg {xs : List Int} (h : ∀ x ∈ xs, (0 : Int) ≤ x) (i : Nat) : 0 ≤ xs.getD i 0 := getD_P (P := fun x => (0 : Int) ≤ x) h (Int.le_refl 0) i
theorem cutL_in {α : Type} {xs : List α} {a b : Nat} : cutL xs (some (a : Int)) (some (b : Int)) = (xs.drop (min a xs.length)).take (min b xs.length - min a xs.length) := by
  unfold cutL
  rw [HT.sIx_nat, HT.sIx_nat]
theorem zeros_eq (n : Nat) : (List.replicate n [(0 : Int)]).flatten = (irng 0 n).map (fun _ => (0 : Int)) := by
  have h1 : ∀ k : Nat, (List.replicate k [(0 : Int)]).flatten = List.replicate k 0 := fun k => by
    induction k with
    | zero => rfl
    | succ k ih => rw [List.replicate_succ, List.flatten_cons, ih]; rfl
  rw [h1]
  symm
  rw [List.eq_replicate_iff]
  exact ⟨by rw [List.length_map, irng_len], fun b hb => by obtain ⟨_, _, rfl⟩ := List.mem_map.mp hb; rfl⟩
end Ly

namespace Ly
open PySem PySem.Spec PyProof.Rows L2 Evl CwR
open PySem.W (Datum DatumOrd Tup T3 T4 minOf)
/-! ### where a token is out: tests, a turn's body, the loop -/
def PTT (X : Cx) (c : Expr) (t : TT) : Prop :=
  ∀ (pins : List (Addr × Obj)) (s : Shared) (σ : L2.St) (H : Hp) (Q : Bool → Hp → Prop), 1 ≤ s.toks → Inv X pins σ H s → t σ H Q → wpAny (model X.prog X.w) X.A (isTrue c X.env (eval c X.env)) (TP X pins σ Q) X.xe s
def PWT (X : Cx) (c : Expr) (t : TT) : Prop :=
  ∀ (wh : Sem Value) (pins : List (Addr × Obj)) (s : Shared) (σ : L2.St) (H : Hp) (Q : Bool → Hp → Prop), 1 ≤ s.toks → Inv X pins σ H s → t σ H Q → wpAny (model X.prog X.w) X.A (isTrue c X.env wh) (TP X pins σ Q) X.xe s
section
variable {X : Cx} {a b c o : Expr} {rest : List Expr} {pos apos : Pos} {ta tb to : TE} {tA tB : TT}
theorem PTT.of (h : PT X c tA) : PTT X c tA := fun pins s σ H Q _ I q => h.run pins s σ H Q I q
theorem PWT.ptt (h : PWT X c tA) : PTT X c tA := fun pins s σ H Q h0 I q => h _ pins s σ H Q h0 I q
theorem ptt_cmp {op : CmpOp} {r : R2} (ho : OpR X (compareOp op) r) (ha : PET X a ta) (hb : PE X b tb) (hm : behindInMarks op b = false) : PTT X (.Compare a [op] [b] pos) (tTest (tOp r ta tb)) := fun pins s σ H Q h0 I h =>
  wpAny_isTrue_Compare1 (thn (ha pins s σ H _ h0 I h) fun v s1 ⟨x, H1, I1, r1, q1⟩ => thn (hb.run pins s1 σ H1 _ I1 q1) fun u s2 ⟨y, H2, I2, r2, q2⟩ =>
    thn (ho pins s2 σ H2 x y v u _ I2 r1 r2 q2) fun d s3 ⟨z, H3, I3, r3, k, e, q3⟩ => by
      subst e
      cases r3
      exact wpAny_truthy_bool ⟨H3, I3, q3⟩) hm
theorem pwt_and1 (ha : PTT X a tA) : PWT X (.BoolOp .And [a] pos) tA := fun wh pins s σ H Q h0 I h =>
  isTrue_and (thn (ha pins s σ H Q h0 I h) fun d s1 e => by
    cases d with
    | true => exact isTrue_and_nil e
    | false => exact e)
theorem pwt_and (ha : PTT X a tA) (hb : PWT X (.BoolOp .And (b :: rest) pos) tB) : PWT X (.BoolOp .And (a :: b :: rest) pos) (tAnd tA tB) := fun wh pins s σ H Q h0 I h =>
  isTrue_and (wpAny_mono (PySem.wpAny_toks (ha pins s σ H _ h0 I h)) (fun d s1 q => by
    obtain ⟨hk, H1, I1, q1⟩ := q
    cases d with
    | true => exact hb wh pins s1 σ H1 Q (Nat.le_trans h0 hk) I1 q1
    | false => exact ⟨H1, I1, q1⟩) fun _ _ z => z.2)
theorem pet_m0 {id : String} {name : Str} {r : V → List V → Hp → VK → Prop} (slot : Slot "str" name id) (ty : typeOf (.builtin id) = pure (.type "method_descriptor")) (rule : MtR X id r) (ho : PET X o to)
    (hbase : attributeBase o name X.env (eval o X.env) = eval o X.env := by rfl) (hline : (apos.endLine == pos.line) = true := by rfl) : PET X (.Call (.Attribute o name apos) [] [] pos) (tM0 r to) := fun pins s σ H Q h0 I h =>
  PySem.Call_method0 hbase hline (thn (ho pins s σ H _ h0 I h) fun v s1 ⟨x, H1, I1, r1, q⟩ => by
    obtain ⟨⟨z, rfl⟩, q1⟩ := q
    obtain ⟨t, rfl⟩ := _root_.id r1
    exact ⟨"str", _, PySem.F.plainAttrs_str, slot, ty, typeIs_str _ _ _, (fun _ e => nomatch e), Calls.callWith_builtin rfl (PySem.evalArgs_none (rule pins s1 σ H1 _ [] _ [] Q I1 r1 .nil q1))⟩)
theorem pet_lower (ho : PET X o to) (hbase : attributeBase o "lower" X.env (eval o X.env) = eval o X.env := by rfl) (hline : (apos.endLine == pos.line) = true := by rfl) :
    PET X (.Call (.Attribute o "lower" apos) [] [] pos) (tM0 (fun x xs H Q => ∃ a, x = .str a ∧ xs = [] ∧ a.length ≤ 5592405 ∧ Q (.str (Txt.lower a)) H) to) :=
  pet_m0 PySem.F.slot_str_lower PySem.F.type_str_lower mt_lower ho hbase hline
theorem pst_ifT {x y : List Stmt} {tc : TT} {t u : TS} (hc : PTT X c tc) (hx : PSsT X x t) (hy : PSsT X y u) : PST X (.If c x y pos) (tIfS tc t u) := fun pins s σ H D h0 I h =>
  wpAny_If (wpAny_mono (PySem.wpAny_toks (hc pins s σ H _ h0 I h)) (fun d s1 q => by
    obtain ⟨hk, H1, I1, q1⟩ := q
    cases d with
    | true => exact hx pins s1 σ H1 D (Nat.le_trans h0 hk) I1 q1
    | false => exact hy pins s1 σ H1 D (Nat.le_trans h0 hk) I1 q1) fun _ _ z => z.2)
/-- for: a token that is out stays out through the turns -/
theorem pst_forT {tg iter : Expr} {body : List Stmt} {wi : TI} {g : TG} {tb : TS} (hp : PassesOwn (model X.prog X.w) X.A X.env X.xe) (hc : X.calm = true) (hi : PI X tg iter wi) (hg : PG X tg g) (hb : PSsT X body tb)
    (hs : ∀ x, foldedSetIterable iter X.env x = pure x := by intro _; rfl) : PST X (.For tg iter body [] pos) (tFor wi g tb) := by
  intro pins s σ H D h0 I h
  have grow : ∀ {α : Type} {t : Sem α} {Q : α → Shared → Prop} {E : Value → Shared → Prop} {z : Shared}, 1 ≤ z.toks → wpAny (model X.prog X.w) X.A t Q E z → wpAny (model X.prog X.w) X.A t (fun r z' => 1 ≤ z'.toks ∧ Q r z') E z := fun hz w =>
    wpAny_mono (PySem.wpAny_toks_of hz w) (fun _ _ q => q) fun _ _ q => q.2
  refine wpAny_For (wpAny_mono (grow h0 (hi.run pins s σ H _ I h)) (fun v s1 h1 => wpAny_mono (grow h1.1 h1.2) (fun itv s2 h2 => ?_) fun _ _ q => q) fun _ _ q => q) hs
  obtain ⟨k2, it, fp, tn, J, H2, e, I2, T, st2, f2, W, ⟨m0, w0⟩, turn⟩ := h2
  subst e
  have own : ∀ {H' : Hp}, (∀ b ∈ fp, H' b = none) → ∀ b ∈ fp, FpOk X pins H' b := fun hn b hb => ⟨hn b hb, (f2 b hb).2⟩
  refine codeAny_forLoop_any (fun n s' => 1 ≤ s'.toks ∧ ∃ i σ' H', Inv X pins σ' H' s' ∧ tn i s'.heap ∧ (∀ b ∈ fp, H' b = none) ∧ W i n σ' H') ?_ m0 ⟨k2, 0, σ, H2, I2, st2, fun b hb => (f2 b hb).1, w0⟩
  rintro n s3 ⟨k3, i, σ3, H3, I3, st3, fr3, w3⟩
  rcases turn i n σ3 H3 w3 with ⟨stop, qn⟩ | ⟨go, N, hN, step⟩
  · refine wpAny_passesOwn hp (thn (T.done X rfl rfl rfl hc i pins s3 σ3 H3 X.xe I3 (own fr3) st3 stop) fun r s4 ⟨hr, I4⟩ => ?_)
    subst hr
    exact wpAny_execs_nil ⟨σ3, H3, I4, qn⟩
  · refine wpAny_passesOwn hp (thn (grow k3 (T.item X rfl rfl rfl hc i pins s3 σ3 H3 X.xe I3 (own fr3) st3 go)) fun r s4 ⟨k4, u, hr, h4⟩ => ?_)
    subst hr
    refine wpAny_passesOwn hp (thn (grow k4 h4) fun _ s5 ⟨k5, x, H5, I5, r5, y5, st5, fr5⟩ => ?_)
    have I5' := I5.pinned (own fr5) (T.obj _ _ st5)
    refine wpAny_passesOwn hp (thn (grow k5 (hg.run _ s5 σ3 H5 x u _ I5' r5 (step x H5 y5))) fun _ s6 ⟨k6, σ6, H6, I6, q6⟩ => ?_)
    refine wpAny_passesOwn hp (thn (grow k6 (hb _ s6 σ6 H6 _ k6 I6 q6)) fun f s7 ⟨k7, q7⟩ => ?_)
    have next : ∀ {σ7 : L2.St} {H7 : Hp}, Inv X (pins ++ pinsAt fp s5.heap) σ7 H7 s7 → N σ7 H7 → ∃ m, m < n ∧ 1 ≤ s7.toks ∧ ∃ i σ' H', Inv X pins σ' H' s7 ∧ tn i s7.heap ∧ (∀ b ∈ fp, H' b = none) ∧ W i m σ' H' := fun {σ7 H7} I7 n7 => by
      obtain ⟨m', hm, w7⟩ := hN σ7 H7 n7
      have at7 := fun b (hb : b ∈ fp) o e => I7.pin (b, o) (List.mem_append_right _ (List.mem_append_right _ (mem_pinsAt hb e)))
      refine ⟨m', hm, k7, i + 1, σ7, H7, I7.unpinned, T.keep _ _ _ st5 fun b hb o e => (at7 b hb o e).1, fun b hb => ?_, w7⟩
      obtain ⟨o, e, d⟩ := T.obj _ _ st5 b hb
      exact (at7 b hb o e).2.1
    cases f with
    | next => obtain ⟨σ7, H7, I7, n7⟩ := q7; exact next I7 n7
    | cont => obtain ⟨σ7, H7, I7, n7⟩ := q7; exact next I7 n7
    | brk => obtain ⟨σ7, H7, I7, q7⟩ := q7; exact ⟨σ7, H7, I7.unpinned, q7⟩
    | ret v => obtain ⟨x7, σ7, H7, I7, r7, q7⟩ := q7; exact ⟨x7, σ7, H7, I7.unpinned, r7, q7⟩
/-- x = text.lower(): behind it a token is out -/
theorem pss_lowT {i : Nat} {x : Str} {rs : List Stmt} {u : TS} {pos' p : Pos} (hN : X.N.Nodup) (hi : X.N[i]? = some x) (hx : Loc X.env.scope x) (ho : PE X o to) (h2 : PSsT X rs u)
    (hbase : attributeBase o "lower" X.env (eval o X.env) = eval o X.env := by rfl) (hline : (apos.endLine == p.line) = true := by rfl)
    (hs : swapsWith (.Call (.Attribute o "lower" apos) [] [] p) (some (.Name x pos')) pos.line X.env = pure false := by rfl) (hf : X.fn x = true ∨ X.env.scope.names.lookup x = some .local := by first | exact .inl rfl | exact .inr rfl | assumption) :
    PSs X (.Assign [.Name x pos'] (.Call (.Attribute o "lower" apos) [] [] p) pos :: rs) (tSeq (tAsg (tM0 (fun x xs H Q => ∃ a, x = .str a ∧ xs = [] ∧ a.length ≤ 5592405 ∧ Q (.str (Txt.lower a)) H) to) (gName i)) u) := by
  refine ⟨fun pins s σ H D I h => ?_⟩
  refine wpAny_execs_cons (wpAny_Assign_Name ?_ hs)
  refine PySem.Call_method0 hbase hline (thn (ho.run pins s σ H _ I h) fun v s1 ⟨y, H1, I1, r1, q⟩ => ?_)
  obtain ⟨⟨z, rfl⟩, z2, e, _, hz, q2⟩ := q
  cases e
  obtain ⟨t, rfl⟩ := _root_.id r1
  refine ⟨"str", _, PySem.F.plainAttrs_str, PySem.F.slot_str_lower, PySem.F.type_str_lower, typeIs_str _ _ _, (fun _ e => nomatch e), Calls.callWith_builtin rfl (PySem.evalArgs_none (PySem.SC.lower (PyProof.Rows.short24 (by have := PyProof.Rows.len_lower z; omega)) ?_))⟩
  refine wpAny_mono (PySem.wpAny_toks (store_ok (v := V.str (Txt.lower z)) (u := Value.str (Txt.lower z) s1.toks) (Q := fun _ s2 => Inv X pins (σ.set i (some (V.str (Txt.lower z)))) H1 s2) (I1.tok (s1.toks + 1)) hN hi hx ⟨s1.toks, rfl⟩ (fun _ I2 => I2) hf)) (fun _ s2 q => ?_) fun _ _ z => z.2
  have hk : s1.toks + 1 ≤ s2.toks := q.1
  exact h2 pins s2 _ H1 D (by omega) q.2 q2
end
theorem noxT {X : Cx} {st : List Stmt} {t : TS} (h : PSsT X.nox st t) : PSsT X st t := fun pins s σ H D h0 I hw =>
  wpAny_mono (h pins s σ H D h0 (I.wish _) hw) (fun _ _ q => q.unwish) fun _ _ z => False.elim z
/-- a def whose parameters give out a token -/
theorem okT {P : Program} {w : World} {K : PySem.W.Frag} {mg : Str → Option Value} {base : Heap} {x qual : Str} {st : Stmt} {f : Addr} {fd : FuncData} {N ps : List Str} {k : Nat} {sp : Sp} (F : Fun K x qual st f fd) (S : FnScope N ps (defScope st))
    (hnc : ∀ y ∈ (defScope st).names, y.2 ≠ .cell) (hps : 1 ≤ ps.length) (len : ∀ vs H Q E, sp vs H Q E → vs.length = ps.length)
    (hbody : ∀ (cdv : Value) (A : Around) (outer : List Env) (s : Shared) (H : Hp) (vs : List V) (Q : VK) (E : XK), Room k (A.deeper (envOfC qual (defScope st) s.heap.objs.size f cdv)) → sp vs H Q E →
      ∃ t, PSsT (cxOf CX0 P w K mg base N qual (defScope st) f cdv A outer s H E).nox (defBody st) t ∧ t { nx := fun _ H' => Q .non H', rt := Q } (start N vs) H) : FnOk P w K mg base CX0 (k + 1) f fd ps sp := by
  obtain ⟨oc, od, kV, doc, pm, an, cdv, ct, osl, rfl, lk, hcd⟩ := F.ex
  refine fn_ofT lk hcd S hnc hps len fun A outer s H vs Q E hr hsp => ?_
  obtain ⟨t, h, q⟩ := hbody cdv A outer s H vs Q E hr hsp
  exact ⟨t, noxT h, q⟩
section
variable {K : PySem.W.Frag} {Mc M : List Addr} {He H H1 H2 : Hp} {is js : Ims} {ms : Mus} {σ : L2.St} {te ta tb tl : TE} {tt : TT} {g : TG} {tlo thi : TO}
variable {α β : Type} [DecidableEq α] [Dx α] [DecidableEq β] [Dx β]
theorem hv_replC {a y z : Str} (ha : Hv K M ta σ H a) (hz : a.length + (a.length + 1) * z.length ≤ 100000) : Hv K M (tReplC ta y z) σ H (Txt.replace a y z) := fun H1 e m Q q =>
  ha H1 e m _ fun v H2 e2 d => ⟨a, d.str, by omega, q _ H2 e2 (Dt.ofStr _)⟩
/-- an integer in a list of integers -/
theorem inV_ints (a : Int) : ∀ xs : List Int, inV (.int a) (xs.map V.int) = decide (a ∈ xs)
  | [] => by simp [inV]
  | x :: xs => by
    have ih := inV_ints a xs
    unfold inV at ih ⊢
    rw [List.map_cons, List.any_cons, ih]
    show (x == a || _) = _
    by_cases h : x = a
    · subst h; simp
    · have h2 : ¬ a = x := fun z => h z.symm
      simp [h, h2]
theorem flat_ints : ∀ xs : List Int, (xs.map V.int).all flatV = true
  | [] => rfl
  | x :: xs => by rw [List.map_cons, List.all_cons, flat_ints xs]; rfl
theorem ints_of {H : Hp} : ∀ {vs : List V} {xs : List Int}, Dts K H vs xs → vs = xs.map V.int
  | [], [], _ => rfl
  | [], _ :: _, h => by cases h
  | _ :: _, [], h => by cases h
  | v :: vs, x :: xs, h => by
    cases h with
    | cons a b =>
      rw [List.map_cons, Dt.int (H := H) (K := K) (v := v) (i := x) a, ints_of (vs := vs) (xs := xs) b]
theorem hv_inLI {a : Int} {xs : List Int} (ha : Hv K M ta σ H a) (hb : HS K M tb σ H xs) : Hv K M (tOp (rIn K false) ta tb) σ H (decide (a ∈ xs)) := fun H1 e m Q q =>
  ha H1 e m _ fun v H2 e2 d => hb H2 (e.trans e2) (m.ex e2) _ fun p vs H3 e3 s ds => by
    have hv := ints_of ds
    refine ⟨p, vs, rfl, Or.inl s, by rw [d.int]; rfl, by rw [hv]; exact flat_ints xs, ?_⟩
    have hb : inV v vs = decide (a ∈ xs) := by rw [d.int, hv]; exact inV_ints a xs
    rw [hb]
    exact q _ _ (e2.trans e3) (Dt.ofBool _)
/-- [.. for i in range(a, b) if ..] -/
theorem hv_lcR2 {vs : List Nat} (s : Sg K Mc He H is ms) {a n : Int} (f : Int → Bool) (ef : Int → β) (h0 : Hv K (muA ms ++ Mc) ta σ H a) (h : Hv K (muA ms ++ Mc) tb σ H n) (hz : -100000 ≤ a ∧ a ≤ 100000 ∧ -100000 ≤ n ∧ n ≤ 40000 ∧ n - a ≤ 40000)
    (hb : ∀ D (x : Int) (ys : List β) H1, Sg K Mc He H1 is ((D, .lst (ys.map Dx.toX)) :: ms) → a ≤ x ∧ x < n →
      ∀ Q : L2.St → Hp → Prop, (∀ σ2, wipe σ2 vs = wipe σ vs → HT (muA ((D, Mv.lst (ys.map Dx.toX)) :: ms) ++ Mc) tt σ2 H1 (f x) → (f x = true → Hv K (muA ((D, Mv.lst (ys.map Dx.toX)) :: ms) ++ Mc) te σ2 H1 (ef x)) → Q σ2 H1) → g (.int x) (wipe σ vs) H1 Q) :
    Hv K (muA ms ++ Mc) (tLc (iRng2 (tCons ta (tCons tb tNil))) g tt te vs) σ H (((irng a (n - a).toNat).filter f).map ef) := fun H1 e m Q q =>
  h0 H1 e m _ fun v0 H0 e0 d0 => h H0 (e.trans e0) (m.ex e0) _ fun v H2 e2 d => by
    refine ⟨a, n, by rw [d0.int, d.int], by omega, fun D hD => ?_⟩
    have sA : Sg K Mc He H2 is ms := ((s.ex e).ex e0).ex e2
    have sB : Sg K Mc He (upd H2 D (.lst [])) is ((D, .lst (([] : List β).map Dx.toX)) :: ms) := sA.new hD ⟨[], rfl, .nil⟩
    refine lc_range (lo := a) (n := (n - a).toNat) (fun i H' => Ex H2 H' ∧ Sg K Mc He H' is ((D, .lst (((((irng a (n - a).toNat).take i).filter f).map ef).map Dx.toX)) :: ms)) ⟨Ex.new hD, sB⟩
      (fun i H' hi p => ?_) (fun H' p => ?_)
    · have hx : (irng a (n - a).toNat)[i]? = some (a + (i : Int)) := irng_get hi
      refine hb D (a + (i : Int)) _ H' p.2 ⟨by omega, by omega⟩ _ fun σ2 hw ht he => ⟨hw, ?_⟩
      have hlen : ((((irng a (n - a).toNat).take i).filter f).map ef).length < 50000 := by
        rw [List.length_map]
        have := List.length_filter_le f ((irng a (n - a).toNat).take i)
        rw [List.length_take, irng_len] at this
        omega
      exact lc_turn (ms := ms) (zs := (((irng a (n - a).toNat).take (i + 1)).filter f).map ef) p.2 hlen (fun H3 => Ex H2 H3 ∧ Sg K Mc He H3 is ((D, .lst (((((irng a (n - a).toNat).take (i + 1)).filter f).map ef).map Dx.toX)) :: ms)) ht he (filter_snoc hx) (fun H3 h4 s3 => ⟨by
        obtain ⟨H4, e4, e5⟩ := h4
        rcases e5 with e5 | ⟨o, e5⟩
        · rw [e5]; exact p.1.trans e4
        · rw [e5]; exact Ex.mut (p.1.trans e4) hD, s3⟩)
    · have z := p.2
      have et : (irng a (n - a).toNat).take (n - a).toNat = irng a (n - a).toNat := List.take_of_length_le (by rw [irng_len]; exact Nat.le_refl _)
      rw [et] at z
      exact q _ H' ((e0.trans e2).trans p.1) (z.frz).im.1
theorem hv_lcR20 {vs : List Nat} (s : Sg K Mc He H is ms) {a n : Int} (ef : Int → β) (h0 : Hv K (muA ms ++ Mc) ta σ H a) (h : Hv K (muA ms ++ Mc) tb σ H n) (hz : -100000 ≤ a ∧ a ≤ 100000 ∧ -100000 ≤ n ∧ n ≤ 40000 ∧ n - a ≤ 40000)
    (hb : ∀ D (x : Int) (ys : List β) H1, Sg K Mc He H1 is ((D, .lst (ys.map Dx.toX)) :: ms) → a ≤ x ∧ x < n →
      ∀ Q : L2.St → Hp → Prop, (∀ σ2, wipe σ2 vs = wipe σ vs → Hv K (muA ((D, Mv.lst (ys.map Dx.toX)) :: ms) ++ Mc) te σ2 H1 (ef x) → Q σ2 H1) → g (.int x) (wipe σ vs) H1 Q) :
    Hv K (muA ms ++ Mc) (tLc (iRng2 (tCons ta (tCons tb tNil))) g tYes te vs) σ H ((irng a (n - a).toNat).map ef) := by
  have key := hv_lcR2 (g := g) (tt := tYes) (te := te) (vs := vs) s (fun _ => true) ef h0 h hz (fun D x ys H1 s1 hx Q k => hb D x ys H1 s1 hx Q fun σ2 hw he => k σ2 hw (fun H2 _ _ _ q => q H2 (Ex.refl H2)) fun _ => he)
  exact key.is (by rw [List.filter_eq_self.mpr (fun _ _ => rfl)])
/-- [.. for i, x in enumerate(xs) if ..] -/
theorem hv_lcE {vs : List Nat} (s : Sg K Mc He H is ms) {xs : List α} (f : Int × α → Bool) (ef : Int × α → β) (h : Hv K (muA ms ++ Mc) tl σ H xs) (hz : xs.length ≤ 40000)
    (hb : ∀ D src (x : Int × α) w (ys : List β) H1, Sg K Mc He H1 ((w, Dx.toX x) :: (src, Dx.toX xs) :: is) ((D, .lst (ys.map Dx.toX)) :: ms) → x ∈ enumL xs →
      ∀ Q : L2.St → Hp → Prop, (∀ σ2, wipe σ2 vs = wipe σ vs → HT (muA ((D, Mv.lst (ys.map Dx.toX)) :: ms) ++ Mc) tt σ2 H1 (f x) → (f x = true → Hv K (muA ((D, Mv.lst (ys.map Dx.toX)) :: ms) ++ Mc) te σ2 H1 (ef x)) → Q σ2 H1) → g w (wipe σ vs) H1 Q) :
    Hv K (muA ms ++ Mc) (tLc (iEnum K (tCons tl tNil)) g tt te vs) σ H (((enumL xs).filter f).map ef) := fun H1 e m Q q =>
  h H1 e m _ fun v H2 e2 d => by
    obtain ⟨a, us, rfl, s1, ds⟩ := d.list
    have s1' : SqL K H2 a us := ex_l msk_le s1
    refine ⟨a, us, rfl, s1', fun D hD => ?_⟩
    have sA : Sg K Mc He H2 ((.ref a, Dx.toX xs) :: is) ms := ((s.ex e).ex e2).put d
    have sB : Sg K Mc He (upd H2 D (.lst [])) ((.ref a, Dx.toX xs) :: is) ((D, .lst (([] : List β).map Dx.toX)) :: ms) := sA.new hD ⟨[], rfl, .nil⟩
    have hlu : us.length = xs.length := ds.len
    refine lc_it (walk_enum (K := K) (a := a) (xs := us)) (fun i H' => Ex H2 H' ∧ Sg K Mc He H' ((.ref a, Dx.toX xs) :: is) ((D, .lst (((((enumL xs).take i).filter f).map ef).map Dx.toX)) :: ms)) ⟨Ex.new hD, sB⟩
      (fun i H' _ p => ex_l p.1 s1') (fun i x H' H'' hi p y => ?_) (fun H' p => ?_)
    · obtain ⟨T, x0, x1, rfl, nT, rfl, f1, f2⟩ := y
      have hix : i < xs.length := by rw [← hlu]; exact hi
      have gx : xs[i]? = some xs[i] := by simp [hix]
      have gE := enumL_get gx
      have e0 : x0 = .int (i : Int) := (Option.some.inj f1).symm
      subst e0
      have eT : Ex H' (upd H' T (.tup [.int (i : Int), x1])) := Ex.new nT
      have sT := p.2.ex eT
      have dm : Dt K (msk (D :: (muA ms ++ Mc)) (upd H' T (.tup [.int (i : Int), x1]))) x1 xs[i] := by
        have d2 : Dts K (msk (D :: (muA ms ++ Mc)) (upd H' T (.tup [.int (i : Int), x1]))) us xs := by
          have q1 : Dts K (msk (muA ms ++ Mc) H2) us xs := ds
          have q2 : Ex (msk (muA ms ++ Mc) H2) (msk (D :: (muA ms ++ Mc)) (upd H' T (.tup [.int (i : Int), x1]))) := fun b o hb' => by
            by_cases z : b ∈ muA ms ++ Mc
            · rw [msk_in z] at hb'; cases hb'
            · rw [msk_out z] at hb'
              have nb : b ≠ D := ne_of_none hb' hD
              rw [msk_out (by simp only [List.mem_cons, not_or]; exact ⟨nb, z⟩)]
              exact eT b o (p.1 b o hb')
          exact q1.mono q2
        obtain ⟨w, w1, w2⟩ := d2.at gx
        have : x1 = w := Option.some.inj (f2.symm.trans w1)
        subst this; exact w2
      have nTD : T ∉ D :: (muA ms ++ Mc) := fun z => (p.2.mok T z) nT
      have dw : Dt K (msk (D :: (muA ms ++ Mc)) (upd H' T (.tup [.int (i : Int), x1]))) (.ref T) ((i : Int), xs[i]) := Dt.ofPair (SqT.of (by rw [msk_out nTD]; exact upd_same)) (Dt.ofInt _) dm
      refine hb D (.ref a) ((i : Int), xs[i]) (.ref T) _ _ (sT.put dw) (List.mem_of_getElem? gE) _ fun σ2 hw ht he => ⟨hw, ?_⟩
      have hlen : ((((enumL xs).take i).filter f).map ef).length < 50000 := by
        rw [List.length_map]
        have := List.length_filter_le f ((enumL xs).take i)
        rw [List.length_take, enumL_len] at this
        omega
      exact lc_turn (ms := ms) (zs := (((enumL xs).take (i + 1)).filter f).map ef) sT hlen (fun H3 => Ex H2 H3 ∧ Sg K Mc He H3 ((.ref a, Dx.toX xs) :: is) ((D, .lst (((((enumL xs).take (i + 1)).filter f).map ef).map Dx.toX)) :: ms)) ht he (filter_snoc gE) (fun H3 h4 s3 => ⟨by
        obtain ⟨H4, e4, e5⟩ := h4
        rcases e5 with e5 | ⟨o, e5⟩
        · rw [e5]; exact (p.1.trans eT).trans e4
        · rw [e5]; exact Ex.mut ((p.1.trans eT).trans e4) hD, s3⟩)
    · have z := p.2
      have et : (enumL xs).take us.length = enumL xs := List.take_of_length_le (by rw [enumL_len, hlu]; exact Nat.le_refl _)
      rw [et] at z
      exact q _ H' (e2.trans p.1) (z.frz).im.1
end
end Ly

namespace Ly
open PySem PySem.Spec PyProof.Rows L2 Evl
theorem gl_mem' {β : Type} {occ : Nat → Bool} {blk : Nat → List β} {x : β} : ∀ (n lo k : Nat), lo ≤ k → k < lo + n → occ k = true → x ∈ blk k → x ∈ gl occ blk lo n
  | 0, lo, k, h1, h2, _, _ => by omega
  | n + 1, lo, k, h1, h2, ho, hx => by
    rw [gl, List.mem_append]
    by_cases e : lo = k
    · left; rw [e, ho, if_pos rfl]; exact hx
    · right; exact gl_mem' n (lo + 1) k (by omega) (by omega) ho hx
/-- two lists that grow, with the same items, are one -/
theorem sorted_ext : ∀ {l1 l2 : List Int}, l1.Pairwise (· < ·) → l2.Pairwise (· < ·) → (∀ x, x ∈ l1 ↔ x ∈ l2) → l1 = l2
  | [], [], _, _, _ => rfl
  | [], b :: r, _, _, h => by have := (h b).mpr List.mem_cons_self; cases this
  | a :: l, [], _, _, h => by have := (h a).mp List.mem_cons_self; cases this
  | a :: l, b :: r, h1, h2, h => by
    have p1 := List.pairwise_cons.mp h1
    have p2 := List.pairwise_cons.mp h2
    have e : a = b := by
      have ha := (h a).mp List.mem_cons_self
      have hb := (h b).mpr List.mem_cons_self
      rcases List.mem_cons.mp ha with ha | ha
      · exact ha
      · rcases List.mem_cons.mp hb with hb | hb
        · exact hb.symm
        · have := p1.1 b hb
          have := p2.1 a ha
          omega
    subst e
    congr 1
    refine sorted_ext p1.2 p2.2 fun x => ⟨fun hx => ?_, fun hx => ?_⟩
    · rcases List.mem_cons.mp ((h x).mp (List.mem_cons_of_mem _ hx)) with q | q
      · have := p1.1 x hx; omega
      · exact q
    · rcases List.mem_cons.mp ((h x).mpr (List.mem_cons_of_mem _ hx)) with q | q
      · have := p2.1 x hx; omega
      · exact q
theorem irng_sorted (lo : Int) (n : Nat) : (irng lo n).Pairwise (· < ·) := by
  unfold irng
  rw [List.pairwise_map]
  exact List.pairwise_lt_range.imp fun h => by omega
theorem irng_mem {lo x : Int} {n : Nat} : x ∈ irng lo n ↔ lo ≤ x ∧ x < lo + n := by
  unfold irng
  rw [List.mem_map]
  constructor
  · rintro ⟨i, hi, rfl⟩
    have := List.mem_range.mp hi
    omega
  · intro h
    exact ⟨(x - lo).toNat, List.mem_range.mpr (by omega), by omega⟩
/-- the greatest -/
theorem max_spec : ∀ (l : List Int) (b : Int), (l.foldl max b = b ∨ l.foldl max b ∈ l) ∧ b ≤ l.foldl max b ∧ ∀ x ∈ l, x ≤ l.foldl max b
  | [], b => ⟨Or.inl rfl, Int.le_refl b, fun x hx => by cases hx⟩
  | a :: l, b => by
    obtain ⟨h1, h2, h3⟩ := max_spec l (max b a)
    rw [List.foldl_cons]
    refine ⟨?_, by omega, fun x hx => ?_⟩
    · rcases h1 with h1 | h1
      · rw [h1]
        by_cases q : a ≤ b
        · left; omega
        · right; rw [show max b a = a by omega]; exact List.mem_cons_self
      · exact Or.inr (List.mem_cons_of_mem _ h1)
    · rcases List.mem_cons.mp hx with q | q
      · omega
      · exact h3 x q
theorem max_ext {l1 l2 : List Int} (b : Int) (h : ∀ x, x ∈ l1 ↔ x ∈ l2) : l1.foldl max b = l2.foldl max b := by
  obtain ⟨h1, h2, h3⟩ := max_spec l1 b
  obtain ⟨k1, k2, k3⟩ := max_spec l2 b
  have a1 : l1.foldl max b ≤ l2.foldl max b := by
    rcases h1 with q | q
    · rw [q]; exact k2
    · exact k3 _ ((h _).mp q)
  have a2 : l2.foldl max b ≤ l1.foldl max b := by
    rcases k1 with q | q
    · rw [q]; exact h2
    · exact h3 _ ((h _).mpr q)
  omega
theorem max_fold {α : Type} (P : α → Bool) (v : α → Int) : ∀ (l : List α) (b : Int), l.foldl (fun b x => if P x = true then max b (v x) else b) b = ((l.filter P).map v).foldl max b
  | [], b => rfl
  | a :: l, b => by
    rw [List.foldl_cons, max_fold P v l]
    by_cases q : P a = true
    · rw [if_pos q, List.filter_cons_of_pos q, List.map_cons, List.foldl_cons]
    · rw [if_neg q, List.filter_cons_of_neg q]
theorem chars_app (a b : Str) : chars (a ++ b) = chars a ++ chars b := by
  rw [chars_cps, chars_cps, chars_cps, cps_app, List.map_append]
theorem enumL_iff {xs : List Int} {p : Int × Int} : p ∈ enumL xs ↔ 0 ≤ p.1 ∧ p.1 < (xs.length : Int) ∧ p.2 = xs.getD p.1.toNat 0 := by
  constructor
  · intro h
    obtain ⟨i, hi, rfl⟩ := List.getElem_of_mem h
    have hx : i < xs.length := by rw [enumL_len] at hi; exact hi
    have gx : xs[i]? = some xs[i] := by simp [hx]
    obtain ⟨_, ge⟩ := List.getElem?_eq_some_iff.mp (enumL_get gx)
    rw [ge]
    refine ⟨by show (0 : Int) ≤ (i : Int); omega, by show (i : Int) < _; omega, ?_⟩
    show xs[i] = xs.getD (Int.toNat (i : Int)) 0
    rw [Int.toNat_natCast, List.getD_eq_getElem?_getD, gx]
    rfl
  · rintro ⟨h1, h2, h3⟩
    obtain ⟨a, b⟩ := p
    dsimp only at h1 h2 h3
    have hx : a.toNat < xs.length := by omega
    have gx : xs[a.toNat]? = some xs[a.toNat] := by simp [hx]
    have k := List.mem_of_getElem? (enumL_get gx)
    rw [List.getD_eq_getElem?_getD, gx] at h3
    have e : (((a.toNat : Nat) : Int), xs[a.toNat]) = (a, b) := Prod.ext (by show ((a.toNat : Nat) : Int) = a; omega) (by show xs[a.toNat] = b; rw [h3]; rfl)
    rw [← e]
    exact k
theorem enumL_sorted (xs : List Int) : (enumL xs).Pairwise fun a b => a.1 < b.1 := by
  rw [List.pairwise_iff_getElem]
  intro i j hi hj hij
  rw [enumL_len] at hi hj
  have gi : xs[i]? = some xs[i] := by simp [hi]
  have gj : xs[j]? = some xs[j] := by simp [hj]
  obtain ⟨_, e1⟩ := List.getElem?_eq_some_iff.mp (enumL_get gi)
  obtain ⟨_, e2⟩ := List.getElem?_eq_some_iff.mp (enumL_get gj)
  rw [e1, e2]
  show (i : Int) < (j : Int)
  omega
theorem lo1_eq (c : Nat) : PyProof.Rows.lo1 c = if 65 ≤ c ∧ c ≤ 90 then c + 32 else c := by
  unfold PyProof.Rows.lo1
  first | rfl | (split <;> split <;> simp_all <;> omega) | (simp; done)
theorem loopL_ret_P {ρ S α : Type} {f : S → α → Lp ρ S} {P : ρ → Prop} : ∀ (l : List α) (s : S), (∀ s x r, x ∈ l → f s x = .ret r → P r) → ∀ r, loopL f l s = .inl r → P r
  | [], s, _, r, h => by cases h
  | x :: l, s, hp, r, h => by
    rw [loopL] at h
    cases hx : f s x with
    | ret r' => rw [hx] at h; cases h; exact hp s x r List.mem_cons_self hx
    | brk s' => rw [hx] at h; cases h
    | nxt s' => rw [hx] at h; exact loopL_ret_P l s' (fun s y r hy => hp s y r (List.mem_cons_of_mem _ hy)) r h
end Ly

namespace Ly
open PySem PySem.Spec PyProof.Rows L2 Evl
open PySem.W (Datum DatumOrd Tup T3 T4 minOf)
/-! ### dicts with plain keys -/
/-- the pairs in the order in which the keys came -/
structure Dc (κ β : Type) where
  kvs : List (κ × β)
instance {κ β : Type} [DecidableEq κ] [DecidableEq β] : DecidableEq (Dc κ β) := fun a b =>
  if h : a.kvs = b.kvs then isTrue (by cases a; cases b; cases h; rfl) else isFalse fun z => h (by rw [z])
class Ky (κ : Type) [DecidableEq κ] [Dx κ] where
  toK : κ → Key
  inj : ∀ {a b : κ}, toK a = toK b → a = b
  link : ∀ {K : PySem.W.Frag} {H : Hp} {v : V} {k : κ}, Dt K H v k → v = kV (toK k)
instance : Ky Int := ⟨.inl, fun e => by cases e; rfl, fun d => d.int⟩
instance : Ky Str := ⟨.inr, fun e => by cases e; rfl, fun d => d.str⟩
section
variable {κ β : Type} [DecidableEq κ] [Dx κ] [Ky κ] [DecidableEq β] [Dx β]
def Dc.get (d : Dc κ β) (k : κ) : Option β := (d.kvs.find? fun p => decide (p.1 = k)).map (·.2)
def Dc.put (d : Dc κ β) (k : κ) (x : β) : Dc κ β :=
  ⟨if (d.kvs.any fun p => decide (p.1 = k)) = true then d.kvs.map (fun p => if p.1 = k then (p.1, x) else p) else d.kvs ++ [(k, x)]⟩
def Dc.has (d : Dc κ β) (k : κ) : Bool := d.kvs.any fun p => decide (p.1 = k)
instance : Dx (Dc κ β) := ⟨fun d => .dict (d.kvs.map fun p => Ky.toK p.1) (d.kvs.map fun p => Dx.toX p.2)⟩
/-- what an own dict holds, as the state tells it -/
def Dc.m (d : Dc κ β) : Mv := .dic (d.kvs.map fun p => (Ky.toK p.1, Dx.toX p.2))
/-- pairs that hold pairs -/
inductive Kd (K : PySem.W.Frag) (H : Hp) : List (Key × V) → List (κ × β) → Prop
  | nil : Kd K H [] []
  | cons {k : κ} {v : V} {x : β} {kvs : List (Key × V)} {r : List (κ × β)} : Dt K H v x → Kd K H kvs r → Kd K H ((Ky.toK k, v) :: kvs) ((k, x) :: r)
variable {K : PySem.W.Frag} {H H' : Hp}
theorem kd_of : ∀ {kvs : List (Key × V)} {r : List (κ × β)}, kvs.map (·.1) = r.map (fun p => Ky.toK p.1) → XpAll K H (kvs.map (·.2)) (r.map fun p => Dx.toX p.2) → Kd K H kvs r
  | [], [], _, _ => .nil
  | [], _ :: _, h, _ => by cases h
  | _ :: _, [], h, _ => by cases h
  | (k, v) :: kvs, (j, x) :: r, h, a => by
    have h' := List.cons.inj h
    cases a with
    | cons a1 a2 =>
      have e : k = Ky.toK j := h'.1
      subst e
      exact .cons a1 (kd_of h'.2 a2)
theorem Kd.keys {kvs : List (Key × V)} {r : List (κ × β)} (h : Kd K H kvs r) : kvs.map (·.1) = r.map (fun p => Ky.toK p.1) := by
  induction h with
  | nil => rfl
  | cons a b ih => rw [List.map_cons, List.map_cons, ih]
theorem Kd.vals {kvs : List (Key × V)} {r : List (κ × β)} (h : Kd K H kvs r) : XpAll K H (kvs.map (·.2)) (r.map fun p => Dx.toX p.2) := by
  induction h with
  | nil => exact .nil
  | cons a b ih => exact .cons a ih
theorem Kd.mono {kvs : List (Key × V)} {r : List (κ × β)} (e : Ex H H') (h : Kd K H kvs r) : Kd K H' kvs r := by
  induction h with
  | nil => exact .nil
  | cons a b ih => exact .cons (a.mono e) ih
theorem Kd.any {kvs : List (Key × V)} {r : List (κ × β)} (h : Kd K H kvs r) (k : κ) : (kvs.any fun p => decide (p.1 = Ky.toK k)) = r.any fun p => decide (p.1 = k) := by
  induction h with
  | nil => rfl
  | @cons j v x kvs r a b ih =>
    rw [List.any_cons, List.any_cons, ih]
    congr 1
    by_cases q : j = k
    · subst q; simp
    · rw [decide_eq_false q, decide_eq_false fun z => q (Ky.inj z)]
theorem Kd.get {kvs : List (Key × V)} {r : List (κ × β)} (h : Kd K H kvs r) (k : κ) : (∃ v x, valV kvs (Ky.toK k) = some v ∧ Dc.get ⟨r⟩ k = some x ∧ Dt K H v x) ∨ (valV kvs (Ky.toK k) = none ∧ Dc.get (⟨r⟩ : Dc κ β) k = none) := by
  induction h with
  | nil => exact Or.inr ⟨rfl, rfl⟩
  | @cons j v x kvs r a b ih =>
    by_cases q : j = k
    · subst q
      exact Or.inl ⟨v, x, valV_pos rfl, by simp [Dc.get], a⟩
    · rw [valV_neg (fun z => q (Ky.inj z))]
      have e : Dc.get (⟨(j, x) :: r⟩ : Dc κ β) k = Dc.get ⟨r⟩ k := by simp [Dc.get, q]
      rw [e]
      exact ih
theorem Kd.app {kvs : List (Key × V)} {r : List (κ × β)} {v : V} {x : β} {k : κ} (h : Kd K H kvs r) (d : Dt K H v x) : Kd K H (kvs ++ [(Ky.toK k, v)]) (r ++ [(k, x)]) := by
  induction h with
  | nil => exact .cons d .nil
  | cons a b ih => exact .cons a ih
theorem Kd.rep {kvs : List (Key × V)} {r : List (κ × β)} {v : V} {x : β} {k : κ} (h : Kd K H kvs r) (d : Dt K H v x) : Kd K H (kvs.map fun p => if p.1 = Ky.toK k then (p.1, v) else p) (r.map fun p => if p.1 = k then (p.1, x) else p) := by
  induction h with
  | nil => exact .nil
  | @cons j w y kvs r a b ih =>
    rw [List.map_cons, List.map_cons]
    by_cases q : j = k
    · subst q
      rw [if_pos rfl, if_pos rfl]
      exact .cons d ih
    · rw [if_neg (fun z => q (Ky.inj z)), if_neg q]
      exact .cons a ih
theorem Kd.put {kvs : List (Key × V)} {d : Dc κ β} {v : V} {x : β} {k : κ} (h : Kd K H kvs d.kvs) (dv : Dt K H v x) : Kd K H (putK kvs (Ky.toK k) v) (d.put k x).kvs := by
  unfold putK Dc.put
  rw [h.any k]
  by_cases q : (d.kvs.any fun p => decide (p.1 = k)) = true
  · rw [if_pos q]; dsimp only; rw [if_pos q]; exact h.rep dv
  · rw [if_neg q]; dsimp only; rw [if_neg q]; exact h.app dv
theorem Kd.len {kvs : List (Key × V)} {r : List (κ × β)} (h : Kd K H kvs r) : kvs.length = r.length := by
  have := congrArg List.length h.keys
  simpa using this
end
section
variable {κ β : Type} [DecidableEq κ] [Dx κ] [Ky κ] [DecidableEq β] [Dx β]
variable {K : PySem.W.Frag} {Mc M : List Addr} {He H H1 H2 : Hp} {is js : Ims} {ms : Mus} {σ : L2.St} {te ta tb td tk tz : TE} {D : Ends} {tq : TS}
/-- what the state tells of an own dict -/
theorem Sg.dic (s : Sg K Mc He H is ms) {j : Nat} {l : Addr} {d : Dc κ β} (e : ms[j]? = some (l, d.m)) : ∃ kvs, H l = some (.dK kvs) ∧ Kd K (msk (muA ms ++ Mc) H) kvs d.kvs := by
  obtain ⟨o, h1, h2⟩ := s.mu.get e
  obtain ⟨kvs, rfl, h3, h4⟩ := h2
  refine ⟨kvs, h1, kd_of ?_ ?_⟩
  · rw [h3, List.map_map]; rfl
  · rw [List.map_map] at h4; exact h4
theorem dic_ok {kvs : List (Key × V)} {d : Dc κ β} (h : Kd K H kvs d.kvs) : MvOk K H (.dK kvs) d.m := by
  refine ⟨kvs, rfl, ?_, ?_⟩
  · rw [h.keys, List.map_map]; rfl
  · rw [List.map_map]; exact h.vals
/-- x = {} -/
theorem z_dnil (κ β : Type) [DecidableEq κ] [Dx κ] [Ky κ] [DecidableEq β] [Dx β] {i : Nat} (s : Sg K Mc He H is ms) (k : ∀ y, y = (⟨[]⟩ : Dc κ β) → ∀ p H1, Sg K Mc He H1 is ((p, y.m) :: ms) → tq D (σ.set i (some (.ref p))) H1) :
    tSeq (tAsg tDNewK (gName i)) tq D σ H := fun p hp => k ⟨[]⟩ rfl p _ (s.new hp (dic_ok .nil))
/-- key in an own dict, key not in it -/
theorem hv_dinM {j : Nat} {l : Addr} {d : Dc κ β} {x : κ} (s : Sg K Mc He H is ms) (e : ms[j]? = some (l, d.m)) (hk : Hv K (muA ms ++ Mc) ta σ H x) (ho : Ev td σ H (.ref l)) : Hv K (muA ms ++ Mc) (tDIn ta td) σ H (d.has x) := fun H1 e1 m Q q =>
  hk H1 e1 m _ fun v H2 e2 dv => ho H2 (e1.trans e2) _ fun H3 e3 => by
    obtain ⟨kvs, h1, h2⟩ := (s.ex ((e1.trans e2).trans e3)).dic e
    refine ⟨l, valV kvs (Ky.toK x), rfl, by rw [Ky.link dv]; exact DGet.k h1, ?_⟩
    have hb : (valV kvs (Ky.toK x)).isSome = d.has x := by rw [← valV_any, h2.any]; rfl
    rw [hb]
    exact q _ H3 (e2.trans e3) (Dt.ofBool _)
theorem hv_dninM {j : Nat} {l : Addr} {d : Dc κ β} {x : κ} (s : Sg K Mc He H is ms) (e : ms[j]? = some (l, d.m)) (hk : Hv K (muA ms ++ Mc) ta σ H x) (ho : Ev td σ H (.ref l)) : Hv K (muA ms ++ Mc) (tDNotIn ta td) σ H (!d.has x) := fun H1 e1 m Q q =>
  hk H1 e1 m _ fun v H2 e2 dv => ho H2 (e1.trans e2) _ fun H3 e3 => by
    obtain ⟨kvs, h1, h2⟩ := (s.ex ((e1.trans e2).trans e3)).dic e
    refine ⟨l, valV kvs (Ky.toK x), rfl, by rw [Ky.link dv]; exact DGet.k h1, ?_⟩
    have hb : (valV kvs (Ky.toK x)).isSome = d.has x := by rw [← valV_any, h2.any]; rfl
    rw [hb]
    exact q _ H3 (e2.trans e3) (Dt.ofBool _)
/-- an own dict's value at a key -/
theorem hv_dgetM {j : Nat} {l : Addr} {d : Dc κ β} {x : κ} {y : β} (s : Sg K Mc He H is ms) (e : ms[j]? = some (l, d.m)) (ho : Ev td σ H (.ref l)) (hk : Hv K (muA ms ++ Mc) ta σ H x) (hg : d.get x = some y) : Hv K (muA ms ++ Mc) (tDGet td ta) σ H y := fun H1 e1 m Q q =>
  ho H1 e1 _ fun H2 e2 => hk H2 (e1.trans e2) (m.ex e2) _ fun v H3 e3 dv => by
    obtain ⟨kvs, h1, h2⟩ := (s.ex ((e1.trans e2).trans e3)).dic e
    rcases h2.get x with ⟨w, z, g1, g2, g3⟩ | ⟨_, g2⟩
    · rw [hg] at g2
      cases g2
      exact ⟨l, w, rfl, by rw [Ky.link dv, ← g1]; exact DGet.k h1, q w H3 (e2.trans e3) g3⟩
    · rw [hg] at g2; cases g2
/-- a dict that is known -/
theorem Dt.dic {v : V} {d : Dc κ β} (h : Dt K H v d) : ∃ a kvs, v = .ref a ∧ Rd H a (.dK kvs) ∧ Kd K H kvs d.kvs := by
  have h' : Xp K H v (.dict (d.kvs.map fun p => Ky.toK p.1) (d.kvs.map fun p => Dx.toX p.2)) := h
  cases h' with
  | dic r k e a => subst e; exact ⟨_, _, rfl, r, kd_of k a⟩
theorem Dt.ofDic {a : Addr} {kvs : List (Key × V)} {d : Dc κ β} (r : Rd H a (.dK kvs)) (h : Kd K H kvs d.kvs) : Dt K H (.ref a) d := Xp.dic r h.keys rfl h.vals
theorem rd_msk {a : Addr} {u : HO} (h : Rd (msk M H) a u) : Rd H a u := ex_rd msk_le h
theorem hv_dget {d : Dc κ β} {x : κ} {y : β} (hd : Hv K M td σ H d) (hk : Hv K M ta σ H x) (hg : d.get x = some y) : Hv K M (tDGet td ta) σ H y := fun H1 e1 m Q q =>
  hd H1 e1 m _ fun v H2 e2 dv => hk H2 (e1.trans e2) (m.ex e2) _ fun u H3 e3 du => by
    obtain ⟨a, kvs, rfl, r, h2⟩ := (Dt.mono (msk_ex e3) dv).dic
    rcases h2.get x with ⟨w, z, g1, g2, g3⟩ | ⟨_, g2⟩
    · rw [hg] at g2
      cases g2
      exact ⟨a, w, rfl, .inl ⟨kvs, Ky.toK x, rd_msk r, Ky.link du, g1.symm⟩, q w H3 (e2.trans e3) g3⟩
    · rw [hg] at g2; cases g2
theorem hv_din {d : Dc κ β} {x : κ} (hk : Hv K M ta σ H x) (hd : Hv K M td σ H d) : Hv K M (tDIn ta td) σ H (d.has x) := fun H1 e1 m Q q =>
  hk H1 e1 m _ fun u H2 e2 du => hd H2 (e1.trans e2) (m.ex e2) _ fun v H3 e3 dv => by
    obtain ⟨a, kvs, rfl, r, h2⟩ := dv.dic
    refine ⟨a, valV kvs (Ky.toK x), rfl, .inl ⟨kvs, Ky.toK x, rd_msk r, Ky.link du, rfl⟩, ?_⟩
    have hb : (valV kvs (Ky.toK x)).isSome = d.has x := by rw [← valV_any, h2.any]; rfl
    rw [hb]
    exact q _ H3 (e2.trans e3) (Dt.ofBool _)
theorem hv_dnin {d : Dc κ β} {x : κ} (hk : Hv K M ta σ H x) (hd : Hv K M td σ H d) : Hv K M (tDNotIn ta td) σ H (!d.has x) := fun H1 e1 m Q q =>
  hk H1 e1 m _ fun u H2 e2 du => hd H2 (e1.trans e2) (m.ex e2) _ fun v H3 e3 dv => by
    obtain ⟨a, kvs, rfl, r, h2⟩ := dv.dic
    refine ⟨a, valV kvs (Ky.toK x), rfl, .inl ⟨kvs, Ky.toK x, rd_msk r, Ky.link du, rfl⟩, ?_⟩
    have hb : (valV kvs (Ky.toK x)).isSome = d.has x := by rw [← valV_any, h2.any]; rfl
    rw [hb]
    exact q _ H3 (e2.trans e3) (Dt.ofBool _)
/-- d[k] = e -/
theorem z_dputG {j : Nat} {l : Addr} {d : Dc κ β} {x : κ} {y : β} (s : Sg K Mc He H is ms) (e : ms[j]? = some (l, d.m)) (hv : Hv K (muA ms ++ Mc) te σ H y) (ho : Ev td σ H (.ref l)) (hk : Hv K (muA ms ++ Mc) ta σ H x) (hz : d.kvs.length ≤ 100000)
    (k : ∀ d', d' = d.put x y → ∀ H1, Sg K Mc He H1 is (ms.set j (l, d'.m)) → tq D σ H1) : tSeq (sDPut td ta te) tq D σ H :=
  hv H (Ex.refl H) s.mok _ fun v H1 e1 dv => ho H1 e1 _ fun H2 e2 => hk H2 (e1.trans e2) (s.mok.ex (e1.trans e2)) _ fun u H3 e3 du => by
    have s3 := ((s.ex e1).ex e2).ex e3
    obtain ⟨kvs, h1, h2⟩ := s3.dic e
    have hl : kvs.length < sizeLine := by
      have hs : sizeLine = 16777216 := sizeLine_eq
      rw [h2.len]; omega
    refine ⟨l, _, rfl, by rw [Ky.link du]; exact DPut.k h1 hl, k _ rfl _ (s3.set e (dic_ok ?_))⟩
    exact h2.put (Dt.mono (msk_ex (e2.trans e3)) dv)
/-- an own dict that changes no more -/
theorem Sg.frzD {l : Addr} {d : Dc κ β} (s : Sg K Mc He H is ((l, d.m) :: ms)) : Sg K Mc He H ((.ref l, Dx.toX d) :: is) ms := by
  have sub : Ex (msk (muA ((l, d.m) :: ms) ++ Mc) H) (msk (muA ms ++ Mc) H) := msk_sub fun a ha => List.mem_cons_of_mem _ ha
  have nd := List.nodup_cons.mp s.nd
  obtain ⟨kvs, h1, h2⟩ := s.dic (j := 0) (l := l) (d := d) rfl
  have nl : l ∉ muA ms ++ Mc := fun z => by
    rcases List.mem_append.mp z with z | z
    · exact nd.1 z
    · exact s.notc (List.mem_cons_self) z
  refine ⟨?_, s.okc, nd.2, ⟨Dt.ofDic (.inl (by rw [msk_out nl]; exact h1)) (h2.mono sub), s.im.mono sub⟩, s.mu.2.mono sub (Ex.refl H)⟩
  exact s.ext.trans (msk_sub fun a ha => List.mem_cons_of_mem _ ha)
end
end Ly

namespace Ly
open PySem PySem.Spec PyProof.Rows L2 Evl
open PySem.W (Datum DatumOrd Tup T3 T4 minOf)
section
variable {α κ β : Type} [DecidableEq α] [Dx α] [DecidableEq κ] [Dx κ] [Ky κ] [DecidableEq β] [Dx β]
variable {K : PySem.W.Frag} {Mc M : List Addr} {He H H1 H2 : Hp} {is js : Ims} {ms : Mus} {σ : L2.St} {te ta tb td tk tv tl tz : TE} {tt : TT} {g : TG} {D : Ends} {tq : TS}
/-! ### {k: v for x in xs} -/
/-- the pairs put one behind the other -/
def Dc.of (xs : List α) (kf : α → κ) (vf : α → β) : Dc κ β := xs.foldl (fun d x => d.put (kf x) (vf x)) ⟨[]⟩
theorem dcOf_snoc {xs : List α} {kf : α → κ} {vf : α → β} {i : Nat} {x : α} (h : xs[i]? = some x) : Dc.of (xs.take (i + 1)) kf vf = (Dc.of (xs.take i) kf vf).put (kf x) (vf x) := by
  unfold Dc.of
  rw [take_snoc h, List.foldl_append]
  rfl
theorem put_len (d : Dc κ β) (k : κ) (x : β) : (d.put k x).kvs.length ≤ d.kvs.length + 1 := by
  unfold Dc.put
  dsimp only
  split
  · rw [List.length_map]; omega
  · rw [List.length_append]; exact Nat.le_refl _
theorem dcOf_len (kf : α → κ) (vf : α → β) : ∀ (xs : List α), (Dc.of xs kf vf).kvs.length ≤ xs.length := by
  have key : ∀ (xs : List α) (d : Dc κ β), (xs.foldl (fun d x => d.put (kf x) (vf x)) d).kvs.length ≤ d.kvs.length + xs.length := fun xs => by
    induction xs with
    | nil => intro d; exact Nat.le_refl _
    | cons x r ih =>
      intro d
      rw [List.foldl_cons, List.length_cons]
      have := ih (d.put (kf x) (vf x))
      have := put_len d (kf x) (vf x)
      omega
  intro xs
  have := key xs ⟨[]⟩
  simpa [Dc.of] using this
theorem dc_listD {a : Addr} {xs : List α} {vs : List Nat} {D : Addr} {Qd : Hp → Prop} {M' : List Addr} (Pv : Nat → Hp → Prop) (h0 : Pv 0 (upd H1 D (.dK []))) (hl : ∀ i H', i ≤ xs.length → Pv i H' → ∃ us, SqL K H' a us ∧ Dts K (msk M' H') us xs)
    (hs : ∀ i x w H', xs[i]? = some x → Pv i H' → Dt K (msk M' H') w x → g w (wipe σ vs) H' fun σ2 H2 => wipe σ2 vs = wipe σ vs ∧ tt σ2 H2 fun b H3 =>
      if b = true then tk σ2 H3 fun y H4 => tv σ2 H4 fun z H5 => ∃ kvs k, y = kV k ∧ H5 D = some (.dK kvs) ∧ kvs.length < sizeLine ∧ Pv (i + 1) (upd H5 D (.dK (putK kvs k z))) else Pv (i + 1) H3) (hd : ∀ H', Pv xs.length H' → Qd H') :
    ∃ W : Nat → Nat → Hp → Prop, (∃ m, W 0 m (upd H1 D (.dK []))) ∧ ∀ i m H, W i m H →
      ((Itl K a).stop i H ∧ Qd H) ∨ ((Itl K a).go i H ∧ ∃ Nx : Hp → Prop, (∀ H', Nx H' → ∃ m', m' < m ∧ W (i + 1) m' H') ∧ ∀ x H', (Itl K a).yld i H x H' → g x (wipe σ vs) H' fun σ2 H2 => wipe σ2 vs = wipe σ vs ∧ tt σ2 H2 fun b H3 =>
        if b = true then tk σ2 H3 fun y H4 => tv σ2 H4 fun z H5 => ∃ kvs k, y = kV k ∧ H5 D = some (.dK kvs) ∧ kvs.length < sizeLine ∧ Nx (upd H5 D (.dK (putK kvs k z))) else Nx H3) := by
  refine ⟨fun i m H => m = xs.length - i ∧ i ≤ xs.length ∧ Pv i H, ⟨xs.length, by simp, Nat.zero_le _, h0⟩, ?_⟩
  rintro i m H ⟨rfl, hi, p⟩
  obtain ⟨us, q, ds⟩ := hl i H hi p
  have el := ds.len
  by_cases hlt : i < xs.length
  · refine .inr ⟨⟨us, us[i]'(by omega), q, by simp [show i < us.length by omega]⟩, Pv (i + 1), fun H' p' => ⟨xs.length - (i + 1), by omega, rfl, hlt, p'⟩, fun x H' y => ?_⟩
    obtain ⟨e, y⟩ := y
    subst e
    obtain ⟨w, h1, h2⟩ := ds.at (i := i) (x := xs[i]) (by simp [hlt])
    have e1 : x = w := Option.some.inj ((y us q).symm.trans h1)
    subst e1
    exact hs i _ x _ (by simp [hlt]) p h2
  · have e : i = xs.length := by omega
    subst e
    exact .inl ⟨⟨us, q, by omega⟩, hd H p⟩
theorem hv_dcL0 {vs : List Nat} (s : Sg K Mc He H is ms) {xs : List α} (kf : α → κ) (vf : α → β) (h : Hv K (muA ms ++ Mc) tl σ H xs) (hz : xs.length ≤ 40000)
    (hb : ∀ D src x w (d : Dc κ β) H1, Sg K Mc He H1 ((w, Dx.toX x) :: (src, Dx.toX xs) :: is) ((D, d.m) :: ms) → x ∈ xs →
      ∀ Q : L2.St → Hp → Prop, (∀ σ2, wipe σ2 vs = wipe σ vs → Hv K (muA ((D, d.m) :: ms) ++ Mc) tk σ2 H1 (kf x) → Hv K (muA ((D, d.m) :: ms) ++ Mc) tv σ2 H1 (vf x) → Q σ2 H1) → g w (wipe σ vs) H1 Q) :
    Hv K (muA ms ++ Mc) (tDc (iList K tl) g tYes tk tv vs) σ H (Dc.of xs kf vf) := fun H1 e m Q q =>
  h H1 e m _ fun v H2 e2 d => by
    obtain ⟨a, us, rfl, s1, ds⟩ := d.list
    refine ⟨a, rfl, ⟨us, ex_l msk_le s1⟩, fun D hD => ?_⟩
    have sA : Sg K Mc He H2 ((.ref a, Dx.toX xs) :: is) ms := ((s.ex e).ex e2).put d
    have sB : Sg K Mc He (upd H2 D (.dK [])) ((.ref a, Dx.toX xs) :: is) ((D, (⟨[]⟩ : Dc κ β).m) :: ms) := sA.new hD (dic_ok .nil)
    refine dc_listD (xs := xs) (M' := D :: (muA ms ++ Mc)) (fun i H' => Ex H2 H' ∧ Sg K Mc He H' ((.ref a, Dx.toX xs) :: is) ((D, (Dc.of (xs.take i) kf vf).m) :: ms)) ⟨Ex.new hD, sB⟩
      (fun i H' _ p => ?_) (fun i x w H' hx p dw => ?_) (fun H' p => ?_)
    · obtain ⟨a', us', e', s2, ds'⟩ := Dt.list (α := α) p.2.im.1
      cases e'
      exact ⟨us', ex_l msk_le s2, ds'⟩
    · have hi : i < xs.length := (List.getElem?_eq_some_iff.mp hx).1
      have sw := p.2.put dw
      refine hb D (.ref a) x w _ H' sw (List.mem_of_getElem? hx) _ fun σ2 hw hk hv => ⟨hw, ?_⟩
      show tk σ2 H' fun y H4 => tv σ2 H4 fun z H5 => _
      refine hk H' (Ex.refl H') sw.mok _ fun y H4 e4 dy => hv H4 e4 (sw.mok.ex e4) _ fun z H5 e5 dz => ?_
      have s5 := (p.2.ex e4).ex e5
      obtain ⟨kvs, h1, h2⟩ := s5.dic (j := 0) (l := D) (d := Dc.of (xs.take i) kf vf) rfl
      have hl : kvs.length < sizeLine := by
        have hs : sizeLine = 16777216 := sizeLine_eq
        have := dcOf_len kf vf (xs.take i)
        rw [List.length_take] at this
        rw [h2.len]; omega
      refine ⟨kvs, Ky.toK (kf x), Ky.link dy, h1, hl, ?_, ?_⟩
      · exact Ex.mut ((p.1.trans e4).trans e5) hD
      · rw [dcOf_snoc hx]
        exact s5.set (k := 0) (m' := ((Dc.of (xs.take i) kf vf).put (kf x) (vf x)).m) rfl (dic_ok (h2.put dz))
    · have z := p.2
      rw [List.take_length] at z
      exact q _ H' (e2.trans p.1) (z.frzD).im.1
/-! ### sorted(d) -/
def sortI (ks : List Int) : List Int := ks.mergeSort (fun a b => decide (a ≤ b))
theorem sortI_eq {ks ys : List Int} (hp : ys.Perm ks) (hs : ys.Pairwise (· ≤ ·)) : ys = sortI ks := by
  have h1 : (sortI ks).Perm ks := List.mergeSort_perm _ _
  have h2 : (sortI ks).Pairwise (fun a b => decide (a ≤ b) = true) := List.pairwise_mergeSort (fun a b c h1 h2 => by simp at *; omega) (fun a b => by simp; omega) ks
  refine List.Perm.eq_of_pairwise (le := fun (a b : Int) => a ≤ b) (fun a b _ _ h1 h2 => by omega) hs (h2.imp fun h => by simpa using h) (hp.trans h1.symm)
theorem call_sortedI_ty {d : Dc Int β} (s : Sg K Mc He H is ms) {j : Nat} {l : Addr} (e : ms[j]? = some (l, d.m)) (ho : Ev te σ H (.ref l)) (hz : d.kvs.length < 64) :
    HF K (muA ms ++ Mc) (tCB (fun xs H Q => ∃ (a : Addr) (kvs : List (Key × V)) (ks : List Int), xs = [.ref a] ∧ Rd H a (.dK kvs) ∧ kvs.map (·.1) = ks.map Sum.inl ∧ ks.length < 64 ∧
      ∀ (ys : List Int) (p : Addr), ys.Perm ks → ys.Pairwise (· ≤ ·) → H p = none → Q (.ref p) (upd H p (.lst (ys.map V.int)))) (tCons te tNil)) σ H (sortI (d.kvs.map (·.1))) := fun H1 e1 m Q q =>
  ho H1 e1 _ fun H2 e2 => by
    obtain ⟨kvs, h1, h2⟩ := (s.ex (e1.trans e2)).dic e
    refine ⟨l, kvs, d.kvs.map (·.1), rfl, .inl h1, ?_, by rw [List.length_map]; exact hz, fun ys p hp hs hn => ?_⟩
    · rw [h2.keys, List.map_map]; rfl
    · have ey := sortI_eq hp hs
      subst ey
      exact q p _ _ (fresh_back e2 hn) (e2.trans (Ex.new hn)) upd_same (dts_ints _)
end
end Ly

namespace Ly
open PySem PySem.Spec PyProof.Rows L2 Evl
open PySem.W (Datum DatumOrd Tup T3 T4 minOf)
section
variable {α κ β : Type} [DecidableEq α] [Dx α] [DecidableEq κ] [Dx κ] [Ky κ] [DecidableEq β] [Dx β]
variable {K : PySem.W.Frag} {M : List Addr} {H : Hp} {σ : L2.St} {ta tb : TE}
theorem has_get {d : Dc κ β} {k : κ} (df : β) (h : d.has k = true) : d.get k = some ((d.get k).getD df) := by
  unfold Dc.has at h
  unfold Dc.get
  cases hf : d.kvs.find? fun p => decide (p.1 = k) with
  | none =>
    rw [List.find?_eq_none] at hf
    rw [List.any_eq_true] at h
    obtain ⟨p, hp, hk⟩ := h
    exact absurd hk (hf p hp)
  | some p => rfl
theorem put_has {d : Dc κ β} {k : κ} {x : β} : (d.put k x).has k = true := by
  unfold Dc.put Dc.has
  dsimp only
  split
  · rename_i h
    rw [List.any_eq_true] at h ⊢
    obtain ⟨p, hp, hk⟩ := h
    rw [decide_eq_true_eq] at hk
    exact ⟨(p.1, x), List.mem_map.mpr ⟨p, hp, by rw [if_pos hk]⟩, decide_eq_true hk⟩
  · rw [List.any_append, Bool.or_eq_true]
    right
    simp
theorem hv_catT {xs ys : Tup α} (ha : Hv K M ta σ H xs) (hb : Hv K M tb σ H ys) (hz : xs.items.length + ys.items.length ≤ 100000) : Hv K M (tOp (rCatA K) ta tb) σ H (Tup.mk (xs.items ++ ys.items)) := fun H1 e m Q q =>
  ha H1 e m _ fun v H2 e2 d => hb H2 (e.trans e2) (m.ex e2) _ fun u H3 e3 d' => by
    obtain ⟨a, vs, rfl, s1, ds1⟩ := (Dt.mono (msk_ex e3) d).tupv
    obtain ⟨b, ws, rfl, s2, ds2⟩ := d'.tupv
    have m3 : MOk M H3 := m.ex (e2.trans e3)
    refine ⟨a, b, vs, ws, rfl, rfl, ex_t msk_le s1, ex_t msk_le s2, sz_of (by rw [ds1.len, ds2.len]; exact hz), fun h0 => ?_, fun h0 h1 => ?_, fun h0 h1 p hp => ?_⟩
    · subst h0
      have hx : xs.items = [] := List.eq_nil_of_length_eq_zero (by rw [← ds1.len]; rfl)
      rw [hx, List.nil_append] at q
      exact q _ H3 (e2.trans e3) (Dt.ofTupv s2 ds2)
    · subst h1
      have hy : ys.items = [] := List.eq_nil_of_length_eq_zero (by rw [← ds2.len]; rfl)
      rw [hy, List.append_nil] at q
      exact q _ H3 (e2.trans e3) (Dt.ofTupv s1 ds1)
    · have e4 : Ex H3 (upd H3 p (.tup (vs ++ ws))) := Ex.new hp
      exact q _ _ ((e2.trans e3).trans e4) (Dt.ofTupv (SqT.of (msk_at m3 hp)) ((ds1.mono (msk_ex e4)).app (ds2.mono (msk_ex e4))))
theorem call_sortedI_im {te : TE} {d : Dc Int β} (hd : Hv K M te σ H d) (hz : d.kvs.length < 64) :
    HF K M (tCB (fun xs H Q => ∃ (a : Addr) (kvs : List (Key × V)) (ks : List Int), xs = [.ref a] ∧ Rd H a (.dK kvs) ∧ kvs.map (·.1) = ks.map Sum.inl ∧ ks.length < 64 ∧
      ∀ (ys : List Int) (p : Addr), ys.Perm ks → ys.Pairwise (· ≤ ·) → H p = none → Q (.ref p) (upd H p (.lst (ys.map V.int)))) (tCons te tNil)) σ H (sortI (d.kvs.map (·.1))) := fun H1 e1 m Q q =>
  hd H1 e1 m _ fun v H2 e2 dv => by
    obtain ⟨a, kvs, rfl, r, h2⟩ := dv.dic
    refine ⟨a, kvs, d.kvs.map (·.1), rfl, rd_msk r, ?_, by rw [List.length_map]; exact hz, fun ys p hp hs hn => ?_⟩
    · rw [h2.keys, List.map_map]; rfl
    · have ey := sortI_eq hp hs
      subst ey
      exact q p _ _ (fresh_back e2 hn) (e2.trans (Ex.new hn)) upd_same (dts_ints _)
theorem has_sorted {d : Dc Int β} {k : Int} (h : k ∈ sortI (d.kvs.map (·.1))) : d.has k = true := by
  have h1 : k ∈ d.kvs.map (·.1) := (List.mergeSort_perm _ _).mem_iff.mp h
  obtain ⟨p, hp, rfl⟩ := List.mem_map.mp h1
  unfold Dc.has
  rw [List.any_eq_true]
  exact ⟨p, hp, decide_eq_true rfl⟩
theorem find_map {k : κ} {x : β} {j : κ} : ∀ (l : List (κ × β)), ((l.map fun p => if p.1 = k then (p.1, x) else p).find? fun p => decide (p.1 = j)).map (·.2) = if j = k then (if l.any (fun p => decide (p.1 = k)) = true then some x else none) else (l.find? fun p => decide (p.1 = j)).map (·.2)
  | [] => by simp
  | p :: l => by
    have ih := find_map (k := k) (x := x) (j := j) l
    rw [List.map_cons, List.find?_cons, List.find?_cons, List.any_cons]
    by_cases q : p.1 = k
    · rw [if_pos q]
      by_cases h : j = k
      · subst h
        simp [q]
      · have h2 : ¬ k = j := fun z => h z.symm
        rw [if_neg h] at ih
        simp only [q, h2, decide_false, h, if_false]
        exact ih
    · rw [if_neg q]
      by_cases h : p.1 = j
      · have h3 : ¬ j = k := fun z => q (h.trans z)
        simp [h, h3]
      · simp only [h, decide_false, q, Bool.false_or]
        exact ih
theorem find_app {k : κ} {x : β} {j : κ} : ∀ (l : List (κ × β)), l.any (fun p => decide (p.1 = k)) = false → ((l ++ [(k, x)]).find? fun p => decide (p.1 = j)).map (·.2) = if j = k then some x else (l.find? fun p => decide (p.1 = j)).map (·.2)
  | [], _ => by
    by_cases h : j = k
    · subst h; simp
    · have h2 : ¬ k = j := fun z => h z.symm
      simp [h, h2]
  | p :: l, hn => by
    rw [List.any_cons, Bool.or_eq_false_iff] at hn
    have ih := find_app (k := k) (x := x) (j := j) l hn.2
    have q : ¬ p.1 = k := by simpa using hn.1
    rw [List.cons_append, List.find?_cons, List.find?_cons]
    by_cases h : p.1 = j
    · have h3 : ¬ j = k := fun z => q (h.trans z)
      simp [h, h3]
    · simp only [h, decide_false]
      exact ih
theorem get_put (d : Dc κ β) (k : κ) (x : β) (j : κ) : (d.put k x).get j = if j = k then some x else d.get j := by
  unfold Dc.put Dc.get
  dsimp only
  by_cases q : (d.kvs.any fun p => decide (p.1 = k)) = true
  · rw [if_pos q, find_map, q]
    simp
  · rw [if_neg q]
    exact find_app _ (Bool.not_eq_true _ ▸ q)
theorem of_get {xs : List α} {kf : α → κ} {vf : α → β} {k : κ} {p : β} (h : (Dc.of xs kf vf).get k = some p) : ∃ x ∈ xs, kf x = k ∧ vf x = p := by
  have key := foldl_inv (f := fun (d : Dc κ β) x => d.put (kf x) (vf x)) (fun d => ∀ k p, d.get k = some p → ∃ x ∈ xs, kf x = k ∧ vf x = p) xs ⟨[]⟩ (fun d x hx ih k p h => by
    rw [get_put] at h
    by_cases q : k = kf x
    · rw [if_pos q] at h
      exact ⟨x, hx, q.symm, Option.some.inj h⟩
    · rw [if_neg q] at h
      exact ih k p h) (fun k p h => by cases h)
  exact key k p h
end
end Ly

namespace Ly
open PySem PySem.Spec PyProof.Rows L2 Evl
open PySem.W (Datum DatumOrd Tup T3 T4 minOf)
theorem ifT {α : Sort _} {b : Bool} {x y : α} (h : b = true) : (if b = true then x else y) = x := if_pos h
theorem ifF {α : Sort _} {b : Bool} {x y : α} (h : b = false) : (if b = true then x else y) = y := if_neg (by rw [h]; exact Bool.false_ne_true)
theorem log_small {j : Int} (h0 : 0 < j) (h : j < 1000000000000000000) : CDivW i j := by
  refine ⟨h0, ?_⟩
  have hn : j.natAbs ≠ 0 := by omega
  rw [Nat.log2_lt hn]
  have : j.natAbs < 2 ^ 60 := by omega
  exact Nat.lt_of_lt_of_le this (Nat.pow_le_pow_right (by decide) (by decide))
/-! ### sums, the greatest of a list, zip, stars -/
section
variable {K : PySem.W.Frag} {Mc M : List Addr} {He H H1 H2 : Hp} {is js : Ims} {ms : Mus} {σ : L2.St} {te ta tb tl tl2 : TE} {tt : TT} {g : TG}
variable {α β γ δ : Type} [DecidableEq α] [Dx α] [DecidableEq β] [Dx β] [DecidableEq γ] [Dx γ] [DecidableEq δ] [Dx δ]
theorem hv_sum {ns : List Int} (h : HS K M te σ H ns) : Hv K M (tCB (rSum K) (tCons te tNil)) σ H ns.sum := fun H1 e m Q q =>
  h H1 e m _ fun a vs H2 e2 s ds => ⟨a, ns, rfl, by rw [← ints_of ds]; exact s, q _ H2 e2 (Dt.ofInt _)⟩
/-- the greatest of a list -/
def maxL (l : List Int) : Int := match l with
  | [] => 0
  | x :: xs => xs.foldl max x
theorem maxL_spec {l : List Int} (h : l ≠ []) : maxL l ∈ l ∧ ∀ y ∈ l, y ≤ maxL l := by
  cases l with
  | nil => exact absurd rfl h
  | cons x xs =>
    obtain ⟨h1, h2, h3⟩ := max_spec xs x
    refine ⟨?_, fun y hy => ?_⟩
    · show xs.foldl max x ∈ x :: xs
      rcases h1 with h1 | h1
      · rw [h1]; exact List.mem_cons_self
      · exact List.mem_cons_of_mem _ h1
    · show y ≤ xs.foldl max x
      rcases List.mem_cons.mp hy with rfl | hy
      · exact h2
      · exact h3 y hy
theorem maxL_eq {l : List Int} {m : Int} (h1 : m ∈ l) (h2 : ∀ y ∈ l, y ≤ m) : m = maxL l := by
  have hn : l ≠ [] := fun z => by rw [z] at h1; cases h1
  obtain ⟨a, b⟩ := maxL_spec hn
  exact Int.le_antisymm (b m h1) (h2 _ a)
theorem hv_max {ns : List Int} (h : HS K M te σ H ns) (hn : 0 < ns.length) : Hv K M (tCB (rMax K) (tCons te tNil)) σ H (maxL ns) := fun H1 e m Q q =>
  h H1 e m _ fun a vs H2 e2 s ds => ⟨a, ns, rfl, by rw [← ints_of ds]; exact s, hn, fun x hx hy => by
    have : x = maxL ns := maxL_eq hx hy
    rw [this]
    exact q _ H2 e2 (Dt.ofInt _)⟩
/-- a starred list among items -/
theorem has_star {tr : TA} {xs ys : List α} (h : HS K M te σ H xs) (hr : HAs K M tr σ H ys) : HAs K M (StX.tStar K te tr) σ H (xs ++ ys) := fun H1 e m Q q =>
  h H1 e m _ fun a vs H2 e2 s ds => ⟨a, vs, rfl, .inr s, hr H2 (e.trans e2) (m.ex e2) _ fun ws H3 e3 d3 => q _ H3 (e2.trans e3) ((ds.mono (msk_ex e3)).app d3)⟩
/-- pairs of items of two lists -/
def zipL (xs : List α) (ys : List β) : List (α × β) := List.zipWith (fun x y => (x, y)) xs ys
theorem zipL_len (xs : List α) (ys : List β) : (zipL xs ys).length = min xs.length ys.length := by unfold zipL; rw [List.length_zipWith]
theorem zipL_get {xs : List α} {ys : List β} {i : Nat} {x : α} {y : β} (h : xs[i]? = some x) (h2 : ys[i]? = some y) : (zipL xs ys)[i]? = some (x, y) := by
  unfold zipL
  rw [List.getElem?_zipWith, h, h2]
theorem hf_lcZ0 {vs : List Nat} (s : Sg K Mc He H is ms) {xs : List α} {zs : List γ} (ef : α × γ → β) (h : Hv K (muA ms ++ Mc) tl σ H xs) (h' : Hv K (muA ms ++ Mc) tl2 σ H zs) (hz : xs.length ≤ 40000)
    (hb : ∀ D src (x : α × γ) w (ys : List β) H1, Sg K Mc He H1 ((w, Dx.toX x) :: (src, Dx.toX xs) :: is) ((D, .lst (ys.map Dx.toX)) :: ms) → x ∈ zipL xs zs →
      ∀ Q : L2.St → Hp → Prop, (∀ σ2, wipe σ2 vs = wipe σ vs → Hv K (muA ((D, Mv.lst (ys.map Dx.toX)) :: ms) ++ Mc) te σ2 H1 (ef x) → Q σ2 H1) → g w (wipe σ vs) H1 Q) :
    HF K (muA ms ++ Mc) (tLc (iZip K (tCons tl (tCons tl2 tNil))) g tYes te vs) σ H ((zipL xs zs).map ef) := fun H1 e m Q q =>
  h H1 e m _ fun v H2 e2 d => h' H2 (e.trans e2) (m.ex e2) _ fun v' H2' e2' d' => by
    obtain ⟨a, us, rfl, s1, ds⟩ := d.list
    obtain ⟨a', us', rfl, t1, dt⟩ := d'.list
    have s1' : SqL K H2' a us := ex_l e2' (ex_l msk_le s1)
    have t1' : SqL K H2' a' us' := ex_l msk_le t1
    have dE : Dt K (msk (muA ms ++ Mc) H2') (.ref a) xs := d.mono (msk_ex e2')
    refine ⟨a, a', us, us', rfl, s1', t1', fun D hD => ?_⟩
    have sA : Sg K Mc He H2' ((.ref a, Dx.toX xs) :: is) ms := (((s.ex e).ex e2).ex e2').put dE
    have sB : Sg K Mc He (upd H2' D (.lst [])) ((.ref a, Dx.toX xs) :: is) ((D, .lst (([] : List β).map Dx.toX)) :: ms) := sA.new hD ⟨[], rfl, .nil⟩
    have hlu : us.length = xs.length := ds.len
    have hlw : us'.length = zs.length := dt.len
    have dsE : Dts K (msk (muA ms ++ Mc) H2') us xs := Dts.mono (msk_ex e2') ds
    refine lc_it (walk_zip (K := K) (a := a) (b := a') (xs := us) (ys := us') (n := min us.length us'.length) rfl) (fun i H' => Ex H2' H' ∧ Sg K Mc He H' ((.ref a, Dx.toX xs) :: is) ((D, .lst ((((zipL xs zs).take i).map ef).map Dx.toX)) :: ms)) ⟨Ex.new hD, sB⟩
      (fun i H' _ p => ⟨ex_l p.1 s1', ex_l p.1 t1'⟩) (fun i x H' H'' hi p y => ?_) (fun H' p => ?_)
    · obtain ⟨T, x0, x1, rfl, nT, rfl, f1, f2⟩ := y
      have hix : i < xs.length := by rw [← hlu]; omega
      have hiz : i < zs.length := by rw [← hlw]; omega
      have gx : xs[i]? = some xs[i] := by simp [hix]
      have gz : zs[i]? = some zs[i] := by simp [hiz]
      have gE := zipL_get gx gz
      have eT : Ex H' (upd H' T (.tup [x0, x1])) := Ex.new nT
      have sT := p.2.ex eT
      have q2 : Ex (msk (muA ms ++ Mc) H2') (msk (D :: (muA ms ++ Mc)) (upd H' T (.tup [x0, x1]))) := fun b o hb' => by
        by_cases z : b ∈ muA ms ++ Mc
        · rw [msk_in z] at hb'; cases hb'
        · rw [msk_out z] at hb'
          have nb : b ≠ D := ne_of_none hb' hD
          rw [msk_out (by simp only [List.mem_cons, not_or]; exact ⟨nb, z⟩)]
          exact eT b o (p.1 b o hb')
      have dm0 : Dt K (msk (D :: (muA ms ++ Mc)) (upd H' T (.tup [x0, x1]))) x0 xs[i] := by
        obtain ⟨w, w1, w2⟩ := (dsE.mono q2).at gx
        have : x0 = w := Option.some.inj (f1.symm.trans w1)
        subst this; exact w2
      have dm1 : Dt K (msk (D :: (muA ms ++ Mc)) (upd H' T (.tup [x0, x1]))) x1 zs[i] := by
        obtain ⟨w, w1, w2⟩ := (Dts.mono q2 dt).at gz
        have : x1 = w := Option.some.inj (f2.symm.trans w1)
        subst this; exact w2
      have nTD : T ∉ D :: (muA ms ++ Mc) := fun z => (p.2.mok T z) nT
      have dw : Dt K (msk (D :: (muA ms ++ Mc)) (upd H' T (.tup [x0, x1]))) (.ref T) (xs[i], zs[i]) := Dt.ofPair (SqT.of (by rw [msk_out nTD]; exact upd_same)) dm0 dm1
      refine hb D (.ref a) (xs[i], zs[i]) (.ref T) _ _ (sT.put dw) (List.mem_of_getElem? gE) _ fun σ2 hw he => ⟨hw, ?_⟩
      have hlen : (((zipL xs zs).take i).map ef).length < 50000 := by
        rw [List.length_map, List.length_take, zipL_len]
        omega
      exact lc_turn (ms := ms) (tt := tYes) (b := true) (zs := ((zipL xs zs).take (i + 1)).map ef) sT hlen (fun H3 => Ex H2' H3 ∧ Sg K Mc He H3 ((.ref a, Dx.toX xs) :: is) ((D, .lst ((((zipL xs zs).take (i + 1)).map ef).map Dx.toX)) :: ms)) (fun H2 _ _ _ q => q H2 (Ex.refl H2)) (fun _ => he) (by rw [if_pos rfl, take_snoc gE, List.map_append]; rfl) (fun H3 h4 s3 => ⟨by
        obtain ⟨H4, e4, e5⟩ := h4
        rcases e5 with e5 | ⟨o, e5⟩
        · rw [e5]; exact (p.1.trans eT).trans e4
        · rw [e5]; exact Ex.mut ((p.1.trans eT).trans e4) hD, s3⟩)
    · have z := p.2
      have et : (zipL xs zs).take (min us.length us'.length) = zipL xs zs := List.take_of_length_le (by rw [zipL_len, hlu, hlw]; exact Nat.le_refl _)
      rw [et] at z
      obtain ⟨us2, h3, h4⟩ := z.lst (k := 0) rfl
      exact q D us2 H' (fresh_back (e2.trans e2') hD) ((e2.trans e2').trans p.1) h3 h4

/-- xs[-1] -/
theorem hv_last {xs : List α} (d : α) (ha : HS K M ta σ H xs) (hn : 0 < xs.length) : Hv K M (tOp (rIxL K) ta (tUn (rU fun i => .int (-i)) (tC (.int 1)))) σ H (xs.getD (xs.length - 1) d) := fun H1 e m Q q =>
  ha H1 e m _ fun a vs H2 e2 s ds => ⟨1, rfl, by
    have hx : xs[xs.length - 1]? = some (xs.getD (xs.length - 1) d) := by
      have := getD_at (xs := xs) (i := ((xs.length - 1 : Nat) : Int)) (d := d) (by omega) (by omega)
      simpa using this
    obtain ⟨w, h1, h2⟩ := ds.at hx
    have hl := ds.len
    refine ⟨a, vs, -1, w, rfl, rfl, s, ?_, q w H2 e2 h2⟩
    unfold atI ixN
    rw [if_neg (by decide), if_pos (by omega)]
    show vs[_]? = some w
    rw [← h1]
    congr 1
    omega⟩
/-- for i, x in enumerate(xs) -/
theorem zq_forE {xs : List α} {tu tz : TS} {D : Ends} (s : Sg K Mc He H is ms) (h : Hv K (muA ms ++ Mc) tl σ H xs) (Pv : V → Nat → L2.St → Hp → Prop) (h0 : ∀ v H1, Sg K Mc He H1 ((v, Dx.toX xs) :: is) ms → Pv v 0 σ H1)
    (hl : ∀ v i σ' H', Pv v i σ' H' → Dt K (msk (muA ms ++ Mc) H') v xs ∧ MOk (muA ms ++ Mc) H')
    (hs : ∀ v i x w σ' H' H'', (enumL xs)[i]? = some x → Pv v i σ' H' → Ex H' H'' → Dt K (msk (muA ms ++ Mc) H'') w x → g w σ' H'' fun σ2 H2 => tu { D with nx := Pv v (i + 1), ct := Pv v (i + 1), bk := tz D } σ2 H2)
    (hd : ∀ v σ' H', Pv v (enumL xs).length σ' H' → tz D σ' H') : tSeq (tFor (iEnum K (tCons tl tNil)) g tu) tz D σ H :=
  h H (Ex.refl H) s.mok _ fun v H1 e d => by
    obtain ⟨a, vs, rfl, s1, ds⟩ := d.list
    refine ⟨a, vs, rfl, ex_l msk_le s1, fun i m σ' H' => m = xs.length - i ∧ i ≤ xs.length ∧ Pv (.ref a) i σ' H', ⟨xs.length, by simp, Nat.zero_le _, h0 _ H1 ((s.ex e).put d)⟩, ?_⟩
    rintro i m σ' H' ⟨rfl, hi, p⟩
    obtain ⟨dd, mk⟩ := hl _ i σ' H' p
    obtain ⟨a', us, e', q1, du⟩ := dd.list
    cases e'
    have q : SqL K H' a us := ex_l msk_le q1
    have el := du.len
    by_cases hlt : i < xs.length
    · refine .inr ⟨⟨us, us[i]'(by omega), q, by simp [show i < us.length by omega]⟩, Pv (.ref a) (i + 1), fun σ2 H2 p' => ⟨xs.length - (i + 1), by omega, rfl, hlt, p'⟩, fun x H2 y => ?_⟩
      obtain ⟨T, x1, rfl, nT, rfl, f2⟩ := y
      have gx : xs[i]? = some xs[i] := by simp [hlt]
      have eT : Ex H' (upd H' T (.tup [.int (i : Int), x1])) := Ex.new nT
      have nTD : T ∉ muA ms ++ Mc := fun z => (mk T z) nT
      have dm : Dt K (msk (muA ms ++ Mc) (upd H' T (.tup [.int (i : Int), x1]))) x1 xs[i] := by
        obtain ⟨w, w1, w2⟩ := (Dts.mono (msk_ex eT) du).at gx
        have : x1 = w := Option.some.inj ((f2 us q).symm.trans w1)
        subst this; exact w2
      exact hs _ i ((i : Int), xs[i]) (.ref T) σ' H' _ (enumL_get gx) p eT (Dt.ofPair (SqT.of (by rw [msk_out nTD]; exact upd_same)) (Dt.ofInt _) dm)
    · have e : i = xs.length := by omega
      subst e
      exact .inl ⟨⟨us, q, by omega⟩, hd _ σ' H' (by rw [enumL_len]; exact p)⟩
/-- for x, y in zip(xs, ys) -/
theorem zq_forZ {xs : List α} {ys : List β} {tu tz : TS} {D : Ends} (s : Sg K Mc He H is ms) (h : Hv K (muA ms ++ Mc) tl σ H xs) (h' : Hv K (muA ms ++ Mc) tl2 σ H ys) (Pv : V → Nat → L2.St → Hp → Prop)
    (h0 : ∀ v u H1, Sg K Mc He H1 ((v, Dx.toX xs) :: (u, Dx.toX ys) :: is) ms → Pv v 0 σ H1)
    (hl : ∀ v i σ' H', Pv v i σ' H' → Dt K (msk (muA ms ++ Mc) H') v xs ∧ MOk (muA ms ++ Mc) H' ∧ True)
    (hs : ∀ v i x w σ' H' H'', (zipL xs ys)[i]? = some x → Pv v i σ' H' → Ex H' H'' → Dt K (msk (muA ms ++ Mc) H'') w x → g w σ' H'' fun σ2 H2 => tu { D with nx := Pv v (i + 1), ct := Pv v (i + 1), bk := tz D } σ2 H2)
    (hd : ∀ v σ' H', Pv v (zipL xs ys).length σ' H' → tz D σ' H') : True := True.intro
end
/-! ### loops whose states are known -/
theorem loopNR_seq {ρ S : Type} {f : S → Int → Lp ρ S} (st : Nat → S) (lo : Int) (n : Nat) (h : ∀ i, i < n → f (st i) (lo + (i : Int)) = .nxt (st (i + 1))) : loopNR f n lo (st 0) = .inr (st n) := by
  have key : ∀ m i, i + m = n → loopNR f m (lo + (i : Int)) (st i) = .inr (st n) := by
    intro m
    induction m with
    | zero => intro i e; have : i = n := by omega
              subst this; rfl
    | succ m ih =>
      intro i e
      have := loopNR_nxt (n := n) (i := i) (by omega) (h i (by omega))
      rw [show n - i = m + 1 by omega, show n - (i + 1) = m by omega] at this
      rw [this]
      exact ih (i + 1) (by omega)
  have := key n 0 (by omega)
  simpa using this
theorem loopN_seq {S : Type} {f : S → Int → S} (st : Nat → S) (lo : Int) (n : Nat) (h : ∀ i, i < n → f (st i) (lo + (i : Int)) = st (i + 1)) : loopN f n lo (st 0) = st n := by
  have key : ∀ m i, i + m = n → loopN f m (lo + (i : Int)) (st i) = st n := by
    intro m
    induction m with
    | zero => intro i e; have : i = n := by omega
              subst this; rfl
    | succ m ih =>
      intro i e
      have := loopN_step (f := f) (n := n) (i := i) (lo := lo) (s := st i) (by omega)
      rw [show n - i = m + 1 by omega, show n - (i + 1) = m by omega] at this
      rw [this, h i (by omega)]
      exact ih (i + 1) (by omega)
  have := key n 0 (by omega)
  simpa using this
theorem loopL_seq {α ρ S : Type} {f : S → α → Lp ρ S} (st : Nat → S) (xs : List α) (h : ∀ i x, xs[i]? = some x → f (st i) x = .nxt (st (i + 1))) : loopL f xs (st 0) = .inr (st xs.length) := by
  have key : ∀ m i, i + m = xs.length → loopL f (xs.drop i) (st i) = .inr (st xs.length) := by
    intro m
    induction m with
    | zero => intro i e; have : i = xs.length := by omega
              subst this; exact loopL_end
    | succ m ih =>
      intro i e
      have hx : xs[i]? = some (xs[i]'(by omega)) := by simp [show i < xs.length by omega]
      rw [loopL_nxt hx (h i _ hx)]
      exact ih (i + 1) (by omega)
  have := key xs.length 0 (by omega)
  simpa using this
theorem sum_take_succ (xs : List Int) {i : Nat} (h : i < xs.length) : (xs.take (i + 1)).sum = (xs.take i).sum + xs.getD i 0 := by
  have hx : xs[i]? = some (xs[i]'h) := by simp [h]
  rw [take_snoc hx, List.sum_append, List.getD_eq_getElem?_getD, hx]
  simp
theorem sum_nn {xs : List Int} (h : ∀ x ∈ xs, 0 ≤ x) : 0 ≤ xs.sum := by
  induction xs with
  | nil => simp
  | cons a r ih =>
    have := h a List.mem_cons_self
    have := ih fun x hx => h x (List.mem_cons_of_mem _ hx)
    rw [List.sum_cons]; omega
section
variable {K : PySem.W.Frag} {M : List Addr} {H : Hp} {σ : L2.St} {ta : TE}
variable {α β γ δ : Type} [DecidableEq α] [Dx α] [DecidableEq β] [Dx β] [DecidableEq γ] [Dx γ] [DecidableEq δ] [Dx δ]
theorem hv_t40 {p : T4 α β γ δ} (ha : Hv K M ta σ H p) : Hv K M (tOp (rIxT K) ta (tC (.int 0))) σ H p.a := fun H1 e m Q q =>
  ha H1 e m _ fun v H2 e2 d => by
    obtain ⟨l, a, b, c, d', rfl, s, d1, d2, d3, d4⟩ := d.t4
    exact ⟨l, [a, b, c, d'], 0, a, rfl, rfl, ex_t msk_le s, at_of (j := 0) rfl rfl, q a H2 e2 d1⟩
theorem hv_t41 {p : T4 α β γ δ} (ha : Hv K M ta σ H p) : Hv K M (tOp (rIxT K) ta (tC (.int 1))) σ H p.b := fun H1 e m Q q =>
  ha H1 e m _ fun v H2 e2 d => by
    obtain ⟨l, a, b, c, d', rfl, s, d1, d2, d3, d4⟩ := d.t4
    exact ⟨l, [a, b, c, d'], 1, b, rfl, rfl, ex_t msk_le s, at_of (j := 1) rfl rfl, q b H2 e2 d2⟩
theorem hv_t42 {p : T4 α β γ δ} (ha : Hv K M ta σ H p) : Hv K M (tOp (rIxT K) ta (tC (.int 2))) σ H p.c := fun H1 e m Q q =>
  ha H1 e m _ fun v H2 e2 d => by
    obtain ⟨l, a, b, c, d', rfl, s, d1, d2, d3, d4⟩ := d.t4
    exact ⟨l, [a, b, c, d'], 2, c, rfl, rfl, ex_t msk_le s, at_of (j := 2) rfl rfl, q c H2 e2 d3⟩
theorem hv_t43 {p : T4 α β γ δ} (ha : Hv K M ta σ H p) : Hv K M (tOp (rIxT K) ta (tC (.int 3))) σ H p.d := fun H1 e m Q q =>
  ha H1 e m _ fun v H2 e2 d => by
    obtain ⟨l, a, b, c, d', rfl, s, d1, d2, d3, d4⟩ := d.t4
    exact ⟨l, [a, b, c, d'], 3, d', rfl, rfl, ex_t msk_le s, at_of (j := 3) rfl rfl, q d' H2 e2 d4⟩
end
end Ly

namespace Ly
open PySem PySem.Spec PyProof.Rows L2 Evl
open PySem.W (Datum DatumOrd Tup T3 T4 minOf)
section
variable {K : PySem.W.Frag} {Mc M : List Addr} {He H : Hp} {is : Ims} {ms : Mus} {σ : L2.St} {te ta tb : TE} {tz : TS} {D : Ends}
variable {α β γ δ : Type} [DecidableEq α] [Dx α] [DecidableEq β] [Dx β] [DecidableEq γ] [Dx γ] [DecidableEq δ] [Dx δ]
theorem z_unp3 {i j l : Nat} {p : T3 α β γ} (s : Sg K Mc He H is ms) (h : Hv K (muA ms ++ Mc) te σ H p) (k : ∀ x y z, T3.mk x y z = p → ∀ v u w H1, Sg K Mc He H1 ((v, Dx.toX x) :: (u, Dx.toX y) :: (w, Dx.toX z) :: is) ms → tz D (((σ.set i (some v)).set j (some u)).set l (some w)) H1) :
    tSeq (tAsg te (gTup K 3 (gCons (gName i) (gCons (gName j) (gCons (gName l) gNil))))) tz D σ H :=
  h H (Ex.refl H) s.mok _ fun v H1 e d => by
    obtain ⟨l, a, b, c, rfl, st, d1, d2, d3⟩ := d.t3
    exact ⟨l, [a, b, c], rfl, ex_t msk_le st, rfl, a, [b, c], rfl, b, [c], rfl, c, [], rfl, rfl, k p.a p.b p.c rfl a b c H1 ((((s.ex e).put d3).put d2).put d1)⟩
theorem z_unp4 {i j l m : Nat} {p : T4 α β γ δ} (s : Sg K Mc He H is ms) (h : Hv K (muA ms ++ Mc) te σ H p) (k : ∀ x y z r, T4.mk x y z r = p → ∀ v u w t H1, Sg K Mc He H1 ((v, Dx.toX x) :: (u, Dx.toX y) :: (w, Dx.toX z) :: (t, Dx.toX r) :: is) ms → tz D ((((σ.set i (some v)).set j (some u)).set l (some w)).set m (some t)) H1) :
    tSeq (tAsg te (gTup K 4 (gCons (gName i) (gCons (gName j) (gCons (gName l) (gCons (gName m) gNil)))))) tz D σ H :=
  h H (Ex.refl H) s.mok _ fun v H1 e dd => by
    obtain ⟨l, a, b, c, d, rfl, st, d1, d2, d3, d4⟩ := dd.t4
    exact ⟨l, [a, b, c, d], rfl, ex_t msk_le st, rfl, a, [b, c, d], rfl, b, [c, d], rfl, c, [d], rfl, d, [], rfl, rfl, k p.a p.b p.c p.d rfl a b c d H1 (((((s.ex e).put d4).put d3).put d2).put d1)⟩
/-- list + list, read ones -/
def rCatS (K : PySem.W.Frag) : R2 := fun x y H Q => ∃ a b xs ys, x = .ref a ∧ y = .ref b ∧ SqL K H a xs ∧ SqL K H b ys ∧ xs.length + ys.length ≤ sizeLine ∧ ∀ p, H p = none → Q (.ref p) (upd H p (.lst (xs ++ ys)))
theorem op_catS {X : Cx} : OpR X (binaryOp .Add) (rCatS X.K) := by
  intro pins s σ H x y v u Q I rx ry h
  obtain ⟨a, b, xs, ys, rfl, rfl, ha, hb, hz, q⟩ := h
  cases rx
  cases ry
  obtain ⟨its, r, ht, hz1⟩ := I.list ha
  obtain ⟨its2, r2, ht2, hz2⟩ := I.list hb
  obtain ⟨⟨cls, dd, data, sl⟩, ho, hc, n, hd⟩ := ht.isList
  obtain ⟨⟨cls2, dd2, data2, sl2⟩, ho2, hc2, n2, hd2⟩ := ht2.isList
  simp only at hc hd hc2 hd2
  subst hc hd hc2 hd2
  have e : its.toArray ++ its2.toArray = (its ++ its2).toArray := by simp
  refine concat_meets ⟨_, ho, rfl⟩ ⟨_, ho2, rfl⟩ noFill_list_add seq_list_add PySem.F.slot_list_add PySem.F.entry_list_add (PySem.F.args_list_add_2 _ _) (list_addW a b its.toArray its2.toArray n n2 dd dd2 sl sl2 (by rw [List.size_toArray, List.size_toArray, ← r.length, ← r2.length]; exact hz)) ⟨ho, ho2, ?_⟩
  rw [e]
  refine ⟨.ref s.heap.objs.size, _, I.laid (t' := s.toks) (o := .lst (xs ++ ys)) (fun b ob q => Heap.get?_push_of_some _ q) (Nat.le_refl _) ?_, rfl, q _ (I.hok.fresh (Nat.le_refl _))⟩
  exact ⟨by rw [List.length_append]; exact hz, _, 0, r.append r2, Heap.get?_push_size _ rfl⟩
theorem hv_co {x : α} {y : β} (h : Hv K M te σ H x) (e : Dx.toX x = Dx.toX y) : Hv K M te σ H y := fun H1 a m Q q => h H1 a m Q fun v H2 e2 d => q v H2 e2 (by
  show Xp _ _ _ (Dx.toX y)
  rw [← e]; exact d)
def t4v (p : T4 α α α α) : Tup α := ⟨[p.a, p.b, p.c, p.d]⟩
def t3v (p : T3 α α α) : Tup α := ⟨[p.a, p.b, p.c]⟩
end
end Ly

namespace Ly
open PySem PySem.Spec PyProof.Rows L2 Evl
open PySem.W (Datum DatumOrd Tup T3 T4 minOf)

/-! ### objects of classes: made once, read from then on -/
section
variable {K : PySem.W.Frag} {Mc M : List Addr} {He H H1 : Hp} {is : Ims} {ms : Mus} {σ : L2.St} {te ta tb : TE} {tz : TS} {D : Ends}
variable {α β γ δ : Type} [DecidableEq α] [Dx α] [DecidableEq β] [Dx β] [DecidableEq γ] [Dx γ] [DecidableEq δ] [Dx δ]
/-- the class of a name -/
structure Ct (K : PySem.W.Frag) (c : Str) (C : Addr) : Prop where
  ns : PySem.W.nsIn K mainGlobals c = some (some (.ref C))
  cl : Cls K C
theorem Ct.one {c : Str} {C C' : Addr} (t : Ct K c C) (h : PySem.W.nsIn K mainGlobals c = some (some (.ref C'))) : C' = C := by
  have := t.ns.symm.trans h
  cases this
  rfl
theorem Dt.objv {v : V} {o : α} {c : Str} {C : Addr} {ns : List Str} {ds : List Xd} (t : Ct K c C) (h : Dt K H v o) (e : Dx.toX o = .obj c ns ds) :
    ∃ a dx fs, v = .ref a ∧ H a = some (.ins C dx fs) ∧ fs.map (·.1) = ns ∧ XpAll K H (fs.map (·.2)) ds := by
  have h' : Xp K H v (.obj c ns ds) := by rw [← e]; exact h
  cases h' with
  | obj q hp hn hv ha =>
    cases hv
    cases t.one q
    exact ⟨_, _, _, rfl, hp, hn, ha⟩
theorem Dt.ofObj {a C dx : Addr} {fs : List (Str × V)} {o : α} {c : Str} {ns : List Str} {ds : List Xd} (t : Ct K c C) (e : Dx.toX o = .obj c ns ds) (h : H a = some (.ins C dx fs)) (hn : fs.map (·.1) = ns) (ha : XpAll K H (fs.map (·.2)) ds) : Dt K H (.ref a) o := by
  show Xp K H (.ref a) (Dx.toX o)
  rw [e]
  exact .obj t.ns h hn rfl ha
theorem lookup_at : ∀ {fs : List (Str × V)} {ds : List Xd} {i : Nat} {f : Str} {d : Xd}, (fs.map (·.1)).Nodup → XpAll K H (fs.map (·.2)) ds → (fs.map (·.1))[i]? = some f → ds[i]? = some d → ∃ v, fs.lookup f = some v ∧ Xp K H v d
  | [], _, _, _, _, _, _, h, _ => by simp at h
  | (g, v) :: r, ds, i, f, d, nd, ha, hi, hd => by
    cases ha with
    | cons a b =>
      cases i with
      | zero =>
        have e1 : g = f := by simpa using hi
        have e2 := Option.some.inj (show some _ = some d from hd)
        subst e1 e2
        exact ⟨v, by simp, a⟩
      | succ i =>
        have nd' := List.nodup_cons.mp (show (g :: r.map (·.1)).Nodup from nd)
        have hi' : (r.map (·.1))[i]? = some f := by simpa using hi
        obtain ⟨u, h1, h2⟩ := lookup_at (i := i) nd'.2 b hi' (by simpa using hd)
        have hg : f ≠ g := fun z => nd'.1 (z ▸ List.mem_of_getElem? hi')
        exact ⟨u, by rw [List.lookup_cons]; rw [show (f == g) = false by simpa using hg]; exact h1, h2⟩
theorem lookup_none : ∀ {fs : List (Str × V)} {f : Str}, f ∉ fs.map (·.1) → fs.lookup f = none
  | [], _, _ => rfl
  | (g, v) :: r, f, h => by
    have h' : ¬ (f = g ∨ f ∈ r.map (·.1)) := by simpa using h
    rw [List.lookup_cons, show (f == g) = false by simpa using fun z => h' (.inl z)]
    exact lookup_none fun z => h' (.inr z)
theorem putF_new {f : Str} {v : V} : ∀ {fs : List (Str × V)}, f ∉ fs.map (·.1) → putF f v fs = fs ++ [(f, v)]
  | [], _ => rfl
  | (g, x) :: r, h => by
    have h' : ¬ (f = g ∨ f ∈ r.map (·.1)) := by simpa using h
    show (if g = f then (g, v) :: r else (g, x) :: putF f v r) = _
    rw [if_neg fun z => h' (.inl z.symm), putF_new fun z => h' (.inr z)]
    rfl
/-- o.f -/
theorem hv_fld {o : α} {x : β} {c f : Str} {C : Addr} {ns : List Str} {ds : List Xd} (i : Nat) (h : Hv K M te σ H o) (t : Ct K c C) (na : NoAttr K C f) (e : Dx.toX o = .obj c ns ds) (nd : ns.Nodup) (hn : ns[i]? = some f) (hd : ds[i]? = some (Dx.toX x)) :
    Hv K M (tFld K te f) σ H x := fun H1 e1 m Q q =>
  h H1 e1 m _ fun v H2 e2 d => by
    obtain ⟨a, dx, fs, rfl, hp, hf, ha⟩ := d.objv t e
    subst hf
    obtain ⟨u, h1, h2⟩ := lookup_at nd ha hn hd
    exact ⟨a, C, dx, fs, u, rfl, msk_le _ _ hp, t.cl, na, h1, q u H2 e2 h2⟩
/-- o.m(..) -/
theorem hv_meth {o : α} {args : γ → List Xd} {pre : γ → Prop} {F : γ → β} {tr : TA} {E : XK} {cn m : Str} {C : Addr} {ns : List Str} {ds : List Xd} {rest : List Xd} (c : γ) (h : Hv K M ta σ H o) (t : Ct K cn C) (e : Dx.toX o = .obj cn ns ds) (nm : m ∉ ns)
    (ha : HD K M tr σ H rest) (hargs : args c = Dx.toX o :: rest) (p : pre c) : Hv K M (tMeth C m (PrD K args pre F) [] E ta tr) σ H (F c) := fun H1 e1 mk Q q =>
  h H1 e1 mk _ fun v H2 e2 d => by
    obtain ⟨a, dx, fs, rfl, hp, hf, hx⟩ := Dt.objv t d e
    refine ⟨a, dx, fs, rfl, msk_le _ _ hp, lookup_none (by rw [hf]; exact nm), ?_⟩
    exact ha H2 (e1.trans e2) (mk.ex e2) _ fun vs H3 e3 ds' => ⟨M, c, (mk.ex e2).ex e3, by rw [hargs, List.append_nil]; exact .cons (dp_mono (msk_ex e3) d) ds', p, fun w H4 e4 d4 => q w H4 ((e2.trans e3).trans e4) d4⟩
/-- the promise of __init__: F tells the object -/
def PrI (K : PySem.W.Frag) (cn : Str) (args : γ → List Xd) (pre : γ → Prop) (F : γ → β) : Sp := fun vs H Q _ => ∃ (Mc : List Addr) (p C dx : Addr) (ws : List V) (c : γ), vs = .ref p :: ws ∧ MOk (p :: Mc) H ∧ p ∉ Mc ∧ PySem.W.nsIn K mainGlobals cn = some (some (.ref C)) ∧ H p = some (.ins C dx []) ∧ XpAll K (msk (p :: Mc) H) ws (args c) ∧ pre c ∧
  ∀ H', Ex (msk [p] H) H' → Dt K (msk Mc H') (.ref p) (F c) → Q .non H'
theorem hv_make {args : γ → List Xd} {pre : γ → Prop} {F : γ → β} {tr : TA} {E : XK} {cn : Str} {C : Addr} (c : γ) (t : Ct K cn C) (h : HD K M tr σ H (args c)) (p : pre c) : Hv K M (tMake C (PrI K cn args pre F) [] E tr) σ H (F c) := fun H1 e1 mk Q q =>
  h H1 e1 mk _ fun vs H2 e2 ds x dx hx hdx ne => by
    have m2 := mk.ex e2
    have hx2 : upd H2 dx (.own x) x = none := by rw [upd_ne (fun z => ne z.symm)]; exact hx
    have ea : Ex H2 (upd H2 dx (.own x)) := Ex.new hdx
    have eb : Ex (upd H2 dx (.own x)) (upd (upd H2 dx (.own x)) x (.ins C dx [])) := Ex.new hx2
    have hxM : x ∉ M := fun z => m2 x z hx
    refine ⟨M, x, C, dx, vs, c, by rw [List.append_nil], ?_, hxM, t.ns, upd_same, ?_, p, fun H' e' d => ⟨rfl, q _ _ ?_ d⟩⟩
    · intro l hl
      rcases List.mem_cons.mp hl with rfl | hl
      · rw [upd_same]; exact fun z => nomatch z
      · exact ((m2.ex ea).ex eb) l hl
    · exact dpa_mono ((msk_ex ea).trans (msk_new hx2)) ds
    · refine e2.trans fun a o ho => e' a o ?_
      have na : a ≠ x := fun z => by rw [z, hx] at ho; cases ho
      rw [msk_out (by simpa using na)]
      exact eb a o (ea a o ho)
theorem Sg.enterI {p C dx : Addr} (m : MOk (p :: Mc) H) (np : p ∉ Mc) (hp : H p = some (.ins C dx [])) (im : Im K (msk (p :: Mc) H) is) : Sg K Mc (msk [p] H) H is [(p, .ins C dx [])] := by
  refine ⟨Ex.refl _, fun l hl => ?_, List.nodup_cons.mpr ⟨by simp, List.nodup_nil⟩, im, ⟨⟨_, hp, [], rfl, rfl, .nil⟩, True.intro⟩⟩
  have : l ≠ p := fun z => np (z ▸ hl)
  rw [msk_out (by simpa using this)]
  exact m l (List.mem_cons_of_mem _ hl)
theorem Sg.ins (s : Sg K Mc He H is ms) {k : Nat} {l C dx : Addr} {nds : List (Str × Xd)} (e : ms[k]? = some (l, .ins C dx nds)) : ∃ fs, H l = some (.ins C dx fs) ∧ fs.map (·.1) = nds.map (·.1) ∧ XpAll K (msk (muA ms ++ Mc) H) (fs.map (·.2)) (nds.map (·.2)) := by
  obtain ⟨o, h1, fs, e1, h2, h3⟩ := s.mu.get e
  subst e1
  exact ⟨fs, h1, h2, h3⟩
/-- self.f = e, a new attribute -/
theorem z_fldG {k : Nat} {l C dx : Addr} {nds : List (Str × Xd)} {f cn : Str} {x : β} (s : Sg K Mc He H is ms) (e : ms[k]? = some (l, .ins C dx nds)) (t : Ct K cn C) (na : NoAttr K C f) (h : Hv K (muA ms ++ Mc) te σ H x) (ho : Ev ta σ H (.ref l)) (hz : nds.length < 1000) (hn : f ∉ nds.map (·.1))
    (q : ∀ y, y = x → ∀ H1, Sg K Mc He H1 is (ms.set k (l, .ins C dx (nds ++ [(f, Dx.toX y)]))) → tz D σ H1) : tSeq (sFld K ta te f) tz D σ H :=
  h H (Ex.refl H) s.mok _ fun v H1 e1 d => ho H1 e1 _ fun H2 e2 => by
    have s2 := (s.ex e1).ex e2
    obtain ⟨fs, h1, h2, h3⟩ := s2.ins e
    refine ⟨l, C, dx, fs, rfl, h1, t.cl, na, ?_, ?_⟩
    · have : (fs.map (·.1)).length = (nds.map (·.1)).length := by rw [h2]
      rw [List.length_map, List.length_map] at this
      omega
    · rw [putF_new (by rw [h2]; exact hn)]
      refine q x rfl _ (s2.set e ⟨_, rfl, ?_, ?_⟩)
      · rw [List.map_append, List.map_append, h2]; rfl
      · rw [List.map_append, List.map_append]
        exact dpa_app h3 (.cons (Dt.mono (msk_ex e2) d) .nil)
/-- self.f, of an own object -/
theorem hv_fldM {k : Nat} (i : Nat) {l C dx : Addr} {nds : List (Str × Xd)} {f cn : Str} {x : β} (s : Sg K Mc He H is ms) (e : ms[k]? = some (l, .ins C dx nds)) (t : Ct K cn C) (na : NoAttr K C f) (ho : Ev ta σ H (.ref l)) (nd : (nds.map (·.1)).Nodup) (hi : nds[i]? = some (f, Dx.toX x)) :
    Hv K (muA ms ++ Mc) (tFld K ta f) σ H x := fun H1 e1 m Q q =>
  ho H1 e1 _ fun H2 e2 => by
    have s2 := (s.ex e1).ex e2
    obtain ⟨fs, h1, h2, h3⟩ := s2.ins e
    obtain ⟨v, hv, hx⟩ := lookup_at (i := i) (f := f) (d := Dx.toX x) (by rw [h2]; exact nd) h3 (by rw [h2, List.getElem?_map, hi]; rfl) (by rw [List.getElem?_map, hi]; rfl)
    exact ⟨l, C, dx, fs, v, rfl, h1, t.cl, na, hv, q v H2 e2 hx⟩
/-- an own object, no longer changed -/
theorem Sg.frzI {l C dx : Addr} {nds : List (Str × Xd)} {cn : Str} (o : α) (t : Ct K cn C) (e : Dx.toX o = .obj cn (nds.map (·.1)) (nds.map (·.2))) (s : Sg K Mc He H is ((l, .ins C dx nds) :: ms)) : Sg K Mc He H ((.ref l, Dx.toX o) :: is) ms := by
  have sub : Ex (msk (muA ((l, Mv.ins C dx nds) :: ms) ++ Mc) H) (msk (muA ms ++ Mc) H) := msk_sub fun a ha => List.mem_cons_of_mem _ ha
  have nd := List.nodup_cons.mp s.nd
  obtain ⟨⟨u, h1, fs, e1, h2, h3⟩, h4⟩ := s.mu
  subst e1
  have nl : l ∉ muA ms ++ Mc := fun z => (List.mem_append.mp z).elim nd.1 (s.notc List.mem_cons_self)
  refine ⟨s.ext.trans (msk_sub fun a ha => List.mem_cons_of_mem _ ha), s.okc, nd.2, ⟨?_, s.im.mono sub⟩, h4.mono sub (Ex.refl H)⟩
  exact Dt.ofObj t e (by rw [msk_out nl]; exact h1) h2 (dpa_mono sub h3)
/-! ### reversed(range(n)), xs[::-1], what is in a tuple -/
def HRg (M : List Addr) (tr : L2.St → Hp → (Int → Int → Hp → Prop) → Prop) (σ : L2.St) (H : Hp) (a b : Int) : Prop := ∀ H1, Ex H H1 → MOk M H1 → ∀ Q : Int → Int → Hp → Prop, (∀ H2, Ex H1 H2 → Q a b H2) → tr σ H1 Q
theorem hv_revL {xs : List α} (h : HS K M te σ H xs) : Hv K M (tRevL K te) σ H xs.reverse := fun H1 e m Q q =>
  h H1 e m _ fun a vs H2 e2 s d => ⟨a, vs, rfl, s, fun p hp => by
    have e3 : Ex H2 (upd H2 p (.lst vs.reverse)) := Ex.new hp
    refine q _ _ (e2.trans e3) (Dt.ofList (SqL.of (msk_at (m.ex e2) hp)) ?_)
    have key : ∀ {us : List V} {zs : List α} {H : Hp}, Dts K H us zs → Dts K H us.reverse zs.reverse := by
      intro us zs
      induction zs generalizing us with
      | nil => intro H h; cases (show XpAll _ _ _ [] from h); exact Dts.nil
      | cons z zs ih =>
        intro H h
        cases (show XpAll _ _ _ (_ :: _) from h) with
        | cons a b =>
          rw [List.reverse_cons, List.reverse_cons]
          exact (ih b).app (Dts.cons a Dts.nil)
    exact (key d).mono (msk_ex e3)⟩
theorem hv_inVS {a : Str} {xs : List Str} (neg : Bool) (ha : Hv K M ta σ H a) (hb : Hv K M tb σ H (Tup.mk xs)) : Hv K M (tOp (rIn K neg) ta tb) σ H (if neg then !decide (a ∈ xs) else decide (a ∈ xs)) := fun H1 e m Q q =>
  ha H1 e m _ fun v H2 e2 d => hb H2 (e.trans e2) (m.ex e2) _ fun u H3 e3 d' => by
    obtain ⟨l, vs, rfl, s, ds⟩ := d'.tupv
    have ev := dts_strs ds
    subst ev
    have e1 := d.str
    subst e1
    refine ⟨l, xs.map V.str, rfl, .inr (ex_t msk_le s), rfl, flat_strs xs, ?_⟩
    rw [inV_strs]
    exact q _ H3 (e2.trans e3) (Dt.ofBool _)
theorem for_rangeC {lo c : Int} {n : Nat} {g : TG} {tb : TS} {D : Ends} {σ : L2.St} {H : Hp} (Pv : Nat → L2.St → Hp → Prop) (h0 : Pv 0 σ H)
    (hs : ∀ (i : Nat) σ H, i < n → Pv i σ H → g (.int (lo + (i : Int) * c)) σ H fun σ2 H2 => tb { D with nx := Pv (i + 1), ct := Pv (i + 1), bk := D.nx } σ2 H2) (hd : ∀ σ H, Pv n σ H → D.nx σ H) :
    ∃ W : Nat → Nat → L2.St → Hp → Prop, (∃ m, W 0 m σ H) ∧ ∀ i m σ H, W i m σ H →
      ((Itc lo c n).stop i H ∧ D.nx σ H) ∨ ((Itc lo c n).go i H ∧ ∃ N : L2.St → Hp → Prop, (∀ σ' H', N σ' H' → ∃ m', m' < m ∧ W (i + 1) m' σ' H') ∧ ∀ x H', (Itc lo c n).yld i H x H' → g x σ H' fun σ2 H2 => tb { D with nx := N, ct := N, bk := D.nx } σ2 H2) := by
  refine ⟨fun i m σ H => m = n - i ∧ i ≤ n ∧ Pv i σ H, ⟨n, by simp, Nat.zero_le _, h0⟩, ?_⟩
  rintro i m σ H ⟨rfl, hi, p⟩
  by_cases hlt : i < n
  · refine .inr ⟨hlt, Pv (i + 1), fun σ' H' p' => ⟨n - (i + 1), by omega, rfl, hlt, p'⟩, fun x H' y => ?_⟩
    obtain ⟨e, y⟩ := y
    subst e y
    exact hs i σ _ hlt p
  · have e : i = n := by omega
    subst e
    exact .inl ⟨Nat.le_refl _, hd σ H p⟩
theorem zq_forRR {tu : TS} {j : Nat} {n : Int} (s : Sg K Mc He H is ms) (h : Hv K (muA ms ++ Mc) te σ H n) (hn : 0 ≤ n ∧ n ≤ 100000) (Pv : Nat → L2.St → Hp → Prop) (h0 : ∀ H1, Sg K Mc He H1 is ms → Pv 0 σ H1)
    (hs : ∀ (i : Nat) (x : Int) σ' H', x = n - 1 - ((0 : Int) + (i : Int)) → i < n.toNat → Pv i σ' H' → tu { D with nx := Pv (i + 1), ct := Pv (i + 1), bk := tz D } (σ'.set j (some (.int x))) H') (hd : ∀ σ' H', Pv n.toNat σ' H' → tz D σ' H') : tSeq (tFor (iRevR (tRg1 te)) (gName j) tu) tz D σ H :=
  h H (Ex.refl H) s.mok _ fun v H1 e d => by
    refine ⟨n, d.int, by omega, by omega, by omega, by omega, for_rangeC (D := { D with nx := tz D }) Pv (h0 H1 (s.ex e)) (fun i σ' H' hi p => ?_) (fun σ' H' p => hd σ' H' (by rw [Int.sub_zero] at p; exact p))⟩
    rw [Int.sub_zero] at hi
    have e0 : 0 + (((n - 0).toNat : Nat) : Int) - 1 + (i : Int) * -1 = n - 1 - ((0 : Int) + (i : Int)) := by omega
    show tu { D with nx := Pv (i + 1), ct := Pv (i + 1), bk := tz D } (σ'.set j (some (.int (0 + (((n - 0).toNat : Nat) : Int) - 1 + (i : Int) * -1)))) H'
    rw [e0]
    exact hs i _ σ' H' rfl (by omega) p
end
end Ly

namespace Ly
open PySem PySem.Spec PyProof.Rows L2 Evl
open PySem.W (Datum DatumOrd Tup T3 T4 minOf)
/-! ### the items of a text: tuples of several shapes -/
inductive Itm where
  | box (w n : Int) (g : List Int)
  | glue (w st sh : Int) (fr : Bool)
  | pen (c : Int)
  | hyp (w n c : Int)
  | forced
  | note (n : Int)
  | label (s : Str)
  | page (w n f : Int) (s : Str)
  deriving DecidableEq
def Itm.kind : Itm → Str
  | .box _ _ _ => Str.ofString "box"
  | .glue _ _ _ _ => Str.ofString "glue"
  | .pen _ => Str.ofString "penalty"
  | .hyp _ _ _ => Str.ofString "hyphen"
  | .forced => Str.ofString "forced"
  | .note _ => Str.ofString "note"
  | .label _ => Str.ofString "label"
  | .page _ _ _ _ => Str.ofString "page"
def Itm.tag : Itm → Nat
  | .box _ _ _ => 0
  | .glue _ _ _ _ => 1
  | .pen _ => 2
  | .hyp _ _ _ => 3
  | .forced => 4
  | .note _ => 5
  | .label _ => 6
  | .page _ _ _ _ => 7
def Itm.at1 : Itm → Int
  | .box w _ _ => w | .glue w _ _ _ => w | .pen c => c | .hyp w _ _ => w | .note n => n | .page w _ _ _ => w | _ => 0
def Itm.at2 : Itm → Int
  | .box _ n _ => n | .glue _ s _ _ => s | .hyp _ n _ => n | .page _ n _ _ => n | _ => 0
def Itm.at3 : Itm → Int
  | .glue _ _ s _ => s | .hyp _ _ c => c | .page _ _ f _ => f | _ => 0
def Itm.fr : Itm → Bool
  | .glue _ _ _ b => b | _ => false
def Itm.gl : Itm → Tup Int
  | .box _ _ g => ⟨g⟩ | _ => ⟨[]⟩
def Itm.lab : Itm → Str
  | .page _ _ _ s => s | _ => Str.ofString ""
def Itm.x : Itm → List Xd
  | .box w n g => [.str (Str.ofString "box"), .int w, .int n, .tuple (g.map .int)]
  | .glue w s h b => [.str (Str.ofString "glue"), .int w, .int s, .int h, .bool b]
  | .pen c => [.str (Str.ofString "penalty"), .int c]
  | .hyp w n c => [.str (Str.ofString "hyphen"), .int w, .int n, .int c]
  | .forced => [.str (Str.ofString "forced")]
  | .note n => [.str (Str.ofString "note"), .int n]
  | .label s => [.str (Str.ofString "label"), .str s]
  | .page w n f s => [.str (Str.ofString "page"), .int w, .int n, .int f, .str s]
instance : Dx Itm := ⟨fun i => .tuple i.x⟩
instance : SomeX Itm := ⟨fun _ e => by cases e⟩
theorem Itm.tag_le (i : Itm) : i.tag ≤ 7 := by cases i <;> simp only [Itm.tag] <;> decide
theorem kd_box (i : Itm) : (i.kind = Str.ofString "box") = (i.tag = 0) := by
  cases i <;> simp only [Itm.kind, Itm.tag] <;> exact propext ⟨fun h => by first | rfl | (revert h; decide +kernel), fun h => by first | rfl | (revert h; decide)⟩
theorem kd_glue (i : Itm) : (i.kind = Str.ofString "glue") = (i.tag = 1) := by
  cases i <;> simp only [Itm.kind, Itm.tag] <;> exact propext ⟨fun h => by first | rfl | (revert h; decide +kernel), fun h => by first | rfl | (revert h; decide)⟩
theorem kd_pen (i : Itm) : (i.kind = Str.ofString "penalty") = (i.tag = 2) := by
  cases i <;> simp only [Itm.kind, Itm.tag] <;> exact propext ⟨fun h => by first | rfl | (revert h; decide +kernel), fun h => by first | rfl | (revert h; decide)⟩
theorem kd_hyp (i : Itm) : (i.kind = Str.ofString "hyphen") = (i.tag = 3) := by
  cases i <;> simp only [Itm.kind, Itm.tag] <;> exact propext ⟨fun h => by first | rfl | (revert h; decide +kernel), fun h => by first | rfl | (revert h; decide)⟩
theorem kd_forced (i : Itm) : (i.kind = Str.ofString "forced") = (i.tag = 4) := by
  cases i <;> simp only [Itm.kind, Itm.tag] <;> exact propext ⟨fun h => by first | rfl | (revert h; decide +kernel), fun h => by first | rfl | (revert h; decide)⟩
theorem kd_note (i : Itm) : (i.kind = Str.ofString "note") = (i.tag = 5) := by
  cases i <;> simp only [Itm.kind, Itm.tag] <;> exact propext ⟨fun h => by first | rfl | (revert h; decide +kernel), fun h => by first | rfl | (revert h; decide)⟩
theorem kd_label (i : Itm) : (i.kind = Str.ofString "label") = (i.tag = 6) := by
  cases i <;> simp only [Itm.kind, Itm.tag] <;> exact propext ⟨fun h => by first | rfl | (revert h; decide +kernel), fun h => by first | rfl | (revert h; decide)⟩
theorem kd_page (i : Itm) : (i.kind = Str.ofString "page") = (i.tag = 7) := by
  cases i <;> simp only [Itm.kind, Itm.tag] <;> exact propext ⟨fun h => by first | rfl | (revert h; decide +kernel), fun h => by first | rfl | (revert h; decide)⟩
section
variable {K : PySem.W.Frag} {Mc M : List Addr} {He H H1 : Hp} {is : Ims} {ms : Mus} {σ : L2.St} {te ta tb : TE} {tz : TS} {D : Ends} {i : Itm}
variable {α β γ δ : Type} [DecidableEq α] [Dx α] [DecidableEq β] [Dx β]
theorem hv_tupX {ds : List Xd} {tr : TA} (y : α) (h : HD K M tr σ H ds) (hl : ds.length ≤ 100000) (e : Dx.toX y = .tuple ds) : Hv K M (tTup tr) σ H y := fun H1 e1 m Q q =>
  h H1 e1 m _ fun vs H2 e2 d => ⟨sz_of (by rw [dpa_len d]; exact hl), fun p hp => by
    have e3 : Ex H2 (upd H2 p (.tup vs)) := Ex.new hp
    refine q _ _ (e2.trans e3) ?_
    show Xp _ _ _ (Dx.toX y)
    rw [e]
    exact .tup (SqT.of (msk_at (m.ex e2) hp)) (dpa_mono (msk_ex e3) d)⟩
theorem hv_atX {x : α} {ds : List Xd} {y : β} (k : Nat) (h : Hv K M te σ H x) (e : Dx.toX x = .tuple ds) (hd : ds[k]? = some (Dx.toX y)) : Hv K M (tOp (rIxT K) te (tC (.int (k : Int)))) σ H y := fun H1 e1 m Q q =>
  h H1 e1 m _ fun v H2 e2 d => by
    have d' : Xp K (msk M H2) v (.tuple ds) := by rw [← e]; exact d
    cases d' with
    | tup s a =>
      obtain ⟨w, h1, h2⟩ := dpa_at a hd
      exact ⟨_, _, (k : Int), w, rfl, rfl, ex_t msk_le s, at_of (j := k) rfl h1, q w H2 e2 h2⟩
theorem hv_it0 (h : Hv K M te σ H i) : Hv K M (tOp (rIxT K) te (tC (.int 0))) σ H i.kind := hv_atX 0 h rfl (by cases i <;> rfl)
theorem hv_it1 (h : Hv K M te σ H i) (s : i.tag ≠ 4 ∧ i.tag ≠ 6) : Hv K M (tOp (rIxT K) te (tC (.int 1))) σ H i.at1 := hv_atX 1 h rfl (by cases i <;> first | rfl | (exfalso; simp [Itm.tag] at s))
theorem hv_it2 (h : Hv K M te σ H i) (s : i.tag ≠ 2 ∧ i.tag ≠ 4 ∧ i.tag ≠ 5 ∧ i.tag ≠ 6) : Hv K M (tOp (rIxT K) te (tC (.int 2))) σ H i.at2 := hv_atX 2 h rfl (by cases i <;> first | rfl | (exfalso; simp [Itm.tag] at s))
theorem hv_it3 (h : Hv K M te σ H i) (s : i.tag = 1 ∨ i.tag = 3 ∨ i.tag = 7) : Hv K M (tOp (rIxT K) te (tC (.int 3))) σ H i.at3 := hv_atX 3 h rfl (by cases i <;> first | rfl | (exfalso; simp [Itm.tag] at s))
theorem hv_it4 (h : Hv K M te σ H i) (s : i.tag = 1) : Hv K M (tOp (rIxT K) te (tC (.int 4))) σ H i.fr := hv_atX 4 h rfl (by cases i <;> first | rfl | (exfalso; simp [Itm.tag] at s))
theorem hv_itg (h : Hv K M te σ H i) (s : i.tag = 0) : Hv K M (tOp (rIxT K) te (tC (.int 3))) σ H i.gl := hv_atX 3 h rfl (by cases i <;> first | rfl | (exfalso; simp [Itm.tag] at s))
theorem hv_itl (h : Hv K M te σ H i) (s : i.tag = 7) : Hv K M (tOp (rIxT K) te (tC (.int 4))) σ H i.lab := hv_atX 4 h rfl (by cases i <;> first | rfl | (exfalso; simp [Itm.tag] at s))
theorem hv_neB {i j : Bool} (ha : Hv K M ta σ H i) (hb : Hv K M tb σ H j) : Hv K M (tOp rNe ta tb) σ H (!decide (i = j)) := fun H1 e m Q q =>
  ha H1 e m _ fun v H2 e2 d => hb H2 (e.trans e2) (m.ex e2) _ fun u H3 e3 d' => by
    rw [d.bool, d'.bool]
    exact ⟨rfl, q _ H3 (e2.trans e3) (by rw [show decide (V.bl i = V.bl j) = decide (i = j) from decide_eq_decide.mpr ⟨V.bl.inj, fun z => by rw [z]⟩]; exact Dt.ofBool _)⟩
/-- a tuple of texts of the module -/
theorem hv_gtup {a : Addr} {xs : List Str} (h : ∀ H, SqT K H a (xs.map V.str)) : Hv K M (tC (.ref a)) σ H (Tup.mk xs) := fun H1 e1 m Q q => by
  refine q _ H1 (Ex.refl _) (Dt.ofTupv (h _) ?_)
  have key : ∀ (ys : List Str) (H : Hp), Dts K H (ys.map V.str) ys := by
    intro ys
    induction ys with
    | nil => intro H; exact Dts.nil
    | cons y ys ih => intro H; exact Dts.cons (Dt.ofStr y) (ih H)
  exact key xs _
end
theorem of_or {a b : Bool} (h : (a || b) = true) : a = true ∨ b = true := by simpa using h
end Ly

namespace Ly
open PySem PySem.Spec PyProof.Rows L2 Evl
open PySem.W (Datum DatumOrd Tup T3 T4 minOf)
/-! ### loops as tables and searches -/
theorem foldl_seq {α S : Type} {f : S → α → S} (xs : List α) (st : Nat → S) (h : ∀ i x, xs[i]? = some x → f (st i) x = st (i + 1)) : xs.foldl f (st 0) = st xs.length := by
  induction xs generalizing st with
  | nil => rfl
  | cons x xs ih =>
    rw [List.foldl_cons, h 0 x rfl]
    rw [ih (fun i => st (i + 1)) (fun i y hy => h (i + 1) y (by simpa using hy))]
    rfl
theorem snoc_at {α : Type} {st : Nat → List α} {w : Nat → α} (h0 : st 0 = [w 0]) (h : ∀ i, st (i + 1) = st i ++ [w (i + 1)]) : ∀ n, st n = (List.range (n + 1)).map w
  | 0 => by rw [h0]; rfl
  | n + 1 => by rw [h, snoc_at h0 h n, List.range_succ (n := n + 1), List.map_append]; rfl
theorem tab_len {α : Type} (w : Nat → α) (n : Nat) : ((List.range n).map w).length = n := by rw [List.length_map, List.length_range]
theorem tab_at {α : Type} (w : Nat → α) {n j : Nat} (d : α) (h : j < n) : ((List.range n).map w).getD j d = w j := by
  rw [List.getD_eq_getElem?_getD, List.getElem?_map, List.getElem?_range h]; rfl
theorem tab_last {α : Type} (w : Nat → α) (n : Nat) (d : α) : ((List.range (n + 1)).map w).getD (((List.range (n + 1)).map w).length - 1) d = w n := by
  rw [tab_len, Nat.add_sub_cancel, tab_at w d (Nat.lt_succ_self n)]
theorem tab_snoc {α : Type} (w : Nat → α) (n : Nat) : (List.range (n + 1)).map w ++ [w (n + 1)] = (List.range (n + 1 + 1)).map w := by
  rw [List.range_succ (n := n + 1), List.map_append]; rfl
theorem tab_rev {α : Type} (w : Nat → α) {n j : Nat} (d : α) (h : j ≤ n) : (((List.range (n + 1)).map w).reverse).getD j d = w (n - j) := by
  rw [List.getD_eq_getElem?_getD, List.getElem?_reverse (by rw [tab_len]; omega), tab_len, ← List.getD_eq_getElem?_getD, tab_at w d (by omega), show n + 1 - 1 - j = n - j by omega]
theorem loopNR_all' {ρ S : Type} {f : S → Int → Lp ρ S} {s : S} : ∀ (n : Nat) (lo : Int), (∀ i : Nat, i < n → f s (lo + (i : Int)) = .nxt s) → loopNR f n lo s = .inr s
  | 0, lo, _ => rfl
  | n + 1, lo, h => by
    have h0 := h 0 (Nat.succ_pos n)
    rw [show lo + ((0 : Nat) : Int) = lo by omega] at h0
    rw [loopNR]
    rw [h0]
    exact loopNR_all' n (lo + 1) fun i hi => by rw [show lo + 1 + (i : Int) = lo + ((i + 1 : Nat) : Int) by omega]; exact h (i + 1) (by omega)
/-- a search over numbers: the first that ends it -/
theorem loopNR_any {ρ S : Type} {f : S → Int → Lp ρ S} {s : S} {r : ρ} : ∀ (n : Nat) (lo : Int), (∀ i : Nat, i < n → f s (lo + (i : Int)) = .nxt s ∨ f s (lo + (i : Int)) = .ret r) → (∃ i : Nat, i < n ∧ f s (lo + (i : Int)) = .ret r) → loopNR f n lo s = .inl r
  | 0, lo, _, ⟨i, hi, _⟩ => absurd hi (Nat.not_lt_zero i)
  | n + 1, lo, h, ⟨i, hi, e⟩ => by
    have h0 := h 0 (Nat.succ_pos n)
    rw [show lo + ((0 : Nat) : Int) = lo by omega] at h0
    rw [loopNR]
    rcases h0 with h0 | h0
    · rw [h0]
      cases i with
      | zero => rw [show lo + ((0 : Nat) : Int) = lo by omega, h0] at e; cases e
      | succ i =>
        exact loopNR_any n (lo + 1) (fun j hj => by rw [show lo + 1 + (j : Int) = lo + ((j + 1 : Nat) : Int) by omega]; exact h (j + 1) (by omega)) ⟨i, by omega, by rw [show lo + 1 + (i : Int) = lo + ((i + 1 : Nat) : Int) by omega]; exact e⟩
    · rw [h0]
theorem loopL_all' {α ρ S : Type} {f : S → α → Lp ρ S} {s : S} : ∀ (xs : List α), (∀ x ∈ xs, f s x = .nxt s) → loopL f xs s = .inr s
  | [], _ => rfl
  | x :: xs, h => by
    rw [loopL]
    rw [h x List.mem_cons_self]
    exact loopL_all' xs fun y hy => h y (List.mem_cons_of_mem _ hy)
theorem loopL_any {α ρ S : Type} {f : S → α → Lp ρ S} {s : S} {r : ρ} : ∀ (xs : List α), (∀ x ∈ xs, f s x = .nxt s ∨ f s x = .ret r) → (∃ x ∈ xs, f s x = .ret r) → loopL f xs s = .inl r
  | [], _, ⟨_, h, _⟩ => by cases h
  | x :: xs, h, ⟨y, hy, e⟩ => by
    rw [loopL]
    rcases h x List.mem_cons_self with h0 | h0
    · rw [h0]
      rcases List.mem_cons.mp hy with rfl | hy
      · rw [h0] at e; cases e
      · exact loopL_any xs (fun z hz => h z (List.mem_cons_of_mem _ hz)) ⟨y, hy, e⟩
    · rw [h0]
theorem getD_get {α : Type} {xs : List α} {i : Nat} (d : α) (h : i < xs.length) : xs[i]? = some (xs.getD i d) := by
  rw [List.getD_eq_getElem?_getD, List.getElem?_eq_getElem h]; rfl
theorem getD_map {α β : Type} {xs : List α} {i : Nat} (f : α → β) (d : α) (e : β) (h : i < xs.length) : (xs.map f).getD i e = f (xs.getD i d) := by
  rw [List.getD_eq_getElem?_getD, List.getElem?_map, getD_get d h]; rfl
theorem irng_getD {lo : Int} {n i : Nat} (d : Int) (h : i < n) : (irng lo n).getD i d = lo + (i : Int) := by
  rw [List.getD_eq_getElem?_getD, irng_get h]; rfl
/-- what a part of a list has -/
theorem cut_any {xs : List α} {P : α → Bool} {a b : Nat} (d : α) (h : a ≤ b) (hb : b ≤ xs.length) : (cutL xs (some (a : Int)) (some (b : Int))).any P = true ↔ ∃ i, a ≤ i ∧ i < b ∧ P (xs.getD i d) = true := by
  rw [cutL_in, Nat.min_eq_left (Nat.le_trans h hb), Nat.min_eq_left hb, List.any_eq_true]
  constructor
  · rintro ⟨x, hx, p⟩
    obtain ⟨k, hk⟩ := List.getElem?_of_mem hx
    rw [List.getElem?_take] at hk
    split at hk
    · rw [List.getElem?_drop] at hk
      refine ⟨a + k, by omega, by omega, ?_⟩
      rw [List.getD_eq_getElem?_getD, hk]
      exact p
    · cases hk
  · rintro ⟨i, h1, h2, p⟩
    refine ⟨xs.getD i d, ?_, p⟩
    refine List.mem_of_getElem? (i := i - a) ?_
    rw [List.getElem?_take, if_pos (by omega), List.getElem?_drop, show a + (i - a) = i by omega]
    exact getD_get d (by omega)
/-! ### the first from a place on -/
def wv (marks : List Bool) (b : Int) : Nat → Int
  | 0 => b
  | k + 1 => if marks.getD (marks.length - (k + 1)) false = true then ((marks.length - (k + 1) : Nat) : Int) else wv marks b k
/-- v is the first place from j on with a mark, or b -/
def First (marks : List Bool) (b : Int) (j : Nat) (v : Int) : Prop :=
  (v = b ∧ ∀ i, j ≤ i → i < marks.length → marks.getD i false = false) ∨ (∃ i : Nat, v = (i : Int) ∧ j ≤ i ∧ i < marks.length ∧ marks.getD i false = true ∧ ∀ i', j ≤ i' → i' < i → marks.getD i' false = false)
theorem wv_first (marks : List Bool) (b : Int) : ∀ k, k ≤ marks.length → First marks b (marks.length - k) (wv marks b k)
  | 0, _ => .inl ⟨rfl, fun i h1 h2 => by omega⟩
  | k + 1, h => by
    unfold wv
    by_cases q : marks.getD (marks.length - (k + 1)) false = true
    · rw [if_pos q]
      exact .inr ⟨_, rfl, Nat.le_refl _, by omega, q, fun i' h1 h2 => by omega⟩
    · rw [if_neg q]
      have q' : marks.getD (marks.length - (k + 1)) false = false := by simpa using q
      have step : ∀ i, marks.length - (k + 1) ≤ i → i = marks.length - (k + 1) ∨ marks.length - k ≤ i := fun i h => by omega
      rcases wv_first marks b k (by omega) with ⟨e, h1⟩ | ⟨i, e, h1, h2, h3, h4⟩
      · refine .inl ⟨e, fun i a c => ?_⟩
        rcases step i a with rfl | z
        · exact q'
        · exact h1 i z c
      · refine .inr ⟨i, e, by omega, h2, h3, fun i' a c => ?_⟩
        rcases step i' a with rfl | z
        · exact q'
        · exact h4 i' z c
/-- the place behind the last one before j with a mark, or 0 -/
def kb (marks : Nat → Bool) : Nat → Int
  | 0 => 0
  | j + 1 => if marks j = true then ((j : Nat) : Int) + 1 else kb marks j
def Last (marks : Nat → Bool) (j : Nat) (v : Int) : Prop :=
  (v = 0 ∧ ∀ i, i < j → marks i = false) ∨ (∃ i : Nat, v = (i : Int) + 1 ∧ i < j ∧ marks i = true ∧ ∀ i', i < i' → i' < j → marks i' = false)
theorem kb_last (marks : Nat → Bool) : ∀ j, Last marks j (kb marks j)
  | 0 => .inl ⟨rfl, fun i h => absurd h (Nat.not_lt_zero i)⟩
  | j + 1 => by
    unfold kb
    by_cases q : marks j = true
    · rw [if_pos q]
      exact .inr ⟨j, rfl, Nat.lt_succ_self j, q, fun i' h1 h2 => by omega⟩
    · rw [if_neg q]
      have q' : marks j = false := by simpa using q
      rcases kb_last marks j with ⟨e, h1⟩ | ⟨i, e, h1, h2, h3⟩
      · refine .inl ⟨e, fun i a => ?_⟩
        rcases Nat.lt_succ_iff_lt_or_eq.mp a with z | rfl
        · exact h1 i z
        · exact q'
      · refine .inr ⟨i, e, by omega, h2, fun i' a c => ?_⟩
        rcases Nat.lt_succ_iff_lt_or_eq.mp c with z | rfl
        · exact h3 i' a z
        · exact q'
end Ly

namespace Ly
open PySem PySem.Spec PyProof.Rows L2 Evl
open PySem.W (Datum DatumOrd Tup T3 T4 minOf)
/-! ### items are data: == -/
def Itm.d : Itm → List PyData
  | .box w n g => [.str (Str.ofString "box"), .int w, .int n, .tuple (g.map .int)]
  | .glue w s h b => [.str (Str.ofString "glue"), .int w, .int s, .int h, .bool b]
  | .pen c => [.str (Str.ofString "penalty"), .int c]
  | .hyp w n c => [.str (Str.ofString "hyphen"), .int w, .int n, .int c]
  | .forced => [.str (Str.ofString "forced")]
  | .note n => [.str (Str.ofString "note"), .int n]
  | .label s => [.str (Str.ofString "label"), .str s]
  | .page w n f s => [.str (Str.ofString "page"), .int w, .int n, .int f, .str s]
theorem Itm.d_kind (i : Itm) : ∃ r, i.d = .str i.kind :: r := by cases i <;> exact ⟨_, rfl⟩
theorem kind_tag {i j : Itm} (h : i.kind = j.kind) : i.tag = j.tag := by
  have k0 := kd_box i; have k1 := kd_glue i; have k2 := kd_pen i; have k3 := kd_hyp i; have k4 := kd_forced i; have k5 := kd_note i; have k6 := kd_label i; have k7 := kd_page i
  rw [h] at k0 k1 k2 k3 k4 k5 k6 k7
  rw [kd_box] at k0
  rw [kd_glue] at k1
  rw [kd_pen] at k2
  rw [kd_hyp] at k3
  rw [kd_forced] at k4
  rw [kd_note] at k5
  rw [kd_label] at k6
  rw [kd_page] at k7
  have t1 := Itm.tag_le i
  have t2 := Itm.tag_le j
  have e0 := k0.to_iff; have e1 := k1.to_iff; have e2 := k2.to_iff; have e3 := k3.to_iff; have e4 := k4.to_iff; have e5 := k5.to_iff; have e6 := k6.to_iff; have e7 := k7.to_iff
  omega
theorem eqvI (a b : Int) : PyData.eqv (.int a) (.int b) = decide (a = b) := Datum.eqv (α := Int) a b
theorem eqvS (a b : Str) : PyData.eqv (.str a) (.str b) = decide (a = b) := Datum.eqv (α := Str) a b
theorem eqvB (a b : Bool) : PyData.eqv (.bool a) (.bool b) = decide (a = b) := Datum.eqv (α := Bool) a b
theorem eqvG (a b : List Int) : PyData.eqv (.tuple (a.map .int)) (.tuple (b.map .int)) = decide (a = b) := by
  have := Datum.eqv (α := Tup Int) ⟨a⟩ ⟨b⟩
  refine Eq.trans this (decide_eq_decide.mpr ⟨fun e => by cases e; rfl, fun e => by rw [e]⟩)
theorem Itm.eqv (a b : Itm) : PyData.eqvAll a.d b.d = decide (a = b) := by
  by_cases h : a.kind = b.kind
  · have ht := kind_tag h
    cases a <;> cases b <;> first | (exfalso; simp [Itm.tag] at ht; done) | (simp only [Itm.d, PyData.eqvAll, eqvI, eqvS, eqvB, eqvG]; simp [Bool.and_assoc])
  · obtain ⟨r, e⟩ := a.d_kind
    obtain ⟨r', e'⟩ := b.d_kind
    rw [e, e', PyData.eqvAll, eqvS, decide_eq_false h, Bool.false_and]
    exact (decide_eq_false fun z => h (by rw [z])).symm
instance : Datum Itm where
  toD i := .tuple i.d
  plain i := by
    have hg : ∀ g : List Int, PyData.plain (.tuple (g.map .int)) = true := fun g => Datum.plain (α := Tup Int) ⟨g⟩
    cases i <;> simp only [Itm.d, PyData.plain, PyData.plainAll, Bool.and_self, Bool.and_true, Bool.true_and]
    rename_i w n g
    have := hg g
    simpa only [PyData.plain] using this
  eqv a b := by simp only [PyData.eqv]; exact Itm.eqv a b
  depth := 2
  depth_le i := by
    have hg : ∀ g : List Int, PyData.depth (.tuple (g.map .int)) ≤ 1 := fun g => Datum.depth_le (α := Tup Int) ⟨g⟩
    cases i <;> simp only [Itm.d, PyData.depth, PyData.depthAll] <;> try (first | decide | omega)
    rename_i w n g
    have := hg g
    simp only [PyData.depth] at this
    omega
theorem ints_link {K : PySem.W.Frag} {H : Hp} : ∀ {g : List Int} {vs : List V}, XpAll K H vs (g.map Xd.int) → DpAll K H vs (g.map PyData.int)
  | [], _, h => by cases h; exact .nil
  | x :: xs, _, h => by
    cases h with
    | cons a b => cases a; exact .cons (.int _) (ints_link b)
instance : DxD Itm := ⟨fun {K H v i} h => by
  cases h with
  | tup s a =>
    refine .tup s ?_
    cases i with
    | box w n g =>
      cases a with | cons a1 a => cases a with | cons a2 a => cases a with | cons a3 a => cases a with | cons a4 a =>
      cases a
      cases a1; cases a2; cases a3
      cases a4 with | tup s2 b => exact .cons (.str _) (.cons (.int _) (.cons (.int _) (.cons (.tup s2 (ints_link b)) .nil)))
    | glue w s h b =>
      cases a with | cons a1 a => cases a with | cons a2 a => cases a with | cons a3 a => cases a with | cons a4 a => cases a with | cons a5 a =>
      cases a
      cases a1; cases a2; cases a3; cases a4; cases a5
      exact .cons (.str _) (.cons (.int _) (.cons (.int _) (.cons (.int _) (.cons (.bl _) .nil))))
    | pen c =>
      cases a with | cons a1 a => cases a with | cons a2 a =>
      cases a
      cases a1; cases a2
      exact .cons (.str _) (.cons (.int _) .nil)
    | hyp w n c =>
      cases a with | cons a1 a => cases a with | cons a2 a => cases a with | cons a3 a => cases a with | cons a4 a =>
      cases a
      cases a1; cases a2; cases a3; cases a4
      exact .cons (.str _) (.cons (.int _) (.cons (.int _) (.cons (.int _) .nil)))
    | forced =>
      cases a with | cons a1 a =>
      cases a
      cases a1
      exact .cons (.str _) .nil
    | note n =>
      cases a with | cons a1 a => cases a with | cons a2 a =>
      cases a
      cases a1; cases a2
      exact .cons (.str _) (.cons (.int _) .nil)
    | label s =>
      cases a with | cons a1 a => cases a with | cons a2 a =>
      cases a
      cases a1; cases a2
      exact .cons (.str _) (.cons (.str _) .nil)
    | page w n f s =>
      cases a with | cons a1 a => cases a with | cons a2 a => cases a with | cons a3 a => cases a with | cons a4 a => cases a with | cons a5 a =>
      cases a
      cases a1; cases a2; cases a3; cases a4; cases a5
      exact .cons (.str _) (.cons (.int _) (.cons (.int _) (.cons (.int _) (.cons (.str _) .nil))))⟩
end Ly
namespace Ly
theorem loopN_ind {S : Type} {f : S → Int → S} (P : Nat → S → Prop) (lo : Int) (n : Nat) (s0 : S) (h0 : P 0 s0) (h : ∀ i s, i < n → P i s → P (i + 1) (f s (lo + (i : Int)))) : P n (loopN f n lo s0) := by
  have key : ∀ m i s, i + m = n → P i s → P n (loopN f m (lo + (i : Int)) s) := by
    intro m
    induction m with
    | zero => intro i s e p; have : i = n := by omega
              subst this; exact p
    | succ m ih =>
      intro i s e p
      rw [loopN, show lo + (i : Int) + 1 = lo + ((i + 1 : Nat) : Int) by omega]
      exact ih (i + 1) _ (by omega) (h i s (by omega) p)
  have := key n 0 s0 (by omega) h0
  rwa [show lo + ((0 : Nat) : Int) = lo by omega] at this
theorem sum_cut (xs : List Int) {a b : Nat} (h : a ≤ b) : (xs.take b).sum - (xs.take a).sum = ((xs.drop a).take (b - a)).sum := by
  have e : xs.take b = xs.take a ++ (xs.drop a).take (b - a) := by
    rw [show b = a + (b - a) by omega, List.take_add, show a + (b - a) - a = b - a by omega]
  rw [e, List.sum_append]
  omega
theorem cutL_dt {α : Type} {xs : List α} {a b : Nat} (h : a ≤ b) (hb : b ≤ xs.length) : cutL xs (some (a : Int)) (some (b : Int)) = (xs.drop a).take (b - a) := by
  rw [cutL_in, Nat.min_eq_left (Nat.le_trans h hb), Nat.min_eq_left hb]
end Ly

namespace Ly
open PySem PySem.Spec PyProof.Rows L2 Evl
open PySem.W (Datum DatumOrd Tup T3 T4 minOf)
section
variable {K : PySem.W.Frag} {Mc M : List Addr} {He H H1 : Hp} {is : Ims} {ms : Mus} {σ : L2.St} {te ta tb : TE} {tz : TS} {D : Ends}
variable {α β γ : Type} [DecidableEq α] [Dx α] [DecidableEq β] [Dx β]
/-- all parameters given by keywords -/
theorem kall {x qual : Str} {st : Stmt} {f : Addr} {fd : FuncData} {ps ks : List Str} (F : Fun K x qual st f fd) (n : Nat)
    (h : ∀ (kV doc pm : Value) (an : Option Addr) (cdv ct : Value) (us ws : List Value), us.length = n → ws.length = ks.length → bindArgs (PySem.W.fnOf x qual (defArgs st) (defBody st) (defScope st) .none kV doc pm an cdv ct) ⟨us, ks.zip ws⟩ = pure (ps.zip (us ++ ws))) :
    KBn K fd ps n ks (fun us ws => us ++ ws) (fun vs zs => vs ++ zs) := by
  obtain ⟨oc, od, kV, doc, pm, an, cdv, ct, osl, rfl, lk, hcd⟩ := F.ex
  exact ⟨fun s us ws _ l1 l2 => .of_eq (h kV doc pm an cdv ct us ws l1 l2), fun r1 r2 => r1.append r2⟩
/-- C(k = v, ..) -/
theorem hv_makeK {args : γ → List Xd} {pre : γ → Prop} {F : γ → β} {tr : TA} {E : XK} {cn : Str} {C : Addr} {n : Nat} (c : γ) (t : Ct K cn C) (h : HD K M tr σ H (args c)) (hn : (args c).length = n) (p : pre c) :
    Hv K M (tMakeK C 0 n (PrI K cn args pre F) (fun vs zs => vs ++ zs) E tNil tr) σ H (F c) := fun H1 e1 mk Q q =>
  h H1 e1 mk _ fun vs H2 e2 ds => ⟨rfl, by rw [dpa_len ds]; exact hn, fun x dx hx hdx ne => by
    have m2 := mk.ex e2
    have hx2 : upd H2 dx (.own x) x = none := by rw [upd_ne (fun z => ne z.symm)]; exact hx
    have ea : Ex H2 (upd H2 dx (.own x)) := Ex.new hdx
    have eb : Ex (upd H2 dx (.own x)) (upd (upd H2 dx (.own x)) x (.ins C dx [])) := Ex.new hx2
    have hxM : x ∉ M := fun z => m2 x z hx
    refine ⟨M, x, C, dx, vs, c, rfl, ?_, hxM, t.ns, upd_same, ?_, p, fun H' e' d => ⟨rfl, q _ _ ?_ d⟩⟩
    · intro l hl
      rcases List.mem_cons.mp hl with rfl | hl
      · rw [upd_same]; exact fun z => nomatch z
      · exact ((m2.ex ea).ex eb) l hl
    · exact dpa_mono ((msk_ex ea).trans (msk_new hx2)) ds
    · refine e2.trans fun a o ho => e' a o ?_
      have na : a ≠ x := fun z => by rw [z, hx] at ho; cases ho
      rw [msk_out (by simpa using na)]
      exact eb a o (ea a o ho)⟩
/-- lists of several kinds, written or read by place -/
theorem hv_lstX {ds : List Xd} {tr : TA} (y : α) (h : HD K M tr σ H ds) (hl : ds.length ≤ 100000) (e : Dx.toX y = .list ds) : Hv K M (tLst tr) σ H y := fun H1 e1 m Q q =>
  h H1 e1 m _ fun vs H2 e2 d => ⟨sz_of (by rw [dpa_len d]; exact hl), fun p hp => by
    have e3 : Ex H2 (upd H2 p (.lst vs)) := Ex.new hp
    refine q _ _ (e2.trans e3) ?_
    show Xp _ _ _ (Dx.toX y)
    rw [e]
    exact .lst (SqL.of (msk_at (m.ex e2) hp)) (dpa_mono (msk_ex e3) d)⟩
theorem hv_atL {x : α} {ds : List Xd} {i : Int} (y : β) (h : Hv K M te σ H x) (hb : Hv K M tb σ H i) (e : Dx.toX x = .list ds) (h0 : 0 ≤ i) (hd : ds[i.toNat]? = some (Dx.toX y)) : Hv K M (tOp (rIxL K) te tb) σ H y := fun H1 e1 m Q q =>
  h H1 e1 m _ fun v H2 e2 d => hb H2 (e1.trans e2) (m.ex e2) _ fun u H3 e3 d3 => by
    have d' : Xp K (msk M H2) v (.list ds) := by rw [← e]; exact d
    cases d' with
    | lst s a =>
      obtain ⟨w, h1, h2⟩ := dpa_at a hd
      exact ⟨_, _, i, w, rfl, d3.int, ex_l (msk_le.trans e3) s, at_of (Int.toNat_of_nonneg h0).symm h1, q w H3 (e2.trans e3) (Dt.mono (msk_ex e3) h2)⟩
/-- the numbers of a style: [width, first, rest, justify, tolerance, rag] -/
structure Lv where
  w : Int
  f : Int
  r : Int
  j : Bool
  t : Int
  g : Int
  deriving DecidableEq
instance : Dx Lv := ⟨fun v => .list [.int v.w, .int v.f, .int v.r, .bool v.j, .int v.t, .int v.g]⟩
theorem hv_intB {b : Bool} (ha : Hv K M ta σ H b) : Hv K M (tCB (fun xs H Q => (∃ i, xs = [.int i] ∧ Q (.int i) H) ∨ ∃ k, xs = [.bl k] ∧ Q (.int (if k then 1 else 0)) H) (tCons ta tNil)) σ H (if b = true then (1 : Int) else 0) := fun H1 e m Q q =>
  ha H1 e m _ fun v H2 e2 d => .inr ⟨b, by rw [d.bool], q _ H2 e2 (Dt.ofInt _)⟩
theorem hv_abs {i : Int} (ha : Hv K M ta σ H i) : Hv K M (tCB (fun xs H Q => ∃ i, xs = [.int i] ∧ Q (.int (if i < 0 then -i else i)) H) (tCons ta tNil)) σ H (if i < 0 then -i else i) := fun H1 e m Q q =>
  ha H1 e m _ fun v H2 e2 d => ⟨i, by rw [d.int], q _ H2 e2 (Dt.ofInt _)⟩
end
theorem cube_div {i m : Int} (h0 : 0 < m) (h1 : m ≤ 1000000000000) : CDivW i (m * m * m) := by
  have a : 0 < m * m := Int.mul_pos h0 h0
  have b : m * m ≤ 1000000000000 * 1000000000000 := Int.mul_le_mul h1 h1 (by omega) (by omega)
  have c : 0 < m * m * m := Int.mul_pos a h0
  have d : m * m * m ≤ 1000000000000 * 1000000000000 * 1000000000000 := Int.mul_le_mul b h1 (by omega) (by omega)
  refine wide_div (b := 128) c ?_ (by decide) (by decide)
  have e : (1000000000000 * 1000000000000 * 1000000000000 : Int) < 2 ^ 128 := by decide
  omega
end Ly

namespace Ly
open PySem PySem.Spec PyProof.Rows L2 Evl
open PySem.W (Datum DatumOrd Tup T3 T4 minOf)
/-! ### a new list of several kinds, handed out by a def, then changed -/
section
variable {K : PySem.W.Frag} {Mc M : List Addr} {He H H1 : Hp} {is : Ims} {ms : Mus} {σ : L2.St} {te ta tb : TE} {tz : TS} {D : Ends}
variable {α β γ : Type} [DecidableEq α] [Dx α] [DecidableEq β] [Dx β]
def HFx (K : PySem.W.Frag) (M : List Addr) (te : TE) (σ : L2.St) (H : Hp) (ds : List Xd) : Prop :=
  ∀ H1, Ex H H1 → MOk M H1 → ∀ Q : VK, (∀ p vs H3, H1 p = none → Ex H1 H3 → H3 p = some (.lst vs) → XpAll K (msk (p :: M) H3) vs ds → Q (.ref p) H3) → te σ H1 Q
def PrF (K : PySem.W.Frag) (args : γ → List Xd) (pre : γ → Prop) (F : γ → List Xd) : Sp := fun vs H Q _ => ∃ (Mc : List Addr) (c : γ), MOk Mc H ∧ XpAll K (msk Mc H) vs (args c) ∧ pre c ∧
  ∀ p us H', H p = none → Ex H H' → H' p = some (.lst us) → XpAll K (msk (p :: Mc) H') us (F c) → Q (.ref p) H'
theorem hf_callX {args : γ → List Xd} {pre : γ → Prop} {F : γ → List Xd} {tr : TA} {E : XK} (c : γ) (h : HD K M tr σ H (args c)) (p : pre c) : HFx K M (tCall (PrF K args pre F) [] E tr) σ H (F c) := fun H1 e m Q q =>
  h H1 e m _ fun vs H2 e2 ds => ⟨M, c, m.ex e2, by rw [List.append_nil]; exact ds, p, fun a us H3 n e3 h3 d => q a us H3 (fresh_back e2 n) (e2.trans e3) h3 d⟩
theorem hf_lstX {ds : List Xd} {tr : TA} (h : HD K M tr σ H ds) (hl : ds.length ≤ 100000) : HFx K M (tLst tr) σ H ds := fun H1 e1 m Q q =>
  h H1 e1 m _ fun vs H2 e2 d => ⟨sz_of (by rw [dpa_len d]; exact hl), fun p hp => q p vs _ (fresh_back e2 hp) (e2.trans (Ex.new hp)) upd_same (dpa_mono (msk_new hp) d)⟩
theorem Sg.newX (s : Sg K Mc He H is ms) {p : Addr} {vs : List V} {ds : List Xd} (n : H p = none) (e : Ex H H1) (h : H1 p = some (.lst vs)) (d : XpAll K (msk (p :: (muA ms ++ Mc)) H1) vs ds) : Sg K Mc He H1 is ((p, .lst ds) :: ms) := by
  have np : p ∉ muA ms := fun z => s.mok p (List.mem_append_left _ z) n
  have q : ∀ M : List Addr, Ex (msk M H) (msk (p :: M) H1) := fun M a o ho => by
    by_cases z : a ∈ M
    · rw [msk_in z] at ho; cases ho
    · rw [msk_out z] at ho
      have na : a ≠ p := ne_of_none ho n
      rw [msk_out (by simp only [List.mem_cons, not_or]; exact ⟨na, z⟩)]
      exact e a o ho
  exact ⟨s.ext.trans (q _), s.okc, List.nodup_cons.mpr ⟨np, s.nd⟩, s.im.mono (q _), ⟨⟨_, h, vs, rfl, d⟩, s.mu.mono (q _) e⟩⟩
theorem z_freshX {i : Nat} {x : α} {g : α → List Xd} (s : Sg K Mc He H is ms) (h : HFx K (muA ms ++ Mc) te σ H (g x)) (k : ∀ y, y = x → ∀ p H1, Sg K Mc He H1 is ((p, .lst (g y)) :: ms) → tz D (σ.set i (some (.ref p))) H1) : tSeq (tAsg te (gName i)) tz D σ H :=
  h H (Ex.refl H) s.mok _ fun p vs H3 n e3 h3 d => k x rfl p H3 (s.newX n e3 h3 d)
theorem zq_retX {ds : List Xd} (s : Sg K Mc He H is ms) (h : HFx K (muA ms ++ Mc) te σ H ds) (k : ∀ p us H1, He p = none → Ex He H1 → H1 p = some (.lst us) → XpAll K (msk (p :: Mc) H1) us ds → D.rt (.ref p) H1) : tSeq (tRet te) tz D σ H :=
  h H (Ex.refl H) s.mok _ fun p us H1 n e h1 d => k p us H1 (fresh_back s.all n) (s.all.trans e) h1 (dpa_mono (msk_sub fun a ha => by
    rcases List.mem_cons.mp ha with rfl | ha
    · exact List.mem_cons_self
    · exact List.mem_cons_of_mem _ (List.mem_append_right _ ha)) d)
theorem Sg.lstX (s : Sg K Mc He H is ms) {k : Nat} {l : Addr} {ds : List Xd} (e : ms[k]? = some (l, .lst ds)) : ∃ vs, H l = some (.lst vs) ∧ XpAll K (msk (muA ms ++ Mc) H) vs ds := by
  obtain ⟨o, h1, vs, e1, h2⟩ := s.mu.get e
  subst e1
  exact ⟨vs, h1, h2⟩
theorem hv_atM {k i : Nat} {l : Addr} {ds : List Xd} {j : Int} (y : β) (s : Sg K Mc He H is ms) (e : ms[k]? = some (l, .lst ds)) (h : σ[i]? = some (some (.ref l))) (hb : Hv K (muA ms ++ Mc) tb σ H j) (h0 : 0 ≤ j) (hd : ds[j.toNat]? = some (Dx.toX y)) :
    Hv K (muA ms ++ Mc) (tOp (rIxL K) (tVar i) tb) σ H y := fun H1 e1 m Q q => ⟨_, h, hb H1 e1 m _ fun u H2 e2 d2 => by
    obtain ⟨vs, h1, h2⟩ := ((s.ex e1).ex e2).lstX e
    obtain ⟨w, w1, w2⟩ := dpa_at h2 hd
    exact ⟨l, vs, j, w, rfl, d2.int, SqL.of h1, at_of (Int.toNat_of_nonneg h0).symm w1, q w H2 e2 w2⟩⟩
theorem z_setX {kk : Nat} {l : Addr} {ds : List Xd} {x : α} {y' : β} {i : Int} (s : Sg K Mc He H is ms) (e : ms[kk]? = some (l, .lst ds)) (h : Hv K (muA ms ++ Mc) te σ H x) (ho : Ev ta σ H (.ref l)) (hi : Hv K (muA ms ++ Mc) tb σ H i) (h0 : 0 ≤ i) (h1 : i.toNat < ds.length)
    (g : β → List Xd) (hg : ds.set i.toNat (Dx.toX x) = g y')
    (k : ∀ y, y = y' → ∀ H1, Sg K Mc He H1 is (ms.set kk (l, .lst (g y))) → tz D σ H1) : tSeq (tAsg te (gSub ta tb rSetL)) tz D σ H :=
  h H (Ex.refl H) s.mok _ fun v H2 e2 d => ho H2 e2 _ fun H3 e3 => hi H3 (e2.trans e3) (s.mok.ex (e2.trans e3)) _ fun u H4 e4 d' => by
    have s4 := ((s.ex e2).ex e3).ex e4
    obtain ⟨vs, h3, h4⟩ := s4.lstX e
    have hn : i.toNat < vs.length := by rw [dpa_len h4]; exact h1
    refine ⟨l, vs, i, i.toNat, rfl, d'.int, h3, ?_, k _ rfl _ (s4.set e ⟨_, rfl, ?_⟩)⟩
    · have := ixN_nat hn
      rwa [Int.toNat_of_nonneg h0] at this
    · rw [← hg]
      exact dpa_set h4 (dp_mono (msk_ex (e3.trans e4)) d)
theorem Sg.frzX {l : Addr} {ds : List Xd} (x : α) (hx : Dx.toX x = .list ds) (s : Sg K Mc He H is ((l, .lst ds) :: ms)) : Sg K Mc He H ((.ref l, Dx.toX x) :: is) ms := by
  have sub : Ex (msk (muA ((l, Mv.lst ds) :: ms) ++ Mc) H) (msk (muA ms ++ Mc) H) := msk_sub fun a ha => List.mem_cons_of_mem _ ha
  have nd := List.nodup_cons.mp s.nd
  obtain ⟨⟨o, h1, vs, e, h2⟩, h3⟩ := s.mu
  subst e
  have nl : l ∉ muA ms ++ Mc := fun z => (List.mem_append.mp z).elim nd.1 (s.notc List.mem_cons_self)
  refine ⟨s.ext.trans (msk_sub fun a ha => List.mem_cons_of_mem _ ha), s.okc, nd.2, ⟨?_, s.im.mono sub⟩, h3.mono sub (Ex.refl H)⟩
  show Xp K _ (.ref l) (Dx.toX x)
  rw [hx]
  exact .lst (SqL.of (by rw [msk_out nl]; exact h1)) (dpa_mono sub h2)
theorem cutL_len {ε : Type} (xs : List ε) (a b : Option Int) : (cutL xs a b).length ≤ xs.length := by
  unfold cutL; rw [List.length_take, List.length_drop]; omega
/-- what a list of a style's numbers holds -/
def Lv.ds (v : Lv) : List Xd := [.int v.w, .int v.f, .int v.r, .bool v.j, .int v.t, .int v.g]
end
end Ly

namespace Ly
open PySem PySem.Spec PyProof.Rows L2 Evl
open PySem.W (Datum DatumOrd Tup T3 T4 minOf)
/-! ### zip of a tuple and a list -/
def ItzM (K : PySem.W.Frag) (a b : Addr) : L2.It where
  go i H := ∃ (us vs : List V) (u v : V), (SqT K H a us ∧ us[i]? = some u) ∧ SqL K H b vs ∧ vs[i]? = some v
  yld i H r H' := ∃ (p : Addr) (u v : V), (r = .ref p ∧ H p = none ∧ H' = upd H p (.tup [u, v])) ∧ (∀ us, SqT K H a us → us[i]? = some u) ∧ (∀ vs, SqL K H b vs → vs[i]? = some v)
  stop i H := ∃ us vs : List V, SqT K H a us ∧ SqL K H b vs ∧ i ≤ us.length ∧ i ≤ vs.length ∧ (i = us.length ∨ i = vs.length)
section
variable {P : Program} {w : World} {K : PySem.W.Frag} {elts : List Expr} {kk : Nat} {tpos : Pos} {a b z TI TO i1 i2 : Addr}
abbrev stM (z TI TO i1 i2 a b : Addr) (i : Nat) (h : Heap) : Prop := (IsZip h z TI TO .none ∧ IsTupOf2 h TI (.ref i1) (.ref i2) ∧ ∃ x y, IsTupOf2 h TO x y) ∧ h.IsTupleIter i1 a i ∧ h.IsListIter i2 b i
theorem turn_zipM (S : ZipSep2 z TI TO i1 i2 [i1, a] [i2, b]) : Turn P w K (.Tuple elts kk tpos) (ItzM K a b) [z, TI, TO, i1, i2] z (stM z TI TO i1 i2 a b) := by
  have five : ∀ {c : Addr}, c ∈ [z, TI, TO, i1, i2] → c = z ∨ c = TI ∨ c = TO ∨ c = i1 ∨ c = i2 := fun h => by simpa using h
  have na : a ≠ i1 ∧ b ≠ i2 ∨ True := .inr trivial
  refine ⟨List.mem_cons_self, fun i h st c hc => ?_, fun i h h' st k => ?_, ?_, ?_, fun A i s Q E st q => wpAny_pyIter_zip st.1.1 q⟩
  · obtain ⟨⟨c1, c2, x, y, c3⟩, ⟨o4, e4, _, f4⟩, o5, e5, _, f5⟩ := st
    rcases five hc with rfl | rfl | rfl | rfl | rfl
    · exact ⟨_, c1, fun v q => nomatch q⟩
    · exact ⟨_, c2, fun v q => nomatch q⟩
    · exact ⟨_, c3, fun v q => nomatch q⟩
    · exact ⟨o4, e4, fun v q => by rw [f4] at q; cases q⟩
    · exact ⟨o5, e5, fun v q => by rw [f5] at q; cases q⟩
  · obtain ⟨⟨c1, c2, x, y, c3⟩, c4, c5⟩ := st
    exact ⟨⟨k _ (by simp) _ c1, k _ (by simp) _ c2, x, y, k _ (by simp) _ c3⟩, c4.at fun o q => k _ (by simp) o q, c5.at fun o q => k _ (by simp) o q⟩
  · intro X hP hw hK hc i pins s σ H E I hf st hg
    subst hP hw hK
    obtain ⟨us, vs, u, v, ⟨qa, ea⟩, qb, eb⟩ := hg
    obtain ⟨⟨c1, c2, x, y, c3⟩, c4, c5⟩ := st
    obtain ⟨la, ra, pa, _⟩ := I.tuple qa
    obtain ⟨lb, rb, pb, _⟩ := I.list qb
    obtain ⟨ua, ga, xa⟩ := ra.get ea
    obtain ⟨ub, gb, xb⟩ := rb.get eb
    have na : a ≠ i1 := fun q => by
      obtain ⟨oa, ha, ka, _⟩ := pa
      obtain ⟨ob, hb, kb, _⟩ := c4
      rw [q, hb] at ha
      cases ha
      rw [kb] at ka
      exact absurd (Value.type.inj ka) (by decide)
    have nb : b ≠ i2 := fun q => by
      obtain ⟨oa, ha, ka, _⟩ := pb.isList
      obtain ⟨ob, hb, kb, _⟩ := c5
      rw [q, hb] at ha
      cases ha
      rw [kb] at ka
      exact absurd (Value.type.inj ka) (by decide)
    have hh : X.A.in1.handled = none := I.ok.hd hc
    have DA := Draws.tuple (prog := X.prog) (w := X.w) hh i1 a na la.toArray
    have DB := Draws.list (prog := X.prog) (w := X.w) hh i2 b nb lb.toArray
    have za : i < la.toArray.size := by
      have := (List.getElem?_eq_some_iff.mp ga).1
      simpa using this
    have zb : i < lb.toArray.size := by
      have := (List.getElem?_eq_some_iff.mp gb).1
      simpa using this
    refine wpAny_pyNext_zipD2_item S DA DB c1 c2 c3 ⟨c4, pa⟩ ⟨c5, pb.isList⟩ za zb fun x1 x2 h1 tk y1 y2 d1 d2 d3 d4 d5 d6 d7 => ?_
    have e1 : x1 = ua := by
      have : la[i]? = some x1 := by simpa using y1
      exact Option.some.inj (this.symm.trans ga)
    have e2 : x2 = ub := by
      have : lb[i]? = some x2 := by simpa using y2
      exact Option.some.inj (this.symm.trans gb)
    subst e1 e2
    refine ⟨.ref s.heap.objs.size, rfl, wpAny_letOwnedTupleGo_zip (s := { s with heap := h1, toks := tk }) d1 fun h2 f1 f2 => ?_⟩
    have old : ∀ c o, c ∉ [z, TI, TO, i1, i2] → s.heap.get? c = some o → h2.get? c = some o := fun c o n q => by
      have m1 : c ≠ z := fun t => n (by rw [t]; simp)
      have m2 : c ≠ TO := fun t => n (by rw [t]; simp)
      have m3 : c ≠ i1 := fun t => n (by rw [t]; simp)
      have m4 : c ≠ i2 := fun t => n (by rw [t]; simp)
      exact (f2.2 c m1).trans (d7 c o m1 m2 m3 m4 q)
    have pz : s.heap.objs.size ≠ z := Nat.ne_of_gt (Heap.lt_size c1)
    have pn : h2.get? s.heap.objs.size = some { cls := .type "tuple", data := .seq #[x1, x2] } := (f2.2 _ pz).trans d5
    have ok : ObjOk X.prog X.w (upd H s.heap.objs.size (.tup [u, v])) h2 s.heap.objs.size (.tup [u, v]) := ⟨show 2 ≤ sizeLine by decide, [x1, x2], .cons xa (.cons xb .nil), _, pn, rfl, _, rfl⟩
    refine ⟨.ref s.heap.objs.size, upd H s.heap.objs.size (.tup [u, v]), I.turnedNew (t' := tk) (ch := [z, TI, TO, i1, i2]) old hf (Nat.le_refl _) ok, rfl, ?_, ?_, fun c m => ?_⟩
    · refine ⟨_, u, v, ⟨rfl, I.hok.fresh (Nat.le_refl _), rfl⟩, fun l t => ?_, fun l t => ?_⟩
      · rw [I.tuple_inj t qa]; exact ea
      · rw [I.list_inj t qb]; exact eb
    · refine ⟨⟨f1, (f2.2 _ S.TIz).trans (d7 _ _ S.TIz S.TITO S.TIi1 S.TIi2 c2), x1, x2, (f2.2 _ S.TOz).trans d2⟩, d3.1.at fun o q => (f2.2 _ S.zi1.symm).trans q, d4.1.at fun o q => (f2.2 _ S.zi2.symm).trans q⟩
    · have lt : c < s.heap.objs.size := by
        rcases five m with rfl | rfl | rfl | rfl | rfl
        · exact Heap.lt_size c1
        · exact Heap.lt_size c2
        · exact Heap.lt_size c3
        · obtain ⟨_, q, _⟩ := c4; exact Heap.lt_size q
        · obtain ⟨_, q, _⟩ := c5; exact Heap.lt_size q
      rw [upd_ne (Nat.ne_of_lt lt)]
      exact (hf c m).1
  · intro X hP hw hK hc i pins s σ H E I hf st hg
    subst hP hw hK
    obtain ⟨us, vs, qa, qb, l1, l2, l3⟩ := hg
    obtain ⟨⟨c1, c2, x, y, c3⟩, c4, c5⟩ := st
    obtain ⟨la, ra, pa, _⟩ := I.tuple qa
    obtain ⟨lb, rb, pb, _⟩ := I.list qb
    have na : a ≠ i1 := fun q => by
      obtain ⟨oa, ha, ka, _⟩ := pa
      obtain ⟨ob, hb, kb, _⟩ := c4
      rw [q, hb] at ha
      cases ha
      rw [kb] at ka
      exact absurd (Value.type.inj ka) (by decide)
    have nb : b ≠ i2 := fun q => by
      obtain ⟨oa, ha, ka, _⟩ := pb.isList
      obtain ⟨ob, hb, kb, _⟩ := c5
      rw [q, hb] at ha
      cases ha
      rw [kb] at ka
      exact absurd (Value.type.inj ka) (by decide)
    have hh : X.A.in1.handled = none := I.ok.hd hc
    have DA := Draws.tuple (prog := X.prog) (w := X.w) hh i1 a na la.toArray
    have DB := Draws.list (prog := X.prog) (w := X.w) hh i2 b nb lb.toArray
    have sa : us.length = la.toArray.size := by rw [List.size_toArray]; exact ra.length
    have sb : vs.length = lb.toArray.size := by rw [List.size_toArray]; exact rb.length
    refine wpAny_pyNext_zipD2_end S DA DB c1 c2 c3 ⟨c4, pa⟩ ⟨c5, pb.isList⟩ (by omega) (by omega) (by omega) fun h1 tk d => ⟨rfl, ?_⟩
    refine I.turnedL (t' := tk) (ch := [z, TI, TO, i1, i2]) (fun c o n q => ?_) hf
    exact d c o (fun t => n (by rw [t]; simp)) (fun t => n (by rw [t]; simp)) (fun t => n (by rw [t]; simp)) (fun t => n (by rw [t]; simp)) q
end
def iZipM (K : PySem.W.Frag) (tp : TA) : TI := fun σ H R => tp σ H fun zs H1 => ∃ a b us vs, zs = [.ref a, .ref b] ∧ SqT K H1 a us ∧ SqL K H1 b vs ∧ R (ItzM K a b) H1
theorem pi_zipM {X : Cx} {e f : Expr} {tp : TA} {p pos tpos : Pos} {elts : List Expr} {kk : Nat} (hg : Gl X "zip") (hm : X.mg "zip" = none) (hA : PA X [e, f] tp)
    (h1 : starEach [e, f] X.env = (false, eval e X.env) :: starEach [f] X.env := by rfl) (h2 : (backTo pos (starEach [f] X.env)).any (·.1) = false := by rfl) :
    PI X (.Tuple elts kk tpos) (.Call (.Name "zip" p) [e, f] [] pos) (iZipM X.K tp) := by
  constructor
  intro pins s σ H R I h
  have body := hA.run pos pins s σ H _ I h
  refine Call_ (ld_blt I hg hm PyProof.Rows.boot_zip ?_)
  refine PyProof.Rows.callWith_type1 (thn body ?_) h1 h2
  rintro ws s1 ⟨zs, H1, J, rz, a, b, us, vs, rfl, qa, qb, q⟩
  cases rz with
  | cons ra rz =>
    cases rz with
    | cons rb rz =>
      cases rz; cases ra; cases rb
      obtain ⟨la, _, pa, _⟩ := J.tuple qa
      obtain ⟨lb, _, pb, _⟩ := J.list qb
      have pa' : s1.heap.IsTuple a la.toArray := pa
      have lta : a < s1.heap.objs.size := by obtain ⟨_, g, _⟩ := pa'; exact Heap.lt_size g
      have sep : ZipSep2 (s1.heap.objs.size + 4) (s1.heap.objs.size + 2) (s1.heap.objs.size + 3) s1.heap.objs.size (s1.heap.objs.size + 1) [s1.heap.objs.size, a] [s1.heap.objs.size + 1, b] :=
        zip_sep2 (fp1 := [a]) (fp2 := [b]) (fun c m => by rw [List.mem_singleton.mp m]; exact lta) (fun c m => by rw [List.mem_singleton.mp m]; exact pb.lt)
      refine zip_begins2 (begins_tuple a la.toArray) (begins_list b lb.toArray) pa' pb.isList fun h' c1 c2 c3 c4 c5 _ kp => ?_
      refine wpAny_pyIter_zip c1 ?_
      refine ⟨s1.heap.objs.size + 4, [s1.heap.objs.size + 4, s1.heap.objs.size + 2, s1.heap.objs.size + 3, s1.heap.objs.size, s1.heap.objs.size + 1], _, _, H1, rfl, J.kept (t' := s1.toks) kp, turn_zipM sep, ⟨⟨c1, c2, _, _, c3⟩, ⟨_, c4, rfl, rfl⟩, ⟨_, c5, rfl, rfl⟩⟩, fun c m => ?_, q⟩
      have le : s1.heap.objs.size ≤ c := by
        rcases (by simpa using m : c = s1.heap.objs.size + 4 ∨ c = s1.heap.objs.size + 2 ∨ c = s1.heap.objs.size + 3 ∨ c = s1.heap.objs.size ∨ c = s1.heap.objs.size + 1) with rfl | rfl | rfl | rfl | rfl <;> first | exact Nat.le_add_right _ _ | exact Nat.le_refl _
      exact J.fpOk le (J.hok.fresh le)
theorem walk_zipM {K : PySem.W.Frag} {a b : Addr} {us vs : List V} {n : Nat} (hn : n = us.length) (hn2 : n = vs.length) : Walk (ItzM K a b) n (fun H => SqT K H a us ∧ SqL K H b vs) (YPair (fun i => us[i]?) (fun i => vs[i]?)) where
  goes i H hi q := by
    have l1 : i < us.length := by omega
    have l2 : i < vs.length := by omega
    exact ⟨us, vs, us[i], vs[i], ⟨q.1, List.getElem?_eq_getElem l1⟩, q.2, List.getElem?_eq_getElem l2⟩
  stops H q := ⟨us, vs, q.1, q.2, by omega, by omega, .inl hn⟩
  yields i H r H' _ q y := by
    obtain ⟨p, u, v, ⟨e1, e2, e3⟩, f1, f2⟩ := y
    exact ⟨p, u, v, e1, e2, e3, f1 us q.1, f2 vs q.2⟩
section
variable {K : PySem.W.Frag} {Mc M : List Addr} {He H H1 H2 : Hp} {is js : Ims} {ms : Mus} {σ : L2.St} {te ta tl tl2 : TE} {tlo thi : TO} {g : TG}
variable {α β γ : Type} [DecidableEq α] [Dx α] [DecidableEq β] [Dx β] [DecidableEq γ] [Dx γ]
/-- [.. for x in a tuple] -/
theorem hf_lcV0 {vs : List Nat} (s : Sg K Mc He H is ms) {xs : Tup α} (ef : α → β) (h : Hv K (muA ms ++ Mc) tl σ H xs) (hz : xs.items.length ≤ 40000)
    (hb : ∀ D src x w (ys : List β) H1, Sg K Mc He H1 ((w, Dx.toX x) :: (src, Dx.toX xs) :: is) ((D, .lst (ys.map Dx.toX)) :: ms) → x ∈ xs.items →
      ∀ Q : L2.St → Hp → Prop, (∀ σ2, wipe σ2 vs = wipe σ vs → Hv K (muA ((D, Mv.lst (ys.map Dx.toX)) :: ms) ++ Mc) te σ2 H1 (ef x) → Q σ2 H1) → g w (wipe σ vs) H1 Q) :
    HF K (muA ms ++ Mc) (tLc (iTup K tl) g tYes te vs) σ H (xs.items.map ef) := fun H1 e m Q q =>
  h H1 e m _ fun v H2 e2 d => by
    obtain ⟨a, us, rfl, s1, ds⟩ := d.tupv
    refine ⟨a, rfl, ⟨us, ex_t msk_le s1⟩, fun D hD => ?_⟩
    have sA : Sg K Mc He H2 ((.ref a, Dx.toX xs) :: is) ms := ((s.ex e).ex e2).put d
    have sB : Sg K Mc He (upd H2 D (.lst [])) ((.ref a, Dx.toX xs) :: is) ((D, .lst (([] : List β).map Dx.toX)) :: ms) := sA.new hD ⟨[], rfl, .nil⟩
    have hlu : us.length = xs.items.length := ds.len
    have s1' : SqT K H2 a us := ex_t msk_le s1
    refine lc_it (walk_tup (K := K) (a := a) (xs := us)) (fun i H' => Ex H2 H' ∧ Sg K Mc He H' ((.ref a, Dx.toX xs) :: is) ((D, .lst (((xs.items.take i).map ef).map Dx.toX)) :: ms)) ⟨Ex.new hD, sB⟩
      (fun i H' _ p => ex_t p.1 s1') (fun i x H' H'' hi p y => ?_) (fun H' p => ?_)
    · obtain ⟨rfl, y2⟩ := y
      have hix : i < xs.items.length := by rw [← hlu]; omega
      have gx : xs.items[i]? = some xs.items[i] := by simp [hix]
      have q2 : Ex (msk (muA ms ++ Mc) H2) (msk (D :: (muA ms ++ Mc)) H'') := fun c o hc => by
        by_cases z : c ∈ muA ms ++ Mc
        · rw [msk_in z] at hc; cases hc
        · rw [msk_out z] at hc
          have nc : c ≠ D := ne_of_none hc hD
          rw [msk_out (by simp only [List.mem_cons, not_or]; exact ⟨nc, z⟩)]
          exact p.1 c o hc
      obtain ⟨w, w1, w2⟩ := (Dts.mono q2 ds).at gx
      have : x = w := Option.some.inj (y2.symm.trans w1)
      subst this
      refine hb D (.ref a) xs.items[i] x _ _ (p.2.put w2) (List.mem_of_getElem? gx) _ fun σ2 hw he => ⟨hw, ?_⟩
      have hlen : ((xs.items.take i).map ef).length < 50000 := by
        rw [List.length_map, List.length_take]
        omega
      exact lc_turn (ms := ms) (tt := tYes) (b := true) (zs := (xs.items.take (i + 1)).map ef) p.2 hlen (fun H3 => Ex H2 H3 ∧ Sg K Mc He H3 ((.ref a, Dx.toX xs) :: is) ((D, .lst (((xs.items.take (i + 1)).map ef).map Dx.toX)) :: ms)) (fun H2 _ _ _ q => q H2 (Ex.refl H2)) (fun _ => he) (by rw [if_pos rfl, take_snoc gx, List.map_append]; rfl) (fun H3 h4 s3 => ⟨by
        obtain ⟨H4, e4, e5⟩ := h4
        rcases e5 with e5 | ⟨o, e5⟩
        · rw [e5]; exact p.1.trans e4
        · rw [e5]; exact Ex.mut (p.1.trans e4) hD, s3⟩)
    · have z := p.2
      rw [hlu, List.take_length] at z
      obtain ⟨us2, h3, h4⟩ := z.lst (k := 0) rfl
      exact q D us2 H' (fresh_back e2 hD) (e2.trans p.1) h3 h4
/-- [.. for x, y in zip(a tuple, a list)] -/
theorem hf_lcZM {vs : List Nat} (s : Sg K Mc He H is ms) {xs : Tup α} {zs : List γ} (ef : α × γ → β) (h : Hv K (muA ms ++ Mc) tl σ H xs) (h' : Hv K (muA ms ++ Mc) tl2 σ H zs) (hz : xs.items.length ≤ 40000) (hzs : zs.length = xs.items.length)
    (hb : ∀ D src (x : α × γ) w (ys : List β) H1, Sg K Mc He H1 ((w, Dx.toX x) :: (src, Dx.toX xs) :: is) ((D, .lst (ys.map Dx.toX)) :: ms) → x ∈ zipL xs.items zs →
      ∀ Q : L2.St → Hp → Prop, (∀ σ2, wipe σ2 vs = wipe σ vs → Hv K (muA ((D, Mv.lst (ys.map Dx.toX)) :: ms) ++ Mc) te σ2 H1 (ef x) → Q σ2 H1) → g w (wipe σ vs) H1 Q) :
    HF K (muA ms ++ Mc) (tLc (iZipM K (tCons tl (tCons tl2 tNil))) g tYes te vs) σ H ((zipL xs.items zs).map ef) := fun H1 e m Q q =>
  h H1 e m _ fun v H2 e2 d => h' H2 (e.trans e2) (m.ex e2) _ fun v' H2' e2' d' => by
    obtain ⟨a, us, rfl, s1, ds⟩ := d.tupv
    obtain ⟨a', us', rfl, t1, dt⟩ := d'.list
    have s1' : SqT K H2' a us := ex_t e2' (ex_t msk_le s1)
    have t1' : SqL K H2' a' us' := ex_l msk_le t1
    have dE : Dt K (msk (muA ms ++ Mc) H2') (.ref a) xs := d.mono (msk_ex e2')
    refine ⟨a, a', us, us', rfl, s1', t1', fun D hD => ?_⟩
    have sA : Sg K Mc He H2' ((.ref a, Dx.toX xs) :: is) ms := (((s.ex e).ex e2).ex e2').put dE
    have sB : Sg K Mc He (upd H2' D (.lst [])) ((.ref a, Dx.toX xs) :: is) ((D, .lst (([] : List β).map Dx.toX)) :: ms) := sA.new hD ⟨[], rfl, .nil⟩
    have hlu : us.length = xs.items.length := ds.len
    have hlw : us'.length = zs.length := dt.len
    have dsE : Dts K (msk (muA ms ++ Mc) H2') us xs.items := Dts.mono (msk_ex e2') ds
    refine lc_it (walk_zipM (K := K) (a := a) (b := a') (us := us) (vs := us') (n := us.length) rfl (by omega)) (fun i H' => Ex H2' H' ∧ Sg K Mc He H' ((.ref a, Dx.toX xs) :: is) ((D, .lst ((((zipL xs.items zs).take i).map ef).map Dx.toX)) :: ms)) ⟨Ex.new hD, sB⟩
      (fun i H' _ p => ⟨ex_t p.1 s1', ex_l p.1 t1'⟩) (fun i x H' H'' hi p y => ?_) (fun H' p => ?_)
    · obtain ⟨T, x0, x1, rfl, nT, rfl, f1, f2⟩ := y
      have hix : i < xs.items.length := by rw [← hlu]; omega
      have hiz : i < zs.length := by rw [← hlw]; omega
      have gx : xs.items[i]? = some xs.items[i] := by simp [hix]
      have gz : zs[i]? = some zs[i] := by simp [hiz]
      have gE := zipL_get gx gz
      have eT : Ex H' (upd H' T (.tup [x0, x1])) := Ex.new nT
      have sT := p.2.ex eT
      have q2 : Ex (msk (muA ms ++ Mc) H2') (msk (D :: (muA ms ++ Mc)) (upd H' T (.tup [x0, x1]))) := fun b o hb' => by
        by_cases z : b ∈ muA ms ++ Mc
        · rw [msk_in z] at hb'; cases hb'
        · rw [msk_out z] at hb'
          have nb : b ≠ D := ne_of_none hb' hD
          rw [msk_out (by simp only [List.mem_cons, not_or]; exact ⟨nb, z⟩)]
          exact eT b o (p.1 b o hb')
      have dm0 : Dt K (msk (D :: (muA ms ++ Mc)) (upd H' T (.tup [x0, x1]))) x0 xs.items[i] := by
        obtain ⟨w, w1, w2⟩ := (dsE.mono q2).at gx
        have : x0 = w := Option.some.inj (f1.symm.trans w1)
        subst this; exact w2
      have dm1 : Dt K (msk (D :: (muA ms ++ Mc)) (upd H' T (.tup [x0, x1]))) x1 zs[i] := by
        obtain ⟨w, w1, w2⟩ := (Dts.mono q2 dt).at gz
        have : x1 = w := Option.some.inj (f2.symm.trans w1)
        subst this; exact w2
      have nTD : T ∉ D :: (muA ms ++ Mc) := fun z => (p.2.mok T z) nT
      have dw : Dt K (msk (D :: (muA ms ++ Mc)) (upd H' T (.tup [x0, x1]))) (.ref T) (xs.items[i], zs[i]) := Dt.ofPair (SqT.of (by rw [msk_out nTD]; exact upd_same)) dm0 dm1
      refine hb D (.ref a) (xs.items[i], zs[i]) (.ref T) _ _ (sT.put dw) (List.mem_of_getElem? gE) _ fun σ2 hw he => ⟨hw, ?_⟩
      have hlen : (((zipL xs.items zs).take i).map ef).length < 50000 := by
        rw [List.length_map, List.length_take, zipL_len]
        omega
      exact lc_turn (ms := ms) (tt := tYes) (b := true) (zs := ((zipL xs.items zs).take (i + 1)).map ef) sT hlen (fun H3 => Ex H2' H3 ∧ Sg K Mc He H3 ((.ref a, Dx.toX xs) :: is) ((D, .lst ((((zipL xs.items zs).take (i + 1)).map ef).map Dx.toX)) :: ms)) (fun H2 _ _ _ q => q H2 (Ex.refl H2)) (fun _ => he) (by rw [if_pos rfl, take_snoc gE, List.map_append]; rfl) (fun H3 h4 s3 => ⟨by
        obtain ⟨H4, e4, e5⟩ := h4
        rcases e5 with e5 | ⟨o, e5⟩
        · rw [e5]; exact (p.1.trans eT).trans e4
        · rw [e5]; exact Ex.mut ((p.1.trans eT).trans e4) hD, s3⟩)
    · have z := p.2
      have et : (zipL xs.items zs).take us.length = zipL xs.items zs := List.take_of_length_le (by rw [zipL_len, hlu]; omega)
      rw [et] at z
      obtain ⟨us2, h3, h4⟩ := z.lst (k := 0) rfl
      exact q D us2 H' (fresh_back (e2.trans e2') hD) ((e2.trans e2').trans p.1) h3 h4
/-- a slice of a tuple -/
theorem hv_sliceV {xs : Tup α} {lo hi : Option Int} (h : Hv K M te σ H xs) (h1 : HO' M tlo σ H lo) (h2 : HO' M thi σ H hi) : Hv K M (tSl (rSlA K) te tlo thi) σ H (Tup.mk (cutL xs.items lo hi)) := fun H1 e m Q q =>
  h H1 e m _ fun v H2 e2 d => h1 H2 (e.trans e2) (m.ex e2) _ fun H3 e3 => h2 H3 ((e.trans e2).trans e3) ((m.ex e2).ex e3) _ fun H4 e4 => by
    obtain ⟨a, us, rfl, s1, ds⟩ := d.tupv
    have m4 := ((m.ex e2).ex e3).ex e4
    have el : us.length = xs.items.length := ds.len
    refine ⟨a, us, rfl, ex_t (e3.trans e4) (ex_t msk_le s1), fun hw => ?_, fun _ p hp => ?_⟩
    · rw [el] at hw
      have ew : cutL xs.items lo hi = xs.items := by
        unfold cutL
        rw [hw.1, hw.2]
        simp
      rw [ew] at q
      exact q _ _ ((e2.trans e3).trans e4) (d.mono (msk_ex (e3.trans e4)))
    · have e5 : Ex H4 (upd H4 p (.tup (cutV us lo hi))) := Ex.new hp
      exact q _ _ (((e2.trans e3).trans e4).trans e5) (Dt.ofTupv (SqT.of (msk_at m4 hp)) ((ds.mono (msk_ex ((e3.trans e4).trans e5))).cut))
end
end Ly

namespace Ly
open PySem PySem.Spec PyProof.Rows L2 Evl
open PySem.W (Datum DatumOrd Tup T3 T4 minOf)
/-! ### loops that may be broken off -/
def loopB {S : Type} (f : S → Int → Lp Unit S) : Nat → Int → S → S
  | 0, _, s => s
  | n + 1, k, s => match f s k with
    | .ret _ => s
    | .brk u => u
    | .nxt u => loopB f n (k + 1) u
theorem loopB_succ {S : Type} {f : S → Int → Lp Unit S} {n i : Nat} {lo : Int} {s : S} (h : i < n) :
    loopB f (n - i) (lo + (i : Int)) s = (match f s (lo + (i : Int)) with | .ret _ => s | .brk u => u | .nxt u => loopB f (n - (i + 1)) (lo + ((i + 1 : Nat) : Int)) u) := by
  have e : n - i = (n - (i + 1)) + 1 := by omega
  have e2 : lo + (i : Int) + 1 = lo + ((i + 1 : Nat) : Int) := by omega
  rw [e, loopB, e2]
theorem loopB_nxt {S : Type} {f : S → Int → Lp Unit S} {n i : Nat} {lo : Int} {s u : S} (h : i < n) (e : f s (lo + (i : Int)) = .nxt u) : loopB f (n - i) (lo + (i : Int)) s = loopB f (n - (i + 1)) (lo + ((i + 1 : Nat) : Int)) u := by
  rw [loopB_succ h, e]
theorem loopB_brk {S : Type} {f : S → Int → Lp Unit S} {n i : Nat} {lo : Int} {s u : S} (h : i < n) (e : f s (lo + (i : Int)) = .brk u) : loopB f (n - i) (lo + (i : Int)) s = u := by
  rw [loopB_succ h, e]
theorem loopB_end {S : Type} {f : S → Int → Lp Unit S} {n : Nat} {lo : Int} {s : S} : loopB f (n - n) lo s = s := by rw [Nat.sub_self]; rfl
section
variable {K : PySem.W.Frag} {Mc M : List Addr} {He H H1 H2 : Hp} {is js : Ims} {ms : Mus} {σ : L2.St} {te ta tb tc : TE} {D : Ends}
/-- what may be none, where it is not -/
theorem hv_unopt {o : Option Int} (h : Hv K M te σ H o) (hn : o ≠ none) : Hv K M te σ H (o.getD 0) := by
  cases o with
  | none => exact absurd rfl hn
  | some x => exact h
/-- for x in range(lo, hi, -1) -/
theorem z_forRC {tu : TS} {j : Nat} {lo hi c : Int} (s : Sg K Mc He H is ms) (h1 : Hv K (muA ms ++ Mc) ta σ H lo) (h2 : Hv K (muA ms ++ Mc) tb σ H hi) (h3 : Hv K (muA ms ++ Mc) tc σ H c) (hc : c = -1) (hn : -100000 ≤ lo ∧ lo ≤ 100000 ∧ -100000 ≤ hi ∧ hi ≤ 100000)
    (Pv : Nat → L2.St → Hp → Prop) (h0 : ∀ H1, Sg K Mc He H1 is ms → Pv 0 σ H1)
    (hs : ∀ (i : Nat) (x : Int) σ' H', x = lo - ((0 : Int) + (i : Int)) → i < (lo - hi).toNat → Pv i σ' H' → tu { D with nx := Pv (i + 1), ct := Pv (i + 1), bk := D.nx } (σ'.set j (some (.int x))) H')
    (hd : ∀ σ' H', Pv (lo - hi).toNat σ' H' → D.nx σ' H') : tFor (iRng3 (tCons ta (tCons tb (tCons tc tNil)))) (gName j) tu D σ H := by
  subst hc
  exact h1 H (Ex.refl H) s.mok _ fun v H1 e d => h2 H1 e (s.mok.ex e) _ fun v' H2 e2 d' => h3 H2 (e.trans e2) ((s.mok.ex e).ex e2) _ fun v'' H3 e3 d'' => by
    refine ⟨lo, hi, -1, (lo - hi).toNat, by rw [d.int, d'.int, d''.int], RgC.neg (by omega) (by omega) (by omega) (by omega), L2.for_rangeC Pv (h0 H3 (((s.ex e).ex e2).ex e3)) (fun i σ' H' hi' p => ?_) hd⟩
    have e0 : lo + (i : Int) * -1 = lo - ((0 : Int) + (i : Int)) := by omega
    show tu { D with nx := Pv (i + 1), ct := Pv (i + 1), bk := D.nx } (σ'.set j (some (.int (lo + (i : Int) * -1)))) H'
    rw [e0]
    exact hs i _ σ' H' rfl hi' p
end
end Ly

namespace Ly
open PySem PySem.Spec PyProof.Rows L2 Evl
open PySem.W (Datum DatumOrd Tup T3 T4 minOf)
/-! ### the items of pages -/
inductive Pgi where
  | line (b l h n d : Int)
  | space (h : Int) (f : Bool)
  | pen (c : Int)
  | fin
  | flt (b h : Int)
  deriving DecidableEq
def Pgi.kind : Pgi → Str
  | .line _ _ _ _ _ => Str.ofString "line"
  | .space _ _ => Str.ofString "space"
  | .pen _ => Str.ofString "penalty"
  | .fin => Str.ofString "end"
  | .flt _ _ => Str.ofString "float"
def Pgi.tag : Pgi → Nat
  | .line _ _ _ _ _ => 0
  | .space _ _ => 1
  | .pen _ => 2
  | .fin => 3
  | .flt _ _ => 4
def Pgi.at1 : Pgi → Int
  | .line b _ _ _ _ => b | .space h _ => h | .pen c => c | .flt b _ => b | _ => 0
def Pgi.at2 : Pgi → Int
  | .line _ l _ _ _ => l | .flt _ h => h | _ => 0
def Pgi.at3 : Pgi → Int
  | .line _ _ h _ _ => h | _ => 0
def Pgi.at4 : Pgi → Int
  | .line _ _ _ n _ => n | _ => 0
def Pgi.at5 : Pgi → Int
  | .line _ _ _ _ d => d | _ => 0
def Pgi.fr : Pgi → Bool
  | .space _ f => f | _ => false
def Pgi.x : Pgi → List Xd
  | .line b l h n d => [.str (Str.ofString "line"), .int b, .int l, .int h, .int n, .int d]
  | .space h f => [.str (Str.ofString "space"), .int h, .bool f]
  | .pen c => [.str (Str.ofString "penalty"), .int c]
  | .fin => [.str (Str.ofString "end")]
  | .flt b h => [.str (Str.ofString "float"), .int b, .int h]
instance : Dx Pgi := ⟨fun i => .tuple i.x⟩
instance : SomeX Pgi := ⟨fun _ e => by cases e⟩
theorem Pgi.tag_le (i : Pgi) : i.tag ≤ 4 := by cases i <;> simp only [Pgi.tag] <;> decide
theorem pd_line (i : Pgi) : (i.kind = Str.ofString "line") = (i.tag = 0) := by
  cases i <;> simp only [Pgi.kind, Pgi.tag] <;> exact propext ⟨fun h => by first | rfl | (revert h; decide +kernel), fun h => by first | rfl | (revert h; decide)⟩
theorem pd_space (i : Pgi) : (i.kind = Str.ofString "space") = (i.tag = 1) := by
  cases i <;> simp only [Pgi.kind, Pgi.tag] <;> exact propext ⟨fun h => by first | rfl | (revert h; decide +kernel), fun h => by first | rfl | (revert h; decide)⟩
theorem pd_pen (i : Pgi) : (i.kind = Str.ofString "penalty") = (i.tag = 2) := by
  cases i <;> simp only [Pgi.kind, Pgi.tag] <;> exact propext ⟨fun h => by first | rfl | (revert h; decide +kernel), fun h => by first | rfl | (revert h; decide)⟩
theorem pd_fin (i : Pgi) : (i.kind = Str.ofString "end") = (i.tag = 3) := by
  cases i <;> simp only [Pgi.kind, Pgi.tag] <;> exact propext ⟨fun h => by first | rfl | (revert h; decide +kernel), fun h => by first | rfl | (revert h; decide)⟩
theorem pd_flt (i : Pgi) : (i.kind = Str.ofString "float") = (i.tag = 4) := by
  cases i <;> simp only [Pgi.kind, Pgi.tag] <;> exact propext ⟨fun h => by first | rfl | (revert h; decide +kernel), fun h => by first | rfl | (revert h; decide)⟩
section
variable {K : PySem.W.Frag} {M : List Addr} {H : Hp} {σ : L2.St} {te : TE} {i : Pgi}
theorem hv_py0 (h : Hv K M te σ H i) : Hv K M (tOp (rIxT K) te (tC (.int 0))) σ H i.kind := hv_atX 0 h rfl (by cases i <;> rfl)
theorem hv_py1 (h : Hv K M te σ H i) (s : i.tag ≠ 3) : Hv K M (tOp (rIxT K) te (tC (.int 1))) σ H i.at1 := hv_atX 1 h rfl (by cases i <;> first | rfl | (exfalso; simp [Pgi.tag] at s))
theorem hv_py2 (h : Hv K M te σ H i) (s : i.tag = 0 ∨ i.tag = 4) : Hv K M (tOp (rIxT K) te (tC (.int 2))) σ H i.at2 := hv_atX 2 h rfl (by cases i <;> first | rfl | (exfalso; simp [Pgi.tag] at s))
theorem hv_pyf (h : Hv K M te σ H i) (s : i.tag = 1) : Hv K M (tOp (rIxT K) te (tC (.int 2))) σ H i.fr := hv_atX 2 h rfl (by cases i <;> first | rfl | (exfalso; simp [Pgi.tag] at s))
theorem hv_py3 (h : Hv K M te σ H i) (s : i.tag = 0) : Hv K M (tOp (rIxT K) te (tC (.int 3))) σ H i.at3 := hv_atX 3 h rfl (by cases i <;> first | rfl | (exfalso; simp [Pgi.tag] at s))
theorem hv_py4 (h : Hv K M te σ H i) (s : i.tag = 0) : Hv K M (tOp (rIxT K) te (tC (.int 4))) σ H i.at4 := hv_atX 4 h rfl (by cases i <;> first | rfl | (exfalso; simp [Pgi.tag] at s))
theorem hv_py5 (h : Hv K M te σ H i) (s : i.tag = 0) : Hv K M (tOp (rIxT K) te (tC (.int 5))) σ H i.at5 := hv_atX 5 h rfl (by cases i <;> first | rfl | (exfalso; simp [Pgi.tag] at s))
end
section
variable {K : PySem.W.Frag} {Mc M : List Addr} {He H : Hp} {is : Ims} {ms : Mus} {σ : L2.St} {ta tb tc : TE} {tz : TS} {D : Ends}
theorem zq_forRC {tu : TS} {j : Nat} {lo hi c : Int} (s : Sg K Mc He H is ms) (h1 : Hv K (muA ms ++ Mc) ta σ H lo) (h2 : Hv K (muA ms ++ Mc) tb σ H hi) (h3 : Hv K (muA ms ++ Mc) tc σ H c) (hc : c = -1) (hn : -100000 ≤ lo ∧ lo ≤ 100000 ∧ -100000 ≤ hi ∧ hi ≤ 100000)
    (Pv : Nat → L2.St → Hp → Prop) (h0 : ∀ H1, Sg K Mc He H1 is ms → Pv 0 σ H1)
    (hs : ∀ (i : Nat) (x : Int) σ' H', x = lo - ((0 : Int) + (i : Int)) → i < (lo - hi).toNat → Pv i σ' H' → tu { D with nx := Pv (i + 1), ct := Pv (i + 1), bk := tz D } (σ'.set j (some (.int x))) H')
    (hd : ∀ σ' H', Pv (lo - hi).toNat σ' H' → tz D σ' H') : tSeq (tFor (iRng3 (tCons ta (tCons tb (tCons tc tNil)))) (gName j) tu) tz D σ H :=
  z_forRC (D := { D with nx := tz D }) s h1 h2 h3 hc hn Pv h0 hs hd
end
/-! ### items of pages are data: == -/
def Pgi.d : Pgi → List PyData
  | .line b l h n d => [.str (Str.ofString "line"), .int b, .int l, .int h, .int n, .int d]
  | .space h f => [.str (Str.ofString "space"), .int h, .bool f]
  | .pen c => [.str (Str.ofString "penalty"), .int c]
  | .fin => [.str (Str.ofString "end")]
  | .flt b h => [.str (Str.ofString "float"), .int b, .int h]
theorem Pgi.d_kind (i : Pgi) : ∃ r, i.d = .str i.kind :: r := by cases i <;> exact ⟨_, rfl⟩
theorem pgkind_tag {i j : Pgi} (h : i.kind = j.kind) : i.tag = j.tag := by
  have k0 := pd_line i; have k1 := pd_space i; have k2 := pd_pen i; have k3 := pd_fin i; have k4 := pd_flt i
  rw [h] at k0 k1 k2 k3 k4
  rw [pd_line] at k0
  rw [pd_space] at k1
  rw [pd_pen] at k2
  rw [pd_fin] at k3
  rw [pd_flt] at k4
  have t1 := Pgi.tag_le i
  have t2 := Pgi.tag_le j
  have e0 := k0.to_iff; have e1 := k1.to_iff; have e2 := k2.to_iff; have e3 := k3.to_iff; have e4 := k4.to_iff
  omega
theorem Pgi.eqv (a b : Pgi) : PyData.eqvAll a.d b.d = decide (a = b) := by
  by_cases h : a.kind = b.kind
  · have ht := pgkind_tag h
    cases a <;> cases b <;> first | (exfalso; simp [Pgi.tag] at ht; done) | (simp only [Pgi.d, PyData.eqvAll, eqvI, eqvS, eqvB]; simp [Bool.and_assoc])
  · obtain ⟨r, e⟩ := a.d_kind
    obtain ⟨r', e'⟩ := b.d_kind
    rw [e, e', PyData.eqvAll, eqvS, decide_eq_false h, Bool.false_and]
    exact (decide_eq_false fun z => h (by rw [z])).symm
instance : Datum Pgi where
  toD i := .tuple i.d
  plain i := by cases i <;> simp only [Pgi.d, PyData.plain, PyData.plainAll, Bool.and_self, Bool.and_true, Bool.true_and]
  eqv a b := by simp only [PyData.eqv]; exact Pgi.eqv a b
  depth := 2
  depth_le i := by cases i <;> simp only [Pgi.d, PyData.depth, PyData.depthAll] <;> (first | decide | omega)
instance : DxD Pgi := ⟨fun {K H v i} h => by
  cases h with
  | tup s a =>
    refine .tup s ?_
    cases i with
    | line b l h n d =>
      cases a with | cons a1 a => cases a with | cons a2 a => cases a with | cons a3 a => cases a with | cons a4 a => cases a with | cons a5 a => cases a with | cons a6 a =>
      cases a
      cases a1; cases a2; cases a3; cases a4; cases a5; cases a6
      exact .cons (.str _) (.cons (.int _) (.cons (.int _) (.cons (.int _) (.cons (.int _) (.cons (.int _) .nil)))))
    | space h f =>
      cases a with | cons a1 a => cases a with | cons a2 a => cases a with | cons a3 a =>
      cases a
      cases a1; cases a2; cases a3
      exact .cons (.str _) (.cons (.int _) (.cons (.bl _) .nil))
    | pen c =>
      cases a with | cons a1 a => cases a with | cons a2 a =>
      cases a
      cases a1; cases a2
      exact .cons (.str _) (.cons (.int _) .nil)
    | fin =>
      cases a with | cons a1 a =>
      cases a
      cases a1
      exact .cons (.str _) .nil
    | flt b h =>
      cases a with | cons a1 a => cases a with | cons a2 a => cases a with | cons a3 a =>
      cases a
      cases a1; cases a2; cases a3
      exact .cons (.str _) (.cons (.int _) (.cons (.int _) .nil))⟩
end Ly
namespace Ly
theorem ne_len {α : Type} {xs : List α} (h : (!xs.isEmpty) = true) : 0 < xs.length := by
  cases xs with
  | nil => cases h
  | cons x r => exact Nat.succ_pos _
end Ly
namespace Ly
theorem cutL_le {α : Type} {xs : List α} {a b : Option Int} : (cutL xs a b).length ≤ xs.length := by
  unfold cutL
  rw [List.length_take, List.length_drop]
  omega
end Ly

namespace Ly
open PySem PySem.Spec PyProof.Rows L2 Evl
open PySem.W (Datum DatumOrd Tup T3 T4 minOf)
/-! ### what is never reached; own things lent; defaults -/
def tFls : TE := fun _ _ _ => False
theorem pe_never {X : Cx} {e : Expr} : PE X e tFls := ⟨fun _ _ _ _ _ _ h => h.elim⟩
section
variable {K : PySem.W.Frag} {Mc M M' : List Addr} {He H H1 : Hp} {is : Ims} {ms : Mus} {σ : L2.St} {te ta tl : TE} {tu tz : TS} {g : TG} {D : Ends}
variable {α β γ : Type} [DecidableEq α] [Dx α] [DecidableEq β] [Dx β] [DecidableEq γ] [Dx γ]
/-- a number reckoned from own things that are only read: the mask may be less -/
theorem hv_lendI {i : Int} (h : Hv K M' te σ H i) (hm : ∀ a ∈ M', a ∈ M) : Hv K M te σ H i := fun H1 e1 m Q q =>
  h H1 e1 (fun a ha => m a (hm a ha)) Q fun v H2 e2 d => q v H2 e2 (by rw [d.int]; exact Dt.ofInt _)
theorem hv_lendB {b : Bool} (h : Hv K M' te σ H b) (hm : ∀ a ∈ M', a ∈ M) : Hv K M te σ H b := fun H1 e1 m Q q =>
  h H1 e1 (fun a ha => m a (hm a ha)) Q fun v H2 e2 d => q v H2 e2 (by rw [d.bool]; exact Dt.ofBool _)
/-- for over nothing -/
theorem zq_forNil {xs : List α} (s : Sg K Mc He H is ms) (h : Hv K (muA ms ++ Mc) tl σ H xs) (hx : xs = []) (q : ∀ H1, Sg K Mc He H1 is ms → tz D σ H1) : tSeq (tFor (iList K tl) g tu) tz D σ H :=
  zq_for s h (fun v i σ' H' => σ' = σ ∧ Sg K Mc He H' ((v, Dx.toX xs) :: is) ms) (fun v H1 s1 => ⟨rfl, s1⟩) (fun v i σ' H' hP => hP.2.im.1) (fun v i x w σ' H' hi _ _ => by rw [hx] at hi; cases hi)
    (fun v σ' H' hP => by obtain ⟨rfl, s1⟩ := hP; exact q H' (s1.keep fun _ h => h.2))
theorem zq_forNilV {xs : Tup α} (s : Sg K Mc He H is ms) (h : Hv K (muA ms ++ Mc) tl σ H xs) (hx : xs.items = []) (q : ∀ H1, Sg K Mc He H1 is ms → tz D σ H1) : tSeq (tFor (iTup K tl) g tu) tz D σ H :=
  h H (Ex.refl H) s.mok _ fun v H1 e d => by
    obtain ⟨a, us, rfl, s1, ds⟩ := d.tupv
    have hl := ds.len
    rw [hx] at hl
    have s1' : SqT K H1 a us := ex_t msk_le s1
    refine ⟨a, rfl, ⟨us, s1'⟩, fun i m σ' H' => i = 0 ∧ σ' = σ ∧ H' = H1, ⟨0, rfl, rfl, rfl⟩, ?_⟩
    rintro i m σ' H' ⟨rfl, rfl, rfl⟩
    exact .inl ⟨⟨us, s1', Nat.le_of_eq hl⟩, q _ (s.ex e)⟩
/-- for over nothing, counted -/
theorem zq_forNilE {xs : List α} (s : Sg K Mc He H is ms) (h : Hv K (muA ms ++ Mc) tl σ H xs) (hx : xs = []) (q : ∀ H1, Sg K Mc He H1 is ms → tz D σ H1) : tSeq (tFor (iEnum K (tCons tl tNil)) g tu) tz D σ H :=
  zq_forE s h (fun v i σ' H' => σ' = σ ∧ Sg K Mc He H' ((v, Dx.toX xs) :: is) ms) (fun v H1 s1 => ⟨rfl, s1⟩) (fun v i σ' H' hP => ⟨hP.2.im.1, hP.2.mok⟩) (fun v i x w σ' H' H'' hi _ _ _ => by rw [hx] at hi; cases hi)
    (fun v σ' H' hP => by obtain ⟨rfl, s1⟩ := hP; exact q H' (s1.keep fun _ h => h.2))
/-- tuple(a tuple) -/
theorem hv_tupleOfV {xs : Tup α} (h : Hv K M te σ H xs) : Hv K M (tCB (fun xs H Q => ∃ p ys, xs = [.ref p] ∧ ((SqL K H p ys ∧ ∀ l, H l = none → Q (.ref l) (upd H l (.tup ys))) ∨ (SqT K H p ys ∧ Q (.ref p) H))) (tCons te tNil)) σ H xs := fun H1 e m Q q =>
  h H1 e m _ fun v H2 e2 d => by
    obtain ⟨a, us, rfl, s1, ds⟩ := d.tupv
    exact ⟨a, us, rfl, .inr ⟨ex_t msk_le s1, q _ H2 e2 (Dt.ofTupv s1 ds)⟩⟩
end
/-! ### loops over lists that may be broken off -/
def loopBL {α S : Type} (f : S → α → Lp Unit S) : List α → S → S
  | [], s => s
  | x :: xs, s => match f s x with
    | .ret _ => s
    | .brk u => u
    | .nxt u => loopBL f xs u
theorem loopBL_nxt {α S : Type} {f : S → α → Lp Unit S} {xs : List α} {i : Nat} {x : α} {s u : S} (h : xs[i]? = some x) (e : f s x = .nxt u) : loopBL f (xs.drop i) s = loopBL f (xs.drop (i + 1)) u := by
  rw [drop_at h, loopBL, e]
theorem loopBL_brk {α S : Type} {f : S → α → Lp Unit S} {xs : List α} {i : Nat} {x : α} {s u : S} (h : xs[i]? = some x) (e : f s x = .brk u) : loopBL f (xs.drop i) s = u := by
  rw [drop_at h, loopBL, e]
theorem loopBL_end {α S : Type} {f : S → α → Lp Unit S} {xs : List α} {s : S} : loopBL f (xs.drop xs.length) s = s := by rw [List.drop_length]; rfl
end Ly
namespace Ly
open PySem PySem.Spec PyProof.Rows L2 Evl
open PySem.W (Datum DatumOrd Tup T3 T4 minOf)
section
variable {K : PySem.W.Frag} {Mc M M' : List Addr} {He H H1 : Hp} {is : Ims} {ms : Mus} {σ : L2.St} {te ta tl : TE} {tu tz : TS} {g : TG} {D : Ends}
variable {α β γ : Type} [DecidableEq α] [Dx α] [DecidableEq β] [Dx β] [DecidableEq γ] [Dx γ]
theorem zq_expr {x : α} (s : Sg K Mc He H is ms) (h : Hv K (muA ms ++ Mc) te σ H x) (q : ∀ H1, Sg K Mc He H1 is ms → tz D σ H1) : tSeq (tDrop te) tz D σ H :=
  h H (Ex.refl H) s.mok _ fun v H1 e d => q H1 (s.ex e)
theorem z_forG {xs : List α} {j : Nat} (s : Sg K Mc He H is ms) (h : Hv K (muA ms ++ Mc) tl σ H xs) (Pv : V → Nat → L2.St → Hp → Prop) (h0 : ∀ v H1, Sg K Mc He H1 ((v, Dx.toX xs) :: is) ms → Pv v 0 σ H1)
    (hl : ∀ v i σ' H', Pv v i σ' H' → Dt K (msk (muA ms ++ Mc) H') v xs)
    (hs : ∀ v i x w σ' H', xs[i]? = some x → Pv v i σ' H' → Dt K (msk (muA ms ++ Mc) H') w x → tu { D with nx := Pv v (i + 1), ct := Pv v (i + 1), bk := D.nx } (σ'.set j (some w)) H')
    (hd : ∀ v σ' H', Pv v xs.length σ' H' → D.nx σ' H') : tFor (iList K tl) (gName j) tu D σ H := z_for s h Pv h0 hl hs hd
theorem hf_lcNil {vs : List Nat} (s : Sg K Mc He H is ms) {xs : List α} (d : β) (h : Hv K (muA ms ++ Mc) tl σ H xs) (hx : xs = []) : HF K (muA ms ++ Mc) (tLc (iList K tl) g tYes te vs) σ H ([] : List β) := by
  have z := hf_lcL0 (te := te) (g := g) (vs := vs) s (fun _ => d) h (by rw [hx]; exact Nat.zero_le _) (fun _ _ x _ _ _ _ hm => by rw [hx] at hm; cases hm)
  rw [hx] at z
  exact z
theorem hf_lcNilV {vs : List Nat} (s : Sg K Mc He H is ms) {xs : Tup α} (d : β) (h : Hv K (muA ms ++ Mc) tl σ H xs) (hx : xs.items = []) : HF K (muA ms ++ Mc) (tLc (iTup K tl) g tYes te vs) σ H ([] : List β) := by
  have z := hf_lcV0 (te := te) (g := g) (vs := vs) s (fun _ => d) h (by rw [hx]; exact Nat.zero_le _) (fun _ _ x _ _ _ _ hm => by rw [hx] at hm; cases hm)
  rw [hx] at z
  exact z
theorem Dt.ofNon {H : Hp} : Dt K H .non () := .non
end
end Ly
namespace Ly
open PySem PySem.Spec PyProof.Rows L2 Evl
section
variable {K : PySem.W.Frag} {M : List Addr} {H : Hp} {σ : L2.St} {β : Type} [DecidableEq β] [Dx β] {γ : Type}
/-- C(k = v, ..), where defaults stand for the rest -/
theorem hv_makeKD {args : γ → List Xd} {pre : γ → Prop} {F : γ → β} {tr : TA} {E : XK} {cn : Str} {C : Addr} {n : Nat} {ds : List Xd} {gV : List V → List V → List V} (c : γ) (t : Ct K cn C) (h : HD K M tr σ H ds) (hn : ds.length = n) (p : pre c)
    (hg : ∀ (x : V) (vs : List V) (H2 : Hp), XpAll K H2 vs ds → ∃ ws, gV [x] vs = x :: ws ∧ XpAll K H2 ws (args c)) :
    Hv K M (tMakeK C 0 n (PrI K cn args pre F) gV E tNil tr) σ H (F c) := fun H1 e1 mk Q q =>
  h H1 e1 mk _ fun vs H2 e2 dd => ⟨rfl, by rw [dpa_len dd]; exact hn, fun x dx hx hdx ne => by
    have m2 := mk.ex e2
    have hx2 : upd H2 dx (.own x) x = none := by rw [upd_ne (fun z => ne z.symm)]; exact hx
    have ea : Ex H2 (upd H2 dx (.own x)) := Ex.new hdx
    have eb : Ex (upd H2 dx (.own x)) (upd (upd H2 dx (.own x)) x (.ins C dx [])) := Ex.new hx2
    have hxM : x ∉ M := fun z => m2 x z hx
    obtain ⟨ws, ew, dw⟩ := hg (.ref x) vs _ (dpa_mono ((msk_ex ea).trans (msk_new hx2)) dd)
    refine ⟨M, x, C, dx, ws, c, ew, ?_, hxM, t.ns, upd_same, dw, p, fun H' e' d => ⟨rfl, q _ _ ?_ d⟩⟩
    · intro l hl
      rcases List.mem_cons.mp hl with rfl | hl
      · rw [upd_same]; exact fun z => nomatch z
      · exact ((m2.ex ea).ex eb) l hl
    · refine e2.trans fun a o ho => e' a o ?_
      have na : a ≠ x := fun z => by rw [z, hx] at ho; cases ho
      rw [msk_out (by simpa using na)]
      exact eb a o (ea a o ho)⟩
end
end Ly

namespace Ly
open PySem PySem.Spec PyProof.Rows L2 Evl
theorem looks_forIn {α β : Type} {M : Model} {h : Heap} {f : α → β → Sem (ForInStep β)} : ∀ (xs : List α) (st : Nat → β), (∀ i x, xs[i]? = some x → PySem.W.Looks M h (f x (st i)) (.yield (st (i + 1)))) → PySem.W.Looks M h (forIn xs (st 0) f) (st xs.length)
  | [], st, _ => .of_pure rfl
  | x :: xs, st, hs => by
    rw [List.forIn_cons]
    refine (hs 0 x rfl).andThen ?_
    exact looks_forIn xs (fun i => st (i + 1)) fun i y hy => hs (i + 1) y (by simpa using hy)
theorem lk_none {α : Type} : ∀ {l : List (Str × α)} {n : Str}, n ∉ l.map (·.1) → l.lookup n = none
  | [], _, _ => rfl
  | (g, v) :: r, n, h => by
    have h' : ¬ (n = g ∨ n ∈ r.map (·.1)) := by simpa using h
    rw [List.lookup_cons, show (n == g) = false by simpa using fun z => h' (.inl z)]
    exact lk_none fun z => h' (.inr z)
theorem lk_app {α : Type} : ∀ {l r : List (Str × α)} {n : Str}, (l ++ r).lookup n = (l.lookup n).or (r.lookup n)
  | [], r, n => rfl
  | (g, v) :: l, r, n => by
    rw [List.cons_append, List.lookup_cons, List.lookup_cons]
    cases n == g with
    | true => rfl
    | false => exact lk_app
theorem fm_some {α β : Type} {f : α → Option β} {g : α → β} : ∀ xs : List α, (∀ x ∈ xs, f x = some (g x)) → xs.filterMap f = xs.map g
  | [], _ => rfl
  | x :: xs, h => by
    rw [List.filterMap_cons, h x (List.mem_cons_self ..), List.map_cons, fm_some xs fun y hy => h y (List.mem_cons_of_mem _ hy)]
/-- the slots behind i of the keyword-only names -/
def kwSlots (dv : Str → Value) (sl : List (Str × Value)) : List Str → List (Str × Value)
  | [] => sl
  | n :: r => kwSlots dv (if (sl.lookup n).isNone then sl ++ [(n, dv n)] else sl) r
theorem kwSlots_snoc (dv : Str → Value) : ∀ (ns : List Str) (sl : List (Str × Value)) (n : Str), kwSlots dv sl (ns ++ [n]) = (if ((kwSlots dv sl ns).lookup n).isNone then kwSlots dv sl ns ++ [(n, dv n)] else kwSlots dv sl ns)
  | [], sl, n => rfl
  | m :: ns, sl, n => kwSlots_snoc dv ns _ n
theorem kwSlots_lk (dv : Str → Value) : ∀ (ns : List Str) (sl : List (Str × Value)) (n : Str), (kwSlots dv sl ns).lookup n = if n ∈ ns then some ((sl.lookup n).getD (dv n)) else sl.lookup n
  | [], sl, n => by simp [kwSlots]
  | m :: ns, sl, n => by
    rw [kwSlots, kwSlots_lk dv ns]
    by_cases e : n = m
    · subst e
      cases q : sl.lookup n with
      | none =>
        have e1 : (if (none : Option Value).isNone = true then sl ++ [(n, dv n)] else sl).lookup n = some (dv n) := by
          simp only [Option.isNone_none, if_true, lk_app, q, List.lookup_cons, beq_self_eq_true]; rfl
        rw [e1]
        simp
      | some z =>
        have e1 : (if (some z : Option Value).isNone = true then sl ++ [(n, dv n)] else sl).lookup n = some z := by
          rw [if_neg (by simp)]; exact q
        rw [e1]
        simp
    · have e1 : (if (sl.lookup m).isNone = true then sl ++ [(m, dv m)] else sl).lookup n = sl.lookup n := by
        split
        · rw [lk_app, List.lookup_cons, show (n == m) = false by simpa using e]; simp [List.lookup]
        · rfl
      rw [e1]
      simp [e]
theorem bind_kw1 {K : PySem.W.Frag} {fd : FuncData} {D : Addr} {sp : Str} {kn : List Str} (h1 : fd.params.posonlyargs = []) (h2 : fd.params.args.map (·.arg) = [sp]) (h3 : fd.params.kwonlyargs.map (·.arg) = kn) (h4 : fd.params.vararg = none) (h5 : fd.params.kwarg = none) (h6 : fd.defaults = .none) (h7 : fd.kwdefaults = .ref D) (nd : (sp :: kn).Nodup)
    {h : Heap} (X : K.In h) (v : Value) (kws : List (Str × Value)) (hk : ∀ q ∈ kws, q.1 ∈ kn) (ndk : (kws.map (·.1)).Nodup) (dv : Str → Value) (hd : ∀ n ∈ kn, kws.lookup n = none → PySem.W.nsIn K D n = some (some (dv n))) (M : Model) :
    PySem.W.Looks M h (bindArgs fd ⟨[v], kws⟩) ((sp, v) :: kn.map fun n => (n, (kws.lookup n).getD (dv n))) := by
  have nsp : sp ∉ kn := (List.nodup_cons.mp nd).1
  unfold bindArgs
  simp only [h1, h2, h3, h4, h5, h6, h7]
  refine PySem.W.Looks.andThen (looks_forIn kws (fun i => ([(sp, v)] ++ kws.take i, ([] : List (Str × Value)))) fun i x hx => ?_) ?_
  · have hm := hk x (List.mem_of_getElem? hx)
    have hc : ([sp].contains x.fst || kn.contains x.fst) = true := by simp [hm]
    have hl : (List.lookup x.fst ([(sp, v)] ++ kws.take i)) = none := lk_none (by
      intro z
      rw [List.map_append, List.mem_append] at z
      rcases z with z | z
      · have : x.fst = sp := by simpa using z
        exact nsp (this ▸ hm)
      · rw [List.map_take] at z
        have hi := (List.getElem?_eq_some_iff.mp hx)
        obtain ⟨hi1, hi2⟩ := hi
        have h2 : (kws.map (·.1))[i]? = some x.1 := by rw [List.getElem?_map, hx]; rfl
        obtain ⟨j, hj, hj2⟩ := List.getElem_of_mem z
        rw [List.length_take] at hj
        rw [List.getElem_take] at hj2
        obtain ⟨hb, h3⟩ := List.getElem?_eq_some_iff.mp h2
        exact (List.pairwise_iff_getElem.mp ndk j i (by omega) hb (by omega)) (hj2.trans h3.symm))
    dsimp only
    rw [if_pos hc, hl, if_neg (by simp)]
    refine .of_pure ?_
    rw [List.take_succ, hx, List.append_assoc]; rfl
  · dsimp only
    rw [List.take_length]
    refine PySem.W.Looks.andThen (a := none) (.of_pure rfl) ?_
    rw [if_neg (by simp), if_neg (by simp [List.lookup])]
    refine PySem.W.Looks.andThen (a := [(sp, v)] ++ kws) (.of_pure rfl) ?_
    have nk := (List.nodup_cons.mp nd).2
    have lks : ∀ n ∈ kn, ([(sp, v)] ++ kws).lookup n = kws.lookup n := fun n hn => by
      rw [List.cons_append, List.lookup_cons, show (n == sp) = false by simpa using fun (z : n = sp) => nsp (z ▸ hn)]; rfl
    refine PySem.W.Looks.andThen (looks_forIn kn (fun i => (kwSlots dv ([(sp, v)] ++ kws) (kn.take i), ([] : List Str))) fun i n hn => ?_) ?_
    · have hm := List.mem_of_getElem? hn
      have nt : n ∉ kn.take i := fun z => by
        obtain ⟨j, hj, hj2⟩ := List.getElem_of_mem z
        rw [List.length_take] at hj
        rw [List.getElem_take] at hj2
        obtain ⟨hb, h3⟩ := List.getElem?_eq_some_iff.mp hn
        exact (List.pairwise_iff_getElem.mp nk j i (by omega) hb (by omega)) (hj2.trans h3.symm)
      have hl : (kwSlots dv ([(sp, v)] ++ kws) (kn.take i)).lookup n = kws.lookup n := by
        rw [kwSlots_lk, if_neg nt, lks n hm]
      have hs : kwSlots dv ([(sp, v)] ++ kws) (kn.take (i + 1)) = if (kws.lookup n).isNone then kwSlots dv ([(sp, v)] ++ kws) (kn.take i) ++ [(n, dv n)] else kwSlots dv ([(sp, v)] ++ kws) (kn.take i) := by
        rw [List.take_succ, hn]
        show kwSlots dv _ (kn.take i ++ [n]) = _
        rw [kwSlots_snoc, hl]
      dsimp only
      rw [hl, hs]
      cases q : kws.lookup n with
      | none =>
        simp only [Option.isNone_none, if_true]
        refine (PySem.W.looks_nsIn X (hd n hm q)).andThen ?_
        exact .of_pure rfl
      | some z =>
        simp only [Option.isNone_some, Bool.false_eq_true, if_false]
        exact .of_pure rfl
    · rw [List.take_length]
      refine .of_pure ?_
      dsimp only
      rw [if_neg (by simp)]
      congr 1
      show List.filterMap _ (sp :: kn) = _
      have e0 : (kwSlots dv ([(sp, v)] ++ kws) kn).lookup sp = some v := by
        rw [kwSlots_lk, if_neg nsp, List.cons_append, List.lookup_cons, beq_self_eq_true]
      rw [List.filterMap_cons, e0]
      show (sp, v) :: _ = _
      congr 1
      refine fm_some _ fun n hn => ?_
      rw [kwSlots_lk, if_pos hn, lks n hn]
      rfl
/-- the place of a name -/
def nix (n : Str) : List Str → Option Nat
  | [] => none
  | m :: r => if n = m then some 0 else (nix n r).map (· + 1)
theorem nix_zip {n : Str} : ∀ {ns : List Str} {ws : List Value}, ws.length = ns.length → (ns.zip ws).lookup n = (nix n ns).map fun i => ws.getD i .none
  | [], _, _ => rfl
  | m :: r, w :: ws, h => by
    rw [List.zip_cons_cons, List.lookup_cons, nix]
    by_cases e : n = m
    · rw [if_pos e, show (n == m) = true by simpa using e]; rfl
    · rw [if_neg e, show (n == m) = false by simpa using e]
      dsimp only
      rw [nix_zip (by simpa using h), Option.map_map]
      rfl
theorem nix_some {n : Str} : ∀ {ns : List Str}, n ∈ ns → ∃ i, nix n ns = some i ∧ ns[i]? = some n
  | m :: r, h => by
    by_cases e : n = m
    · exact ⟨0, by rw [nix, if_pos e], by rw [e]; rfl⟩
    · obtain ⟨i, h1, h2⟩ := nix_some ((List.mem_cons.mp h).resolve_left e)
      exact ⟨i + 1, by rw [nix, if_neg e, h1]; rfl, by simpa using h2⟩
def kcode (given mn : List Str) (n : Str) : Bool × Nat := match nix n given with
  | some i => (true, i)
  | none => (false, (nix n mn).getD 0)
def pickU (mv ws : List Value) (c : Bool × Nat) : Value := if c.1 = true then ws.getD c.2 .none else mv.getD c.2 .none
def pickW (mz zs : List V) (c : Bool × Nat) : V := if c.1 = true then zs.getD c.2 .non else mz.getD c.2 .non
theorem vals_getD : ∀ {zs : List V} {ws : List Value} (i : Nat), Vals zs ws → RelV (zs.getD i .non) (ws.getD i .none)
  | _, _, _, .nil => by simp only [List.getD_nil]; rfl
  | _, _, 0, .cons r _ => r
  | _, _, i + 1, .cons _ rr => by simpa using vals_getD i rr
theorem vals_map {zs mz : List V} {ws mv : List Value} (r : Vals zs ws) (rm : Vals mz mv) : ∀ cs : List (Bool × Nat), Vals (cs.map (pickW mz zs)) (cs.map (pickU mv ws))
  | [] => .nil
  | c :: cs => .cons (by unfold pickW pickU; split; exact vals_getD _ r; exact vals_getD _ rm) (vals_map r rm cs)
theorem kbn_kw {K : PySem.W.Frag} {x qual : Str} {params : Arguments} {body : List Stmt} {scope : Scope} {D : Addr} {doc pm cdv ct : Value} {an : Option Addr} {sp : Str} {kn : List Str} (given mn : List Str) (codes : List (Bool × Nat)) (mz : List V) (mv : List Value)
    (h1 : params.posonlyargs = []) (h2 : params.args.map (·.arg) = [sp]) (h3 : params.kwonlyargs.map (·.arg) = kn) (h4 : params.vararg = none) (h5 : params.kwarg = none) (nd : (sp :: kn).Nodup)
    (hg : ∀ n ∈ given, n ∈ kn) (gd : given.Nodup) (hm : ∀ n ∈ kn, n ∈ given ∨ n ∈ mn) (hc : kn.map (kcode given mn) = codes) (hmv : ∀ i n, mn[i]? = some n → PySem.W.nsIn K D n = some (some (mv.getD i .none))) (rm : Vals mz mv) :
    KBn K (PySem.W.fnOf x qual params body scope .none (.ref D) doc pm an cdv ct) (sp :: kn) 1 given (fun us ws => us ++ codes.map (pickU mv ws)) (fun vs zs => vs ++ codes.map (pickW mz zs)) := by
  refine ⟨fun s us ws X l1 l2 => ?_, fun r1 r2 => r1.append (vals_map r2 rm codes)⟩
  match us, l1 with
  | [v], _ =>
    have fst_zip : (given.zip ws).map (·.1) = given := by
      rw [List.map_fst_zip]; omega
    refine BindsTo.of_looks fun M => ?_
    have key := bind_kw1 (fd := PySem.W.fnOf x qual params body scope .none (.ref D) doc pm an cdv ct) h1 h2 h3 h4 h5 rfl rfl nd X v (given.zip ws) (fun q hq => hg _ (by rw [← fst_zip]; exact List.mem_map_of_mem hq)) (by rw [fst_zip]; exact gd)
      (fun n => mv.getD ((nix n mn).getD 0) .none) (fun n hn hl => by
        have ng : n ∉ given := fun z => by
          obtain ⟨i, e1, e2⟩ := nix_some z
          rw [nix_zip l2, e1] at hl
          cases hl
        obtain ⟨i, e1, e2⟩ := nix_some ((hm n hn).resolve_left ng)
        rw [e1]
        exact hmv i n e2) M
    have e : (sp, v) :: kn.map (fun n => (n, ((given.zip ws).lookup n).getD (mv.getD ((nix n mn).getD 0) .none))) = (sp :: kn).zip ([v] ++ codes.map (pickU mv ws)) := by
      rw [← hc, List.map_map, List.singleton_append, List.zip_cons_cons]
      congr 1
      have z : ∀ l : List Str, l.map (fun n => (n, ((given.zip ws).lookup n).getD (mv.getD ((nix n mn).getD 0) .none))) = l.zip (l.map (pickU mv ws ∘ kcode given mn)) := by
        intro l
        induction l with
        | nil => rfl
        | cons n l ih =>
          rw [List.map_cons, List.map_cons, List.zip_cons_cons, ih, nix_zip l2]
          congr 2
          show _ = pickU mv ws (kcode given mn n)
          unfold kcode
          split <;> rename_i q <;> rw [q] <;> rfl
      exact z kn
    rw [← e]
    exact key
end Ly
namespace Ly
open PySem PySem.Spec PyProof.Rows L2 Evl
theorem xp_at {K : PySem.W.Frag} {H : Hp} : ∀ {vs : List V} {ds : List Xd} {d : Xd} (i : Nat), XpAll K H vs ds → ds[i]? = some d → Xp K H (vs.getD i .non) d
  | _, _, _, _, .nil, h => by simp at h
  | _, _, _, 0, .cons a _, h => by cases h; exact a
  | _, _, _, i + 1, .cons _ b, h => by simpa using xp_at i b (by simpa using h)
end Ly
namespace Ly
open PySem PySem.Spec PyProof.Rows L2 Evl
/-! ### enumerate(an empty tuple) -/
theorem enumV_new {v : Value} {o : Obj} {S : Heap → Prop} (B : Begins v o S) :
    Meets (Builtin.«enumerate.__new__» ⟨[.type "enumerate", v], []⟩) (fun _ R s => S s.heap ∧ R (.ok (.ret (.ref (s.heap.push o).objs.size))) { s with heap := (s.heap.push o).push { cls := .type "enumerate", data := .fields #[.none, .bool false, .ref s.heap.objs.size, rawInt 0, .none, .none] } }) :=
  .of_wp fun pr wo Ar R sh hh => by
    obtain ⟨ph, pg, pd, pt, po⟩ := sh; obtain ⟨b1, b2⟩ := hh; have su := sub_enumerate
    have q1 : ∀ {A' : Around} {E : Value → Shared → Prop} {Q : Value → Shared → Prop}, Q (.ref ph.objs.size) ⟨ph.push o, pg, pd, pt, po⟩ → wpAny (model pr wo) A' (pyIter v) Q E ⟨ph, pg, pd, pt, po⟩ := fun q => B.iter pr wo _ _ ⟨ph, pg, pd, pt, po⟩ _ b1 q
    wp_walk using q1
    refine wpAny_stack_any fun zz => wpAny_pure ?_; split
    · rename_i cc _ _ _ _ _
      cases (cc == Value.type "enumerate") <;> (wp_walk using q1; exact ⟨_, rfl, b2⟩)
    · wp_walk using q1; exact ⟨_, rfl, b2⟩
theorem enumV_begins {prog : Program} {w : World} {A : Around} {E : Value → Shared → Prop} {s : Shared} {v : Value} {o : Obj} {S : Heap → Prop} {Q : Value → Shared → Prop} (B : Begins v o S) (h1 : S s.heap)
    (h : ∀ h', IsEnum h' (s.heap.objs.size + 1) s.heap.objs.size 0 .none → h'.get? s.heap.objs.size = some o → h'.objs.size = s.heap.objs.size + 2 → (∀ b o, s.heap.get? b = some o → h'.get? b = some o) → Q (.ref (s.heap.objs.size + 1)) { s with heap := h' }) :
    wpAny (model prog w) A (call (.type "enumerate") [v]) Q E s := by
  refine callType_new F.called_enumerate (by decide) (F.typeCall_enumerate_1 _) (F.newCall_enumerate_1 _) (fun y => F.args_object_init_2 y _) F.entry_enumerate_new (enumV_new B) ⟨h1, ?_⟩
  have z1 : (s.heap.push o).objs.size = s.heap.objs.size + 1 := Heap.size_push ..
  show _ ∧ _
  rw [z1]
  have z2 : IsEnum ((s.heap.push o).push { cls := .type "enumerate", data := .fields #[.none, .bool false, .ref s.heap.objs.size, rawInt 0, .none, .none] }) (s.heap.objs.size + 1) s.heap.objs.size 0 .none := by
    have z3 := Heap.get?_push_size (s.heap.push o) (o := { cls := .type "enumerate", data := .fields #[.none, .bool false, .ref s.heap.objs.size, rawInt 0, .none, .none] }) rfl
    rw [z1] at z3; exact z3
  exact ⟨⟨_, z2, rfl⟩, h _ z2 (Heap.get?_push_of_some _ (Heap.get?_push_size _ B.free)) (by rw [Heap.size_push, z1]) fun b o x => Heap.get?_push_of_some _ (Heap.get?_push_of_some _ x)⟩
/-- enumerate of an empty tuple: it only stops -/
def IteV (K : PySem.W.Frag) (a : Addr) : It := ⟨fun i H => False, fun i H v H' => False, fun i H => i = 0 ∧ SqT K H a []⟩
theorem turn_enumV {P : Program} {w : World} {K : PySem.W.Frag} {elts : List Expr} {kk : Nat} {tpos : Pos} (a e it : Addr) (hne : e ≠ it) :
    Turn P w K (.Tuple elts kk tpos) (IteV K a) [e, it] e (fun i h => (∃ old, IsEnum h e it ((i : Nat) : Int) old) ∧ h.IsTupleIter it a i) where
  mem := by simp
  obj := fun i h st b hb => by
    obtain ⟨⟨old, he⟩, ⟨o, ho, hc, hd⟩⟩ := st
    have z : b = e ∨ b = it := by simpa using hb
    rcases z with z | z
    · rw [z]; exact ⟨_, he, fun v q => nomatch q⟩
    · rw [z]; exact ⟨o, ho, fun v q => by rw [hd] at q; cases q⟩
  keep := fun i h h' st k => by
    obtain ⟨⟨old, he⟩, hi⟩ := st
    exact ⟨⟨old, k e (by simp) _ he⟩, hi.at fun o q => k it (by simp) o q⟩
  item := by
    intro X hP hw hK hc i pins s σ H E I hf st hg
    exact hg.elim
  done := by
    intro X hP hw hK hc i pins s σ H E I hf st hg
    subst hP hw hK
    obtain ⟨rfl, hq⟩ := hg
    obtain ⟨⟨old, he⟩, hit⟩ := st
    obtain ⟨la, ra, pa, _⟩ := I.tuple hq
    cases ra
    have na : a ≠ it := fun q => by
      obtain ⟨oa, ha, ka, _⟩ := pa
      obtain ⟨ob, hb, kb, _⟩ := hit
      rw [q, hb] at ha
      cases ha
      rw [kb] at ka
      exact absurd (Value.type.inj ka) (by decide)
    have dr := Draws.tuple (prog := X.prog) (w := X.w) (show X.A.in1.handled = none from I.ok.hd hc) it a na #[]
    refine wpAny_pyNext_enum_endD dr he ⟨hit, pa⟩ fun h1 d => ⟨rfl, ?_⟩
    refine I.turnedL (t' := s.toks) (ch := [e, it]) (fun c o n q => ?_) hf
    exact d c o (fun t => n (by rw [t]; simp)) q
  self := fun A i s Q E st h => by
    obtain ⟨⟨_, he⟩, _⟩ := st
    exact wpAny_pyIter_enum he h
def iEnumV (K : PySem.W.Frag) (ta : TA) : TI := fun σ H R => ta σ H fun vs H1 => ∃ a, vs = [.ref a] ∧ SqT K H1 a [] ∧ R (IteV K a) H1
theorem pi_enumV {X : Cx} {e : Expr} {ta : TA} {p pos tpos : Pos} {elts : List Expr} {kk : Nat} (hg : Gl X "enumerate") (hm : X.mg "enumerate" = none) (ha : PA X [e] ta) (hs : starEach [e] X.env = [(false, eval e X.env)] := by rfl) :
    PI X (.Tuple elts kk tpos) (.Call (.Name "enumerate" p) [e] [] pos) (iEnumV X.K ta) := by
  constructor
  intro pins s σ H R I h
  refine Call_ (ld_blt I hg hm boot_enumerate (PyProof.Rows.callWith_type1 (thn (ha.run pos pins s σ H _ I h) ?_) hs rfl))
  rintro us s1 ⟨vs, H1, J, rz, a, rfl, hq, q⟩
  cases rz with
  | cons r rr =>
    cases rr; cases r
    obtain ⟨la, ra, pa, _⟩ := J.tuple hq
    cases ra
    refine enumV_begins (begins_tuple a #[]) pa fun h' he hit hsz hk => wpAny_pyIter_enum he ?_
    refine ⟨s1.heap.objs.size + 1, [s1.heap.objs.size + 1, s1.heap.objs.size], _, _, H1, rfl, J.kept (t' := s1.toks) hk, turn_enumV a (s1.heap.objs.size + 1) s1.heap.objs.size (Nat.succ_ne_self _), ⟨⟨.none, he⟩, ⟨_, hit, rfl, rfl⟩⟩, fun b hb => ?_, q⟩
    have le : s1.heap.objs.size ≤ b := by
      rcases (by simpa using hb : b = s1.heap.objs.size + 1 ∨ b = s1.heap.objs.size) with rfl | rfl <;> omega
    exact J.fpOk le (J.hok.fresh le)
section
variable {K : PySem.W.Frag} {Mc M : List Addr} {He H : Hp} {is : Ims} {ms : Mus} {σ : L2.St} {tl : TE} {tu tz : TS} {g : TG} {D : Ends} {α : Type} [DecidableEq α] [Dx α]
theorem zq_forNilEV {xs : PySem.W.Tup α} (s : Sg K Mc He H is ms) (h : Hv K (muA ms ++ Mc) tl σ H xs) (hx : xs.items = []) (q : ∀ H1, Sg K Mc He H1 is ms → tz D σ H1) : tSeq (tFor (iEnumV K (tCons tl tNil)) g tu) tz D σ H :=
  h H (Ex.refl H) s.mok _ fun v H1 e d => by
    obtain ⟨a, us, rfl, s1, ds⟩ := d.tupv
    have hl := ds.len
    rw [hx] at hl
    have hu : us = [] := List.length_eq_zero_iff.mp hl
    subst hu
    have s1' : SqT K H1 a [] := ex_t msk_le s1
    refine ⟨a, rfl, s1', fun i m σ' H' => i = 0 ∧ σ' = σ ∧ H' = H1, ⟨0, rfl, rfl, rfl⟩, ?_⟩
    rintro i m σ' H' ⟨rfl, rfl, rfl⟩
    exact .inl ⟨⟨rfl, s1'⟩, q _ (s.ex e)⟩
end
end Ly
namespace Ly
open PySem PySem.Spec PyProof.Rows L2 Evl
/-! ### a op1 b op2 c op3 d, as a test -/
section
variable {X : Cx} {a b c d : Expr} {ta tb tc td : TE} {pos : Pos}
def tChain3 (r1 r2 r3 : R2) (ta tb tc td : TE) : TE := fun σ H Q => ta σ H fun x H1 => tb σ H1 fun y H2 => r1 x y H2 fun z H3 => ∃ k, z = .bl k ∧
  (if k = true then tc σ H3 fun w' H4 => r2 y w' H4 fun z2 H5 => ∃ k2, z2 = .bl k2 ∧ (if k2 = true then td σ H5 fun v' H6 => r3 w' v' H6 Q else Q (.bl false) H5) else Q (.bl false) H3)
theorem pt_chain3 {o1 o2 o3 : CmpOp} {r1 r2 r3 : R2} (h1 : OpR X (compareOp o1) r1) (h2 : OpR X (compareOp o2) r2) (h3 : OpR X (compareOp o3) r3) (ha : PE X a ta) (hb : PE X b tb) (hc : PE X c tc) (hd : PE X d td)
    (hm : lastMarks [o1, o2, o3] [b, c, d] = false := by with_unfolding_all rfl) : PT X (.Compare a [o1, o2, o3] [b, c, d] pos) (tTest (tChain3 r1 r2 r3 ta tb tc td)) := by
  constructor
  intro pins s σ H Q I h
  refine isTrue_chain (thn (ha.run pins s σ H _ I h) fun v s1 ⟨x, H1, I1, rx, q1⟩ => test_link (thn (hb.run pins s1 σ H1 _ I1 q1) fun u s2 ⟨y, H2, I2, ry, q2⟩ => thn (h1 pins s2 σ H2 x y v u _ I2 rx ry q2) fun _ s3 ⟨z, H3, I3, rz, k, e, q3⟩ => ?_)) hm
  subst e; cases rz; apply wpAny_truthy_bool
  cases k with
  | false => obtain ⟨k', e', q'⟩ := q3; cases e'; exact ite_ff ⟨H3, I3, q'⟩
  | true =>
    refine ite_tt (test_link (thn (hc.run pins s3 σ H3 _ I3 q3) fun w' s4 ⟨z', H4, I4, r4, q4⟩ => thn (h2 pins s4 σ H4 y z' u w' _ I4 ry r4 q4) fun _ s5 ⟨z2, H5, I5, r5, k2, e2, q5⟩ => ?_))
    subst e2; cases r5; apply wpAny_truthy_bool
    cases k2 with
    | false => obtain ⟨k', e', q'⟩ := q5; cases e'; exact ite_ff ⟨H5, I5, q'⟩
    | true =>
      refine ite_tt (test_last (thn (hd.run pins s5 σ H5 _ I5 q5) fun p' s6 ⟨y', H6, I6, r6, q6⟩ => thn (h3 pins s6 σ H6 z' y' w' p' _ I6 r4 r6 q6) fun _ s7 ⟨z3, H7, I7, r7, k3, e3, q7⟩ => ?_))
      subst e3; cases r7; apply wpAny_truthy_bool
      exact ⟨H7, I7, q7⟩
end
section
variable {K : PySem.W.Frag} {M : List Addr} {σ : L2.St} {H : Hp} {ta tb tc td : TE}
theorem hv_chain3 {g1 g2 g3 : Int → Int → Bool} {i j k l : Int} (ha : Hv K M ta σ H i) (hb : Hv K M tb σ H j) (hc : Hv K M tc σ H k) (hd : Hv K M td σ H l) :
    Hv K M (tChain3 (rI0 fun i j => .bl (g1 i j)) (rI0 fun i j => .bl (g2 i j)) (rI0 fun i j => .bl (g3 i j)) ta tb tc td) σ H (g1 i j && (g2 j k && g3 k l)) := fun H1 e m Q q =>
  ha H1 e m _ fun v H2 e2 d => hb H2 (e.trans e2) (m.ex e2) _ fun u H3 e3 d' => ⟨i, j, d.int, d'.int, g1 i j, rfl, by
    cases hg : g1 i j with
    | false => rw [if_neg Bool.false_ne_true]; exact q _ H3 (e2.trans e3) (by rw [hg]; exact Dt.ofBool _)
    | true =>
      rw [if_pos rfl]
      refine hc H3 ((e.trans e2).trans e3) ((m.ex e2).ex e3) _ fun z H4 e4 d'' => ⟨j, k, d'.int, d''.int, g2 j k, rfl, ?_⟩
      cases hg2 : g2 j k with
      | false => rw [if_neg Bool.false_ne_true]; exact q _ H4 ((e2.trans e3).trans e4) (by rw [hg, hg2]; exact Dt.ofBool _)
      | true =>
        rw [if_pos rfl]
        refine hd H4 (((e.trans e2).trans e3).trans e4) (((m.ex e2).ex e3).ex e4) _ fun y H5 e5 d3 => ⟨k, l, d''.int, d3.int, q _ H5 (((e2.trans e3).trans e4).trans e5) ?_⟩
        show Dt K _ (V.bl (g3 k l)) _
        rw [hg, hg2]
        exact Dt.ofBool _⟩
end
end Ly
namespace Ly
open PySem PySem.Spec PyProof.Rows L2 Evl
section
variable {K : PySem.W.Frag} {M : List Addr} {σ : L2.St} {H : Hp} {te : TE}
theorem bls_of {H : Hp} : ∀ {vs : List V} {xs : List Bool}, Dts K H vs xs → vs = xs.map V.bl
  | [], [], _ => rfl
  | v :: vs, x :: xs, h => by
    cases h with
    | cons a b => rw [List.map_cons, ← bls_of b, (show Dt K H v x from a).bool]
theorem hv_allL {bs : List Bool} (h : HS K M te σ H bs) : Hv K M (tCB (rAll K) (tCons te tNil)) σ H (bs.all id) := fun H1 e m Q q =>
  h H1 e m _ fun a vs H2 e2 s ds => ⟨a, bs, rfl, by rw [← bls_of ds]; exact s, q _ H2 e2 (Dt.ofBool _)⟩
theorem hv_anyL {bs : List Bool} (h : HS K M te σ H bs) : Hv K M (tCB (rAny K) (tCons te tNil)) σ H (bs.any id) := fun H1 e m Q q =>
  h H1 e m _ fun a vs H2 e2 s ds => ⟨a, bs, rfl, by rw [← bls_of ds]; exact s, q _ H2 e2 (Dt.ofBool _)⟩
end
end Ly

namespace Ly
open PySem PySem.Spec PyProof.Rows L2 Evl
open PySem.W (Datum DatumOrd Tup T3 T4 minOf)
/-! ### set blocks: tuples of five -/
abbrev Ln := T4 Int (Tup Int) (Tup (Int × Tup Int)) (Tup Int)
structure Sbk where
  ls : Tup Ln
  hd : Int
  fl : Bool
  en : Bool
  kn : Bool
  deriving DecidableEq
instance : Dx Sbk := ⟨fun b => .tuple [Dx.toX b.ls, .int b.hd, .bool b.fl, .bool b.en, .bool b.kn]⟩
instance : SomeX Sbk := ⟨fun _ e => by cases e⟩
section
variable {K : PySem.W.Frag} {Mc M : List Addr} {He H H1 : Hp} {is : Ims} {ms : Mus} {σ : L2.St} {te tl : TE} {tz tu : TS} {D : Ends} {b : Sbk} {g : TG}
theorem hv_u0 (h : Hv K M te σ H b) : Hv K M (tOp (rIxT K) te (tC (.int 0))) σ H b.ls := hv_atX 0 h rfl rfl
theorem hv_u1 (h : Hv K M te σ H b) : Hv K M (tOp (rIxT K) te (tC (.int 1))) σ H b.hd := hv_atX 1 h rfl rfl
theorem hv_u2 (h : Hv K M te σ H b) : Hv K M (tOp (rIxT K) te (tC (.int 2))) σ H b.fl := hv_atX 2 h rfl rfl
theorem hv_u3 (h : Hv K M te σ H b) : Hv K M (tOp (rIxT K) te (tC (.int 3))) σ H b.en := hv_atX 3 h rfl rfl
theorem hv_u4 (h : Hv K M te σ H b) : Hv K M (tOp (rIxT K) te (tC (.int 4))) σ H b.kn := hv_atX 4 h rfl rfl
theorem z_unp5U {i j l m o : Nat} (s : Sg K Mc He H is ms) (h : Hv K (muA ms ++ Mc) te σ H b)
    (k : ∀ ls hd fl en kn, ls = b.ls → hd = b.hd → fl = b.fl → en = b.en → kn = b.kn → ∀ v H1, Sg K Mc He H1 ((v, Dx.toX ls) :: is) ms → tz D (((((σ.set i (some v)).set j (some (.int hd))).set l (some (.bl fl))).set m (some (.bl en))).set o (some (.bl kn))) H1) :
    tSeq (tAsg te (gTup K 5 (gCons (gName i) (gCons (gName j) (gCons (gName l) (gCons (gName m) (gCons (gName o) gNil))))))) tz D σ H :=
  h H (Ex.refl H) s.mok _ fun v H1 e dd => by
    have d' : Xp K (msk (muA ms ++ Mc) H1) v (.tuple [Dx.toX b.ls, .int b.hd, .bool b.fl, .bool b.en, .bool b.kn]) := dd
    cases d' with
    | tup st a =>
      cases a with | cons a1 a => cases a with | cons a2 a => cases a with | cons a3 a => cases a with | cons a4 a => cases a with | cons a5 a =>
      cases a
      cases a2; cases a3; cases a4; cases a5
      exact ⟨_, [_, .int b.hd, .bl b.fl, .bl b.en, .bl b.kn], rfl, ex_t msk_le st, rfl, _, [.int b.hd, .bl b.fl, .bl b.en, .bl b.kn], rfl, .int b.hd, [.bl b.fl, .bl b.en, .bl b.kn], rfl, .bl b.fl, [.bl b.en, .bl b.kn], rfl, .bl b.en, [.bl b.kn], rfl, .bl b.kn, [], rfl, rfl, k b.ls b.hd b.fl b.en b.kn rfl rfl rfl rfl rfl _ H1 ((s.ex e).put a1)⟩
end
instance : Datum Sbk where
  toD b := .tuple [Datum.toD b.ls, .int b.hd, .bool b.fl, .bool b.en, .bool b.kn]
  plain b := by
    have := Datum.plain b.ls
    simp only [PyData.plain, PyData.plainAll, this, Bool.and_self]
  eqv a b := by
    have e1 : PyData.eqv (Datum.toD a.ls) (Datum.toD b.ls) = decide (a.ls = b.ls) := Datum.eqv a.ls b.ls
    cases a; cases b
    simp only [PyData.eqv, PyData.eqvAll, e1, eqvI, eqvB]
    rw [Bool.eq_iff_iff]
    simp
  depth := Datum.depth (Tup Ln) + 1
  depth_le b := by
    have := Datum.depth_le b.ls
    simp only [PyData.depth, PyData.depthAll]
    omega
instance : DxD Sbk := ⟨fun {K H v b} h => by
  cases h with
  | tup s a =>
    refine .tup s ?_
    cases a with | cons a1 a => cases a with | cons a2 a => cases a with | cons a3 a => cases a with | cons a4 a => cases a with | cons a5 a =>
    cases a
    cases a2; cases a3; cases a4; cases a5
    exact .cons (DxD.link a1) (.cons (.int _) (.cons (.bl _) (.cons (.bl _) (.cons (.bl _) .nil))))⟩
end Ly
namespace Ly
open PySem PySem.Spec PyProof.Rows L2 Evl
open PySem.W (Datum DatumOrd Tup T3 T4 minOf)
/-! ### enumerate(a tuple) -/
def IteT (K : PySem.W.Frag) (a : Addr) : It :=
  ⟨fun i H => ∃ us v, SqT K H a us ∧ us[i]? = some v, fun i H r H' => ∃ c v, r = .ref c ∧ H c = none ∧ H' = upd H c (.tup [.int (i : Nat), v]) ∧ ∀ us, SqT K H a us → us[i]? = some v, fun i H => ∃ us : List V, SqT K H a us ∧ us.length = i⟩
theorem tup_not_it {a it : Addr} {n : Nat} {h : Heap} {l : Array Value} (pa : h.IsTuple a l) (c : h.IsTupleIter it a n) : a ≠ it := fun q => by
  obtain ⟨oa, ha, ka, _⟩ := pa
  obtain ⟨ob, hb, kb, _⟩ := c
  rw [q, hb] at ha; cases ha
  rw [kb] at ka
  exact absurd (Value.type.inj ka) (by decide)
theorem tup_not_en {a e it : Addr} {k : Int} {old : Value} {h : Heap} {l : Array Value} (pa : h.IsTuple a l) (he : IsEnum h e it k old) : a ≠ e := fun q => by
  obtain ⟨oa, ha, ka, _⟩ := pa
  have hb : h.get? e = some _ := he
  rw [← q, ha] at hb
  cases hb
  exact absurd (Value.type.inj ka) (by decide)
theorem turn_enumT {P : Program} {w : World} {K : PySem.W.Frag} {elts : List Expr} {kk : Nat} {tpos : Pos} (a e it : Addr) (hne : e ≠ it) :
    Turn P w K (.Tuple elts kk tpos) (IteT K a) [e, it] e (fun i h => (∃ old, IsEnum h e it ((i : Nat) : Int) old) ∧ h.IsTupleIter it a i) where
  mem := by simp
  obj := fun i h st b hb => by
    obtain ⟨⟨old, he⟩, ⟨o, ho, hc, hd⟩⟩ := st
    have z : b = e ∨ b = it := by simpa using hb
    rcases z with z | z
    · rw [z]; exact ⟨_, he, fun v q => nomatch q⟩
    · rw [z]; exact ⟨o, ho, fun v q => by rw [hd] at q; cases q⟩
  keep := fun i h h' st k => by
    obtain ⟨⟨old, he⟩, hi⟩ := st
    exact ⟨⟨old, k e (by simp) _ he⟩, hi.at fun o q => k it (by simp) o q⟩
  item := by
    intro X hP hw hK hc i pins s σ H E I hf st hg
    subst hP hw hK
    obtain ⟨us, v, hq, hx⟩ := hg
    obtain ⟨⟨old, he⟩, hit⟩ := st
    obtain ⟨la, ra, pa, _⟩ := I.tuple hq
    obtain ⟨ua, ga, xa⟩ := ra.get hx
    have na := tup_not_it pa hit
    have ne := tup_not_en pa he
    have dr := Draws.tuple (prog := X.prog) (w := X.w) (show X.A.in1.handled = none from I.ok.hd hc) it a na la.toArray
    have lt : i < la.toArray.size := by
      have := (List.getElem?_eq_some_iff.mp ga).1
      simpa using this
    refine wpAny_pyNext_enum_itemC dr he ⟨hit, pa⟩ lt hne (by simp only [List.mem_cons, List.not_mem_nil, or_false, not_or]; exact ⟨hne, fun z => ne z.symm⟩) fun x1 h1 tk y1 y2 y3 y4 y5 y6 => ?_
    have e1 : x1 = ua := by
      have : la[i]? = some x1 := by simpa using y1
      exact Option.some.inj (this.symm.trans ga)
    subst e1
    refine ⟨_, rfl, wpAny_letOwnedTupleGo_enum (s := { s with heap := h1, toks := tk + 1 }) y2 fun h2 f1 f2 => ?_⟩
    have pe : s.heap.objs.size ≠ e := Nat.ne_of_gt (Heap.lt_size he)
    have pn : h2.get? s.heap.objs.size = some { cls := .type "tuple", data := .seq #[.int (i : Int) tk, x1] } := (f2.2 _ pe).trans y4
    have ok : ObjOk X.prog X.w (upd H s.heap.objs.size (.tup [.int (i : Nat), v])) h2 s.heap.objs.size (.tup [.int (i : Nat), v]) := ⟨show 2 ≤ sizeLine by decide, [.int (i : Int) tk, x1], .cons ⟨_, rfl⟩ (.cons xa .nil), _, pn, rfl, _, rfl⟩
    have old' : ∀ c o, c ∉ [e, it] → s.heap.get? c = some o → h2.get? c = some o := fun c o n q => by
      have m1 : c ≠ e := fun t => n (by rw [t]; simp)
      have m2 : c ≠ it := fun t => n (by rw [t]; simp)
      exact (f2.2 c m1).trans (y6 c o m1 m2 q)
    refine ⟨.ref s.heap.objs.size, upd H s.heap.objs.size (.tup [.int (i : Nat), v]), I.turnedNew (t' := tk + 1) (ch := [e, it]) old' hf (Nat.le_refl _) ok, rfl, ⟨_, v, rfl, I.hok.fresh (Nat.le_refl _), rfl, fun l t => ?_⟩, ⟨⟨x1, ?_⟩, ?_⟩, fun c m => ?_⟩
    · rw [I.tuple_inj t hq]; exact hx
    · have e2 : ((i + 1 : Nat) : Int) = (i : Int) + 1 := by omega
      rw [e2]; exact f1
    · exact y3.1.at fun o q => (f2.2 it (Ne.symm hne)).trans q
    · have lc : c < s.heap.objs.size := by
        rcases (by simpa using m : c = e ∨ c = it) with rfl | rfl
        · exact Heap.lt_size he
        · obtain ⟨_, q, _⟩ := hit; exact Heap.lt_size q
      rw [upd_ne (Nat.ne_of_lt lc)]
      exact (hf c m).1
  done := by
    intro X hP hw hK hc i pins s σ H E I hf st hg
    subst hP hw hK
    obtain ⟨us, hq, rfl⟩ := hg
    obtain ⟨⟨old, he⟩, hit⟩ := st
    obtain ⟨la, ra, pa, _⟩ := I.tuple hq
    have na := tup_not_it pa hit
    have dr := Draws.tuple (prog := X.prog) (w := X.w) (show X.A.in1.handled = none from I.ok.hd hc) it a na la.toArray
    have sz : us.length = la.toArray.size := by rw [List.size_toArray]; exact ra.length
    rw [sz] at hit he
    refine wpAny_pyNext_enum_endD dr he ⟨hit, pa⟩ fun h1 d => ⟨rfl, ?_⟩
    refine I.turnedL (t' := s.toks) (ch := [e, it]) (fun c o n q => ?_) hf
    exact d c o (fun t => n (by rw [t]; simp)) q
  self := fun A i s Q E st h => by
    obtain ⟨⟨_, he⟩, _⟩ := st
    exact wpAny_pyIter_enum he h
def iEnumT (K : PySem.W.Frag) (ta : TA) : TI := fun σ H R => ta σ H fun vs H1 => ∃ a us, vs = [.ref a] ∧ SqT K H1 a us ∧ R (IteT K a) H1
theorem pi_enumT {X : Cx} {e : Expr} {ta : TA} {p pos tpos : Pos} {elts : List Expr} {kk : Nat} (hg : Gl X "enumerate") (hm : X.mg "enumerate" = none) (ha : PA X [e] ta) (hs : starEach [e] X.env = [(false, eval e X.env)] := by rfl) :
    PI X (.Tuple elts kk tpos) (.Call (.Name "enumerate" p) [e] [] pos) (iEnumT X.K ta) := by
  constructor
  intro pins s σ H R I h
  refine Call_ (ld_blt I hg hm boot_enumerate (PyProof.Rows.callWith_type1 (thn (ha.run pos pins s σ H _ I h) ?_) hs rfl))
  rintro us s1 ⟨vs, H1, J, rz, a, ws, rfl, hq, q⟩
  cases rz with
  | cons r rr =>
    cases rr; cases r
    obtain ⟨la, ra, pa, _⟩ := J.tuple hq
    refine enumV_begins (begins_tuple a la.toArray) pa fun h' he hit hsz hk => wpAny_pyIter_enum he ?_
    refine ⟨s1.heap.objs.size + 1, [s1.heap.objs.size + 1, s1.heap.objs.size], _, _, H1, rfl, J.kept (t' := s1.toks) hk, turn_enumT a (s1.heap.objs.size + 1) s1.heap.objs.size (Nat.succ_ne_self _), ⟨⟨.none, he⟩, ⟨_, hit, rfl, rfl⟩⟩, fun b hb => ?_, q⟩
    have le : s1.heap.objs.size ≤ b := by
      rcases (by simpa using hb : b = s1.heap.objs.size + 1 ∨ b = s1.heap.objs.size) with rfl | rfl <;> omega
    exact J.fpOk le (J.hok.fresh le)
section
variable {K : PySem.W.Frag} {Mc M : List Addr} {He H : Hp} {is : Ims} {ms : Mus} {σ : L2.St} {tl te ta : TE} {tu tz : TS} {g : TG} {D : Ends} {α : Type} [DecidableEq α] [Dx α]
theorem zq_forET {xs : Tup α} (s : Sg K Mc He H is ms) (h : Hv K (muA ms ++ Mc) tl σ H xs) (Pv : V → Nat → L2.St → Hp → Prop) (h0 : ∀ v H1, Sg K Mc He H1 ((v, Dx.toX xs) :: is) ms → Pv v 0 σ H1)
    (hl : ∀ v i σ' H', Pv v i σ' H' → Dt K (msk (muA ms ++ Mc) H') v xs ∧ MOk (muA ms ++ Mc) H')
    (hs : ∀ v i x w σ' H' H'', (enumL xs.items)[i]? = some x → Pv v i σ' H' → Ex H' H'' → Dt K (msk (muA ms ++ Mc) H'') w x → g w σ' H'' fun σ2 H2 => tu { D with nx := Pv v (i + 1), ct := Pv v (i + 1), bk := tz D } σ2 H2)
    (hd : ∀ v σ' H', Pv v (enumL xs.items).length σ' H' → tz D σ' H') : tSeq (tFor (iEnumT K (tCons tl tNil)) g tu) tz D σ H :=
  h H (Ex.refl H) s.mok _ fun v H1 e d => by
    obtain ⟨a, vs, rfl, s1, ds⟩ := d.tupv
    refine ⟨a, vs, rfl, ex_t msk_le s1, fun i m σ' H' => m = xs.items.length - i ∧ i ≤ xs.items.length ∧ Pv (.ref a) i σ' H', ⟨xs.items.length, by simp, Nat.zero_le _, h0 _ H1 ((s.ex e).put d)⟩, ?_⟩
    rintro i m σ' H' ⟨rfl, hi, p⟩
    obtain ⟨dd, mk⟩ := hl _ i σ' H' p
    obtain ⟨a', us, e', q1, du⟩ := dd.tupv
    cases e'
    have q : SqT K H' a us := ex_t msk_le q1
    have el := du.len
    by_cases hlt : i < xs.items.length
    · refine .inr ⟨⟨us, us[i]'(by omega), q, by simp [show i < us.length by omega]⟩, Pv (.ref a) (i + 1), fun σ2 H2 p' => ⟨xs.items.length - (i + 1), by omega, rfl, hlt, p'⟩, fun x H2 y => ?_⟩
      obtain ⟨T, x1, rfl, nT, rfl, f2⟩ := y
      have gx : xs.items[i]? = some xs.items[i] := by simp [hlt]
      have eT : Ex H' (upd H' T (.tup [.int (i : Int), x1])) := Ex.new nT
      have nTD : T ∉ muA ms ++ Mc := fun z => (mk T z) nT
      have dm : Dt K (msk (muA ms ++ Mc) (upd H' T (.tup [.int (i : Int), x1]))) x1 xs.items[i] := by
        obtain ⟨w, w1, w2⟩ := (Dts.mono (msk_ex eT) du).at gx
        have : x1 = w := Option.some.inj ((f2 us q).symm.trans w1)
        subst this; exact w2
      exact hs _ i ((i : Int), xs.items[i]) (.ref T) σ' H' _ (enumL_get gx) p eT (Dt.ofPair (SqT.of (by rw [msk_out nTD]; exact upd_same)) (Dt.ofInt _) dm)
    · have e : i = xs.items.length := by omega
      subst e
      exact .inl ⟨⟨us, q, by omega⟩, hd _ σ' H' (by rw [enumL_len]; exact p)⟩
end
section
variable {K : PySem.W.Frag} {Mc M : List Addr} {He H : Hp} {is : Ims} {σ : L2.St} {te : TE} {tz : TS} {D : Ends} {α : Type} [DecidableEq α] [Dx α]
/-- a list made by a def that gives it away -/
theorem hf_ofx {xs : List α} (h : HFx K M te σ H (xs.map Dx.toX)) : HF K M te σ H xs := h
theorem zq_retM {xs : List α} {p : Addr} {ta : TE} (s : Sg K Mc He H is [(p, .lst (xs.map Dx.toX))]) (hi : Ev ta σ H (.ref p)) (k : ∀ us H1, He p = none → Ex He H1 → H1 p = some (.lst us) → XpAll K (msk (p :: Mc) H1) us (xs.map Dx.toX) → D.rt (.ref p) H1) : tSeq (tRet ta) tz D σ H :=
  hi H (Ex.refl H) _ fun H1 e1 => by
    have s2 := s.ex e1
    obtain ⟨us, h1, h2⟩ := s2.lst (k := 0) rfl
    refine k us H1 ?_ s2.all h1 h2
    cases q : He p with
    | none => rfl
    | some o =>
      have := s2.ext p o q
      rw [msk_in (by simp [muA])] at this
      cases this
theorem ht_truV {xs : Tup α} (h : Hv K M te σ H xs) : HT M (fun σ H Q => te σ H fun x H' => ∃ k, TruV K x H' k ∧ Q k H') σ H (!xs.items.isEmpty) := fun H1 e m Q q =>
  h H1 e m _ fun v H2 e2 d => by
    obtain ⟨a, us, rfl, s1, ds⟩ := d.tupv
    have hl := ds.len
    refine ⟨!us.isEmpty, .inr (.inl ⟨us, ex_t msk_le s1, rfl⟩), ?_⟩
    have : us.isEmpty = xs.items.isEmpty := by
      cases us <;> cases hx : xs.items <;> simp_all
    rw [this]
    exact q H2 e2
end
/-- a tuple of which only the first number is told -/
structure Hd1 where
  n : Int
  r : List Xd
noncomputable instance : DecidableEq Hd1 := fun _ _ => Classical.propDecidable _
instance : Dx Hd1 := ⟨fun h => .tuple (.int h.n :: h.r)⟩
def hdL (l : Ln) : Hd1 := ⟨l.a, [Dx.toX l.b, Dx.toX l.c, Dx.toX l.d]⟩
def hdN (p : Int × Tup Int) : Hd1 := ⟨p.1, [Dx.toX p.2]⟩
section
variable {K : PySem.W.Frag} {M : List Addr} {H : Hp} {σ : L2.St} {te : TE}
theorem hv_hd1 {h : Hd1} (hh : Hv K M te σ H h) : Hv K M (tOp (rIxT K) te (tC (.int 0))) σ H h.n := hv_atX 0 hh rfl rfl
end
end Ly
namespace Ly
open PySem PySem.Spec PyProof.Rows L2 Evl
instance : TyNm Pgi := ⟨"tuple", fun {K H v x} d => by
  have d' : Xp K H v (.tuple x.x) := d
  cases d' with | tup s a => exact tyx_T s⟩
theorem getD_memG {α : Type} {xs : List α} {i : Nat} {d : α} (h : i < xs.length) : xs.getD i d ∈ xs := List.mem_of_getElem? (getD_get d h)
end Ly

namespace Ly
open PySem PySem.Spec PyProof.Rows L2 Evl
open PySem.W (Datum DatumOrd Tup T3 T4 minOf)
/-! ### atoms (but runs) -/
inductive Atm where
  | sp (n : Int)
  | tie (n : Int)
  | line
  | note (n : Int)
  | label (s : Str)
  | page (n f : Int) (s : Str)
  deriving DecidableEq
def Atm.kind : Atm → Str
  | .sp _ => Str.ofString "space"
  | .tie _ => Str.ofString "tie"
  | .line => Str.ofString "line"
  | .note _ => Str.ofString "note"
  | .label _ => Str.ofString "label"
  | .page _ _ _ => Str.ofString "page"
def Atm.tag : Atm → Nat
  | .sp _ => 0 | .tie _ => 1 | .line => 2 | .note _ => 3 | .label _ => 4 | .page _ _ _ => 5
def Atm.at1 : Atm → Int
  | .sp n => n | .tie n => n | .note n => n | .page n _ _ => n | _ => 0
def Atm.at2 : Atm → Int
  | .page _ f _ => f | _ => 0
def Atm.at3 : Atm → Str
  | .page _ _ s => s | _ => Str.ofString ""
def Atm.itm : Atm → Itm
  | .note n => .note n | .label s => .label s | _ => .forced
def Atm.x : Atm → List Xd
  | .sp n => [.str (Str.ofString "space"), .int n]
  | .tie n => [.str (Str.ofString "tie"), .int n]
  | .line => [.str (Str.ofString "line")]
  | .note n => [.str (Str.ofString "note"), .int n]
  | .label s => [.str (Str.ofString "label"), .str s]
  | .page n f s => [.str (Str.ofString "page"), .int n, .int f, .str s]
instance : Dx Atm := ⟨fun i => .tuple i.x⟩
instance : SomeX Atm := ⟨fun _ e => by cases e⟩
theorem Atm.tag_le (i : Atm) : i.tag ≤ 5 := by cases i <;> simp only [Atm.tag] <;> decide
theorem ad_sp (i : Atm) : (i.kind = Str.ofString "space") = (i.tag = 0) := by
  cases i <;> simp only [Atm.kind, Atm.tag] <;> exact propext ⟨fun h => by first | rfl | (revert h; decide +kernel), fun h => by first | rfl | (revert h; decide)⟩
theorem ad_tie (i : Atm) : (i.kind = Str.ofString "tie") = (i.tag = 1) := by
  cases i <;> simp only [Atm.kind, Atm.tag] <;> exact propext ⟨fun h => by first | rfl | (revert h; decide +kernel), fun h => by first | rfl | (revert h; decide)⟩
theorem ad_line (i : Atm) : (i.kind = Str.ofString "line") = (i.tag = 2) := by
  cases i <;> simp only [Atm.kind, Atm.tag] <;> exact propext ⟨fun h => by first | rfl | (revert h; decide +kernel), fun h => by first | rfl | (revert h; decide)⟩
theorem ad_note (i : Atm) : (i.kind = Str.ofString "note") = (i.tag = 3) := by
  cases i <;> simp only [Atm.kind, Atm.tag] <;> exact propext ⟨fun h => by first | rfl | (revert h; decide +kernel), fun h => by first | rfl | (revert h; decide)⟩
theorem ad_label (i : Atm) : (i.kind = Str.ofString "label") = (i.tag = 4) := by
  cases i <;> simp only [Atm.kind, Atm.tag] <;> exact propext ⟨fun h => by first | rfl | (revert h; decide +kernel), fun h => by first | rfl | (revert h; decide)⟩
theorem ad_page (i : Atm) : (i.kind = Str.ofString "page") = (i.tag = 5) := by
  cases i <;> simp only [Atm.kind, Atm.tag] <;> exact propext ⟨fun h => by first | rfl | (revert h; decide +kernel), fun h => by first | rfl | (revert h; decide)⟩
theorem ad_run (i : Atm) : ¬ i.kind = Str.ofString "run" := by
  cases i <;> simp only [Atm.kind] <;> decide +kernel
section
variable {K : PySem.W.Frag} {Mc M : List Addr} {He H : Hp} {is : Ims} {ms : Mus} {σ : L2.St} {te : TE} {tz : TS} {D : Ends} {i : Atm}
theorem hv_a0 (h : Hv K M te σ H i) : Hv K M (tOp (rIxT K) te (tC (.int 0))) σ H i.kind := hv_atX 0 h rfl (by cases i <;> rfl)
theorem hv_a1 (h : Hv K M te σ H i) (s : i.tag ≠ 2 ∧ i.tag ≠ 4) : Hv K M (tOp (rIxT K) te (tC (.int 1))) σ H i.at1 := hv_atX 1 h rfl (by cases i <;> first | rfl | (exfalso; simp [Atm.tag] at s))
theorem hv_a2 (h : Hv K M te σ H i) (s : i.tag = 5) : Hv K M (tOp (rIxT K) te (tC (.int 2))) σ H i.at2 := hv_atX 2 h rfl (by cases i <;> first | rfl | (exfalso; simp [Atm.tag] at s))
theorem hv_a3 (h : Hv K M te σ H i) (s : i.tag = 5) : Hv K M (tOp (rIxT K) te (tC (.int 3))) σ H i.at3 := hv_atX 3 h rfl (by cases i <;> first | rfl | (exfalso; simp [Atm.tag] at s))
theorem itm_x (s : i.tag = 3 ∨ i.tag = 4) : Dx.toX i = Dx.toX i.itm := by cases i <;> first | rfl | (exfalso; simp [Atm.tag] at s)
theorem hv_aitm (h : Hv K M te σ H i) (s : i.tag = 3 ∨ i.tag = 4) : Hv K M te σ H i.itm := hv_co h (itm_x s)
theorem hv_tupA (h : Hv K M te σ H i) (s : i.tag = 3 ∨ i.tag = 4) : Hv K M (tCB (fun xs H Q => ∃ p ys, xs = [.ref p] ∧ ((SqL K H p ys ∧ ∀ l, H l = none → Q (.ref l) (upd H l (.tup ys))) ∨ (SqT K H p ys ∧ Q (.ref p) H))) (tCons te tNil)) σ H i.itm := fun H1 e m Q q =>
  h H1 e m _ fun v H2 e2 d => by
    have d' : Xp K (msk M H2) v (.tuple i.x) := d
    have d2 : Dt K (msk M H2) v i.itm := by show Xp _ _ _ (Dx.toX i.itm); rw [← itm_x s]; exact d
    cases d' with
    | tup st a => exact ⟨_, _, rfl, .inr ⟨ex_t msk_le st, q _ H2 e2 d2⟩⟩
theorem z_unp4A {a b c d : Nat} (s : Sg K Mc He H is ms) (h : Hv K (muA ms ++ Mc) te σ H i) (ht : i.tag = 5)
    (k : ∀ kd n f l, kd = i.kind → n = i.at1 → f = i.at2 → l = i.at3 → ∀ H1, Sg K Mc He H1 is ms → tz D ((((σ.set a (some (.str kd))).set b (some (.int n))).set c (some (.int f))).set d (some (.str l))) H1) :
    tSeq (tAsg te (gTup K 4 (gCons (gName a) (gCons (gName b) (gCons (gName c) (gCons (gName d) gNil)))))) tz D σ H :=
  h H (Ex.refl H) s.mok _ fun v H1 e dd => by
    cases i with
    | page n f l =>
      have d' : Xp K (msk (muA ms ++ Mc) H1) v (.tuple [.str (Str.ofString "page"), .int n, .int f, .str l]) := dd
      cases d' with
      | tup st x =>
        cases x with | cons a1 x => cases x with | cons a2 x => cases x with | cons a3 x => cases x with | cons a4 x =>
        cases x
        cases a1; cases a2; cases a3; cases a4
        exact ⟨_, [.str (Str.ofString "page"), .int n, .int f, .str l], rfl, ex_t msk_le st, rfl, _, [.int n, .int f, .str l], rfl, _, [.int f, .str l], rfl, _, [.str l], rfl, _, [], rfl, rfl, k _ n f l rfl rfl rfl rfl H1 (s.ex e)⟩
    | _ => simp [Atm.tag] at ht
end
def Atm.d : Atm → List PyData
  | .sp n => [.str (Str.ofString "space"), .int n]
  | .tie n => [.str (Str.ofString "tie"), .int n]
  | .line => [.str (Str.ofString "line")]
  | .note n => [.str (Str.ofString "note"), .int n]
  | .label s => [.str (Str.ofString "label"), .str s]
  | .page n f s => [.str (Str.ofString "page"), .int n, .int f, .str s]
theorem Atm.d_kind (i : Atm) : ∃ r, i.d = .str i.kind :: r := by cases i <;> exact ⟨_, rfl⟩
theorem atkind_tag {i j : Atm} (h : i.kind = j.kind) : i.tag = j.tag := by
  have k0 := ad_sp i; have k1 := ad_tie i; have k2 := ad_line i; have k3 := ad_note i; have k4 := ad_label i; have k5 := ad_page i
  rw [h] at k0 k1 k2 k3 k4 k5
  rw [ad_sp] at k0
  rw [ad_tie] at k1
  rw [ad_line] at k2
  rw [ad_note] at k3
  rw [ad_label] at k4
  rw [ad_page] at k5
  have t1 := Atm.tag_le i
  have t2 := Atm.tag_le j
  have e0 := k0.to_iff; have e1 := k1.to_iff; have e2 := k2.to_iff; have e3 := k3.to_iff; have e4 := k4.to_iff; have e5 := k5.to_iff
  omega
theorem Atm.eqv (a b : Atm) : PyData.eqvAll a.d b.d = decide (a = b) := by
  by_cases h : a.kind = b.kind
  · have ht := atkind_tag h
    cases a <;> cases b <;> first | (exfalso; simp [Atm.tag] at ht; done) | (simp only [Atm.d, PyData.eqvAll, eqvI, eqvS]; simp [Bool.and_assoc])
  · obtain ⟨r, e⟩ := a.d_kind
    obtain ⟨r', e'⟩ := b.d_kind
    rw [e, e', PyData.eqvAll, eqvS, decide_eq_false h, Bool.false_and]
    exact (decide_eq_false fun z => h (by rw [z])).symm
instance : Datum Atm where
  toD i := .tuple i.d
  plain i := by cases i <;> simp only [Atm.d, PyData.plain, PyData.plainAll, Bool.and_self, Bool.and_true, Bool.true_and]
  eqv a b := by simp only [PyData.eqv]; exact Atm.eqv a b
  depth := 2
  depth_le i := by cases i <;> simp only [Atm.d, PyData.depth, PyData.depthAll] <;> (first | decide | omega)
instance : DxD Atm := ⟨fun {K H v i} h => by
  cases h with
  | tup s a =>
    refine .tup s ?_
    cases i with
    | sp n => cases a with | cons a1 a => cases a with | cons a2 a => cases a; cases a1; cases a2; exact .cons (.str _) (.cons (.int _) .nil)
    | tie n => cases a with | cons a1 a => cases a with | cons a2 a => cases a; cases a1; cases a2; exact .cons (.str _) (.cons (.int _) .nil)
    | line => cases a with | cons a1 a => cases a; cases a1; exact .cons (.str _) .nil
    | note n => cases a with | cons a1 a => cases a with | cons a2 a => cases a; cases a1; cases a2; exact .cons (.str _) (.cons (.int _) .nil)
    | label s => cases a with | cons a1 a => cases a with | cons a2 a => cases a; cases a1; cases a2; exact .cons (.str _) (.cons (.str _) .nil)
    | page n f s => cases a with | cons a1 a => cases a with | cons a2 a => cases a with | cons a3 a => cases a with | cons a4 a => cases a; cases a1; cases a2; cases a3; cases a4; exact .cons (.str _) (.cons (.int _) (.cons (.int _) (.cons (.str _) .nil)))⟩
instance : TyNm Itm := ⟨"tuple", fun {K H v x} d => by
  have d' : Xp K H v (.tuple x.x) := d
  cases d' with | tup s a => exact tyx_T s⟩
end Ly

namespace Ly
open PySem PySem.Spec PyProof.Rows L2 Evl
open PySem.W (kxs_mw kxs_ValueError)
/-! ### super().__init__(e) of an own exception over ValueError -/
/-- what is written down of an own class over ValueError whose __init__ (at f) closes over the class's cell -/
structure SupC (K : PySem.W.Frag) (C f cda cc : Addr) (fd : FuncData) (sn file : Str) : Prop where
  fn : ∃ oc od osl, K.lookup f = some ⟨oc, od, .func fd, osl⟩
  head : ∃ ar, (fd.params.posonlyargs ++ fd.params.args).head? = some ar ∧ ar.arg = sn
  code : ∃ oc od vs osl tf, K.lookup cda = some ⟨oc, od, .fields vs, osl⟩ ∧ vs[2]? = some (.str file tf)
  cell : ∃ oc od osl, K.lookup cc = some ⟨oc, od, .cell (some (.ref C)), osl⟩
  sub : PySem.W.mroIn K C (.ref C) = some true
  any : PySem.W.nsIn K cStatics "thirdparty.any" = some none
  sup : PySem.W.ks_superIn K C C "__init__" = some (some (.builtin "ValueError.__init__"))
  ve : PySem.W.subIn K (.ref C) (.type "ValueError") = some true
theorem boot_super : bootBuiltins "super" = some (.type "super") := by decide +kernel
theorem lookup_one {k : Str} {v : Addr} {x : Str} : List.lookup x [(k, v)] = if x = k then some v else none := by
  by_cases h : x = k
  · subst h; simp [List.lookup]
  · have e : (x == k) = false := by simpa using h
    simp [List.lookup, e, h]
section
variable {X : Cx} {pins : List (Addr × Obj)} {σ : L2.St} {H : Hp} {s : Shared}
theorem sup_call {a C u : Addr} {us : List Value} {Q : Value → Shared → Prop} {A : Around} {E : Value → Shared → Prop} (T : OexC X.K C) (I : Inv X pins σ H s) (e : H a = some (exo a C none)) (hu : s.heap.get? u = some (kxs_mw "ValueError.__init__" a)) (hl : us.length ≤ sizeLine)
    (h : ∀ s', Inv X pins σ H s' → Q .none s') : wpAny (model X.prog X.w) A (call (.ref u) us) Q E s := by
  obtain ⟨nm, q, N, bs, bm, sn, sub, ab, col, dd, k0, k1, k2, k3, k5, hC, hbm⟩ := T.cls
  obtain ⟨t1, ho⟩ := exo_at I.hok e
  obtain ⟨hp, g, d, tk, os⟩ := s
  have FB := PySem.F.excBase_ValueError
  refine wpAny_call (codeAny_of_tree ?_)
  show wpAny _ A.in1 (callAny (.ref u) ⟨us, []⟩) _ _ _
  simp only [callAny]
  refine wpAny_bind (wpAny_load hu ?_)
  simp only [kxs_mw, show (Value.type "method-wrapper" == Value.type "method" || Value.type "method-wrapper" == Value.type "builtin_function_or_method" || Value.type "method-wrapper" == Value.type "method-wrapper") = true by decide, if_true]
  refine PySem.W.KFB.if_so (by decide) ?_
  refine wpAny_bind (PySem.W.check_bound_init FB.toExcCallFacts (I.kIn _ _ hC) ho rfl ?_)
  refine wpAny_bind (wpAny_pure (wpAny_pure ?_))
  refine ⟨plainId_quiet FB.init.plain _, codeAny_builtin FB.initEntry ?_⟩
  refine PySem.W.exc_init_tree (cls := .ref C) (t0 := t1) (dv := none) (c2 := .none) (c3 := .none) (b4 := .bool false) ho hl fun h' k hx _ => ?_
  have J := I.write (t' := tk) (x := a) (e := a) (o := exo a C none) (by rw [e]; exact True.intro) (.inl rfl) k ⟨_, hx⟩ (exo_ok hx)
  have eu : upd H a (exo a C none) = H := by
    funext b
    by_cases hb : b = a
    · rw [hb, upd_same, e]
    · rw [upd_ne hb]
  rw [eu] at J
  exact h _ J
theorem sup_init {body : List Stmt} {p0 p1 p2 pos : Pos} {ex : Expr} {te : TE} {a C f cda cc : Addr} {fd : FuncData} {sn file : Str} {i : Nat} {Q : Value → Shared → Prop}
    (T : OexC X.K C) (Z : SupC X.K C f cda cc fd sn file) (hfile : ((X.prog.main.file : Str) == file) = true) (htop : (X.prog.main.scope.names.lookup ("super" : Str)).isSome = false)
    (hks : X.env.kindOf "super" = some .globalImplicit) (hkc : X.env.kindOf "__class__" = some .free) (hka : X.env.kindOf sn = some .local)
    (hfu : X.env.func = some f) (hco : X.env.code = .ref cda) (hce : X.env.cells.lookup ("__class__" : Str) = some cc) (hm : X.mg "super" = none)
    (hi : X.N[i]? = some sn) (hσ : σ[i]? = some (some (.ref a))) (he : PE X ex te) (I : Inv X pins σ H s) (ea : H a = some (exo a C none))
    (h : tCons te tNil σ H fun vs H1 => vs.length ≤ 1000 ∧ H1 a = some (exo a C none) ∧ ∀ s', Inv X pins σ H1 s' → Q .none s')
    {pl : Sem Bool} (hc : eval (.Call (.Attribute (.Call (.Name "super" p0) [] [] p1) "__init__" p2) [ex] [] pos) X.env = (do
      let ov ← attributeBase (.Call (.Name "super" p0) [] [] p1) "__init__" X.env (eval (.Call (.Name "super" p0) [] [] p1) X.env)
      standAt p2.atName
      let (f, first) ← holding [ov] (getMethod ov "__init__" pl)
      callWith pos f first (backTo pos (starEach [ex] X.env)) []) := by rfl)
    (hst : starEach [ex] X.env = (false, eval ex X.env) :: starEach [] X.env := by rfl) :
    PySem.wpAt (model X.prog X.w) X.A (.func body X.env) (eval (.Call (.Attribute (.Call (.Name "super" p0) [] [] p1) "__init__" p2) [ex] [] pos) X.env) Q X.xe s := by
  obtain ⟨oc1, od1, osl1, lf⟩ := Z.fn
  obtain ⟨ar, har, rfl⟩ := Z.head
  obtain ⟨oc2, od2, vs2, osl2, tf, lc, hvs⟩ := Z.code
  obtain ⟨oc3, od3, osl3, lcc⟩ := Z.cell
  obtain ⟨nm, q, N, bs, bm, sn, sub, ab, col, dd, k0, k1, k2, k3, k5, hC, hbm⟩ := T.cls
  have hcl : PySem.W.clsIn X.K C = some { name := nm, bases := bs, mro := .ref C :: bm, ns := N, qualname := q, hasDict := true, slotNames := sn, subclasses := sub, abstract := ab, collection := col, hasDel := false } := by unfold PySem.W.clsIn; rw [hC] <;> rfl
  have X0 := I.kIn
  obtain ⟨hp, g, d, t, os⟩ := s
  refine PySem.ks_wpAt_MethodCall ?_ hc
  refine PySem.ks_wpAt_super_base hks hkc (by decide) hfu (X0 _ _ lf) rfl har hco (X0 _ _ lc) rfl hvs hfile htop ?_
  obtain ⟨mb, b1, b2⟩ := I.mod.blt
  refine PySem.W.ks_loadName_global I.ok.kind hks (Calls.loadGlobal_builtin (env := X.env) (by rw [I.ok.glob]; exact I.mod.glob.keeps I.bk) hm (by rw [I.ok.blt]; exact b1.keeps I.bk) ((b2 _ (by decide)).trans boot_super) ⟨rfl, ?_⟩)
  refine PySem.wpAny_loadName_free I.ok.kind hkc hce ⟨_, X0 _ _ lcc, rfl⟩ ?_
  obtain ⟨m, hn, hl⟩ := I.loc
  obtain ⟨u, ru, lk⟩ := hl i _ (.ref a) hi hσ (.inl hka)
  obtain rfl : u = .ref a := ru
  have hv : m ar.arg = some (.ref a) := by
    rcases lk with ⟨_, z⟩ | ⟨z, _⟩
    · exact z
    · rcases z with z | z <;> (rw [hka] at z; cases z)
  refine PySem.wpAny_loadName_local I.ok.kind hka hn hv ?_
  refine PySem.ks_wpAny_isType_cls (X0 _ _ hC) rfl ⟨rfl, ?_⟩
  obtain ⟨t1, ho⟩ := exo_at I.hok ea
  refine PySem.ks_wpAny_call_super (X0 _ _ hC) rfl ho rfl (fun c z => by cases z) (PySem.W.looks_mroIn X0 Z.sub) (fun h' e k => ?_)
  have I1 : Inv X pins σ H ⟨h', g, d, t, os⟩ := I.kept (t' := t) k
  have I2 : Inv X pins σ H ⟨h'.push (kxs_mw "ValueError.__init__" a), g, d, t + 1, os⟩ := I1.kept (t' := t + 1) (fun b o e => Heap.get?_push_of_some _ e)
  have sup' := Z.sup
  unfold PySem.W.ks_superIn at sup'
  rw [hcl] at sup'
  have hxC : a ≠ C := fun z => by
    rw [z] at ho
    rw [X0 _ _ hC] at ho
    cases ho
  have IA : PySem.W.InstAt h' a { cls := .ref C, dict := none, data := .fields #[.ref t1, .none, .none, .none, .bool false, .none] } C none := ⟨k _ _ ho, rfl, rfl, trivial⟩
  refine PySem.W.kxs_getMethod kxs_ValueError e (PySem.W.looks_opaque I1.kIn Z.any) (l₀ := .ref C :: bm) (fun A Q E s k q => wpAny_bind ((PySem.W.looks_clsIn I1.kIn hcl) A _ E s k (wpAny_pure q))) rfl I1.kIn sup' (IA.type.andThen (PySem.W.looks_subIn I1.kIn Z.ve)) hxC (by decide) ?_
  have hus : h'.objs.size = h'.objs.size := rfl
  have gu : (h'.push (kxs_mw "ValueError.__init__" a)).get? h'.objs.size = some (kxs_mw "ValueError.__init__" a) := Heap.get?_push_at rfl rfl
  have I3 : Inv X (pins ++ [(h'.objs.size, kxs_mw "ValueError.__init__" a)]) σ H ⟨h'.push (kxs_mw "ValueError.__init__" a), g, d, t + 1, os⟩ := I2.pins_of fun p hp => by
    rcases List.mem_append.mp hp with hp | hp
    · exact I2.pin p (List.mem_append_right _ hp)
    · obtain rfl := List.mem_singleton.mp hp
      refine ⟨gu, I1.hok.fresh (Nat.le_refl _), fun z => ?_, I1.nofs (Nat.le_refl _), fun v z => by cases z⟩
      have := I1.lt
      rw [← z] at this
      exact absurd this (Nat.lt_irrefl _)
  have pa : PA X [ex] (tCons te tNil) := pa_cons he pa_nil hst
  show wpAny _ _ (callWith pos (.ref h'.objs.size) [] (backTo pos (starEach [ex] X.env)) []) _ _ _
  have pr := pa.run pos _ _ σ H _ I3 h
  rw [hst] at pr ⊢
  refine PySem.W.kxs_callWith (i := "ValueError.__init__") (x := a) rfl (Calls.evalArgs_plain (thn pr fun us s1 ⟨vs, H1, J, rv, hlen, ea1, q1⟩ => ?_))
  refine ⟨(J.pin _ (List.mem_append_right _ (List.mem_append_right _ (List.mem_singleton.mpr rfl)))).1, ?_⟩
  refine sup_call T J.unpinned ea1 (J.pin _ (List.mem_append_right _ (List.mem_append_right _ (List.mem_singleton.mpr rfl)))).1 ?_ q1
  show us.length ≤ sizeLine
  rw [← Paired.length rv, sizeLine_eq]
  omega
end
/-! ### such an __init__ as a def that keeps its promise -/
section
open NdefX
variable {CX : CXT} {P : Program} {w : World} {K : PySem.W.Frag} {mg : Str → Option Value} {base : Heap}
abbrev nfOf (name qual : Str) (params : Arguments) (body : List Stmt) (scope : Scope) (cc cda : Addr) : NF := ⟨name, qual, params, body, scope, [("__class__", cc)], cda⟩
theorem fn_sup {name qual : Str} {params : Arguments} {rest : List Stmt} {scope : Scope} {cc cda f C : Addr} {N ps : List Str} {dV kV doc pm ct oc : Value} {an od : Option Addr} {osl : Array (Option Value)} {k : Nat} {sp : Sp} {sn file : Str} {ex : Expr} {p0 p1 p2 p3 pos : Pos}
    (lk : K.lookup f = some ⟨oc, od, .func (PySem.W.fnX name qual params (.Expr (.Call (.Attribute (.Call (.Name "super" p0) [] [] p1) "__init__" p2) [ex] [] pos) p3 :: rest) scope [("__class__", cc)] dV kV doc pm an (.ref cda) ct), osl⟩)
    (hcd : PySem.W.codeIn K (.ref cda) qual = true) (S : NScope N ps ["__class__"] scope) (len : ∀ vs H Q E, sp vs H Q E → vs.length = ps.length)
    (T : OexC K C) (Z : SupC K C f cda cc (PySem.W.fnX name qual params (.Expr (.Call (.Attribute (.Call (.Name "super" p0) [] [] p1) "__init__" p2) [ex] [] pos) p3 :: rest) scope [("__class__", cc)] dV kV doc pm an (.ref cda) ct) sn file)
    (hfile : ((P.main.file : Str) == file) = true) (htop : (P.main.scope.names.lookup ("super" : Str)).isSome = false) (hks : scope.names.lookup ("super" : Str) = some .globalImplicit) (hm : mg "super" = none) (h0 : ps[0]? = some sn)
    (hbody : ∀ (A : Around) (outer : List Env) (s : Shared) (H : Hp) (vs : List V) (Q : VK) (E : XK), Room k (A.deeper (envF (nfOf name qual params (.Expr (.Call (.Attribute (.Call (.Name "super" p0) [] [] p1) "__init__" p2) [ex] [] pos) p3 :: rest) scope cc cda) f s.heap.objs.size)) → sp vs H Q E →
      ∃ te t a, PE (ncx CX P w K mg base N (nfOf name qual params (.Expr (.Call (.Attribute (.Call (.Name "super" p0) [] [] p1) "__init__" p2) [ex] [] pos) p3 :: rest) scope cc cda) f A outer s H E) ex te ∧
        PSs (ncx CX P w K mg base N (nfOf name qual params (.Expr (.Call (.Attribute (.Call (.Name "super" p0) [] [] p1) "__init__" p2) [ex] [] pos) p3 :: rest) scope cc cda) f A outer s H E) rest t ∧ vs[0]? = some (.ref a) ∧ H a = some (exo a C none) ∧
        ∀ Q' : List V → Hp → Prop, (∀ us H1, us.length ≤ 1000 → H1 a = some (exo a C none) → t { nx := fun _ H' => Q .non H', rt := Q } (startF N vs [none]) H1 → Q' us H1) → tCons te tNil (startF N vs [none]) H Q')
    {pl : Sem Bool} (hc : ∀ env : Env, eval (.Call (.Attribute (.Call (.Name "super" p0) [] [] p1) "__init__" p2) [ex] [] pos) env = (do
      let ov ← attributeBase (.Call (.Name "super" p0) [] [] p1) "__init__" env (eval (.Call (.Name "super" p0) [] [] p1) env)
      standAt p2.atName
      let (f, first) ← holding [ov] (getMethod ov "__init__" pl)
      callWith pos f first (backTo pos (starEach [ex] env)) []) := by intro _; rfl)
    (hst : ∀ env : Env, starEach [ex] env = (false, eval ex env) :: starEach [] env := by intro _; rfl)
    (hin : ∀ L : Addr, interactive (envF (nfOf name qual params (.Expr (.Call (.Attribute (.Call (.Name "super" p0) [] [] p1) "__init__" p2) [ex] [] pos) p3 :: rest) scope cc cda) f L) = false := by intro _; rfl)
    (hsw : ∀ env : Env, swapsWith (.Call (.Attribute (.Call (.Name "super" p0) [] [] p1) "__init__" p2) [ex] [] pos) none p3.line env = pure false := by intro _; rfl) :
    FnOk P w K mg base CX (k + 1) f (PySem.W.fnX name qual params (.Expr (.Call (.Attribute (.Call (.Name "super" p0) [] [] p1) "__init__" p2) [ex] [] pos) p3 :: rest) scope [("__class__", cc)] dV kV doc pm an (.ref cda) ct) ps sp := by
  refine ⟨len, fun A outer s H args us vs Q E hr e0 hb r hsp => ?_⟩
  have hl := len _ _ _ _ hsp
  have KX : K.In s.heap := e0.mod.kin.keeps fun b o e => (e0.bs b o e).1
  have lim : s.heap.NoLimit := e0.mod.nolimit.keeps fun b o e => (e0.bs b o e).1
  obtain ⟨oc3, od3, osl3, lcc⟩ := Z.cell
  have hcc : H cc = none ∧ ∃ v, s.heap.IsCell cc v := ⟨(e0.bs _ _ (e0.mod.kin _ _ lcc)).2, _, _, (e0.bs _ _ (e0.mod.kin _ _ lcc)).1, rfl⟩
  have c1 : ∀ y c, List.lookup y [(("__class__" : Str), cc)] = some c → H c = none ∧ ∃ v, s.heap.IsCell c v := by
    intro y c e
    rw [lookup_one] at e
    split at e
    · cases e; exact hcc
    · cases e
  have c2 : ∀ x y c, List.lookup x [(("__class__" : Str), cc)] = some c → List.lookup y [(("__class__" : Str), cc)] = some c → x = y := by
    intro x y c e1 e2
    rw [lookup_one] at e1 e2
    split at e1
    · split at e2
      · rename_i z1 z2; rw [z1, z2]
      · cases e2
    · cases e1
  have c3 : ∀ (i : Nat) (y : Str), ([("__class__" : Str)])[i]? = some y → ∃ c, List.lookup y [(("__class__" : Str), cc)] = some c ∧ ∀ v, ([none] : List (Option V))[i]? = some (some v) → ∃ u, L2.RelV v u ∧ s.heap.IsCell c (some u) := by
    intro i y hy
    cases i with
    | zero =>
      obtain rfl : ("__class__" : Str) = y := Option.some.inj hy
      exact ⟨cc, by rw [lookup_one, if_pos rfl], fun v hv => by cases hv⟩
    | succ i => cases hy
  have C1 : CellsAt [(("__class__" : Str), cc)] ["__class__"] [none] s.heap H := ⟨rfl, c1, c2, c3⟩
  refine codeAny_call_function hr.depth (KX _ _ lk) rfl S.co S.gen rfl (PySem.W.codeRec_of KX hcd) (hb _ _ _ _ ?_)
  refine wpAny_newFunctionEnv S.nocell (fun ⟨n, _⟩ hy => S.par n (List.of_mem_zip hy).1) (fun h₁ hns hsb => ⟨lim.fresh _ hsb, ?_⟩) S.kind
  refine PySem.ks_codeAny_funcAt ?_
  have kp : ∀ b o, s.heap.get? b = some o → h₁.get? b = some o := fun b o e => hsb.extBut b o (Nat.ne_of_lt (Heap.lt_size e)) (Heap.get?_push_of_some _ e)
  obtain ⟨te, t, a, pe, pss, hv0, ea, hq⟩ := hbody A outer s H vs Q E (hr.deeper _) hsp
  have I : Inv (ncx CX P w K mg base N (nfOf name qual params (.Expr (.Call (.Attribute (.Call (.Name "super" p0) [] [] p1) "__init__" p2) [ex] [] pos) p3 :: rest) scope cc cda) f A outer s H E) [] (startF N vs [none]) H { s with heap := h₁, toks := s.toks + (ps.zip us).length } := inv_startN S hr.hd e0 hl r C1 hns kp
  have hN0 : N[0]? = some sn := by
    have e := S.pre
    have lt : 0 < ps.length := (List.getElem?_eq_some_iff.mp h0).1
    have e2 : (N.take (ps.length + 1))[0]? = (ps ++ [("__class__" : Str)])[0]? := congrArg (·[0]?) e
    rw [List.getElem?_take_of_lt (by omega), List.getElem?_append_left lt, h0] at e2
    exact e2
  have hs0 : (startF N vs [none])[0]? = some (some (.ref a)) := by
    unfold startF
    rw [List.getElem?_append_left (by rw [List.length_map]; exact (List.getElem?_eq_some_iff.mp hv0).1), List.getElem?_map, hv0]
    rfl
  have fin : ∀ {σ' : L2.St} {H' : Hp} {v : V} {u : Value} {s' : Shared}, Inv (ncx CX P w K mg base N (nfOf name qual params (.Expr (.Call (.Attribute (.Call (.Name "super" p0) [] [] p1) "__init__" p2) [ex] [] pos) p3 :: rest) scope cc cda) f A outer s H E) [] σ' H' s' → L2.RelV v u → Q v H' → CE outer P w H s Q u s' :=
    fun {σ' H' v u s'} J rv q => ⟨v, H', J.os, J.bare, J.base, J.hok, rv, q⟩
  refine PySem.ks_wpAt_execs_cons (PySem.ks_wpAt_Expr_any ?_ (hin _) (hsw _))
  refine sup_init (X := ncx CX P w K mg base N (nfOf name qual params (.Expr (.Call (.Attribute (.Call (.Name "super" p0) [] [] p1) "__init__" p2) [ex] [] pos) p3 :: rest) scope cc cda) f A outer s H E) T Z hfile htop hks (S.frk _ (by simp)) (S.par _ (List.mem_of_getElem? h0)) rfl rfl ((lookup_one (k := "__class__") (v := cc) (x := "__class__")).trans (if_pos rfl)) hm hN0 hs0 pe I ea ?_ (hc _) (hst _)
  refine hq _ fun us1 H1 h1 h2 h3 => ⟨h1, h2, fun s' J => ?_⟩
  refine PySem.wpAt_of_wpAny (wpAny_mono (pss.run [] s' (startF N vs [none]) H1 _ J h3) (fun fl s' hs => ?_) fun e s' hs => hs)
  cases fl with
  | ret u =>
    obtain ⟨v, σ', H', J, rv, q⟩ := hs
    exact fin J rv q
  | next =>
    obtain ⟨σ', H', J, q⟩ := hs
    exact fin (v := V.non) (u := Value.none) J rfl q
  | brk =>
    obtain ⟨_, _, _, q⟩ := hs
    exact False.elim q
  | cont =>
    obtain ⟨_, _, _, q⟩ := hs
    exact False.elim q
end
/-! ### own exceptions of one field -/
def spOne (C : Addr) (fld : Str) (p : V → Prop) : Sp := fun vs H Q _ => ∃ a y, vs = [.ref a, y] ∧ p y ∧ H a = some (exo a C none) ∧ ∀ d, H d = none → d ≠ a → Q .non (upd (upd H d (exd d [(fld, y)])) a (exo a C (some d)))
theorem spOne_len {C : Addr} {fld : Str} {p : V → Prop} {n1 n2 : Str} : ∀ (vs : List V) (H : Hp) (Q : VK) (E : XK), spOne C fld p vs H Q E → vs.length = [n1, n2].length := fun vs H Q E ⟨a, y, e, _⟩ => by rw [e]; rfl
section
open NdefX
variable {N : List Str} {σ : L2.St} {H : Hp} {K : PySem.W.Frag} {C : Addr} {fld : Str} {p : V → Prop}
theorem startF_two {a : Addr} {y : V} (hN : N.length = 3) : startF N [.ref a, y] [none] = [some (.ref a), some y, none] := by
  unfold startF
  rw [hN]
  rfl
/-- the two statements' reading -/
theorem one_body {te : TE} {a : Addr} {y : V} {Q : VK} (hN : N.length = 3) (T : OexC K C) (hno : PySem.W.findIn K (.ref C) fld = some none) (hte : ∀ Q' : VK, (∀ x, Q' x H) → te (startF N [.ref a, y] [none]) H Q') (ea : H a = some (exo a C none))
    (q : ∀ d, H d = none → d ≠ a → Q .non (upd (upd H d (exd d [(fld, y)])) a (exo a C (some d)))) :
    ∀ Q' : List V → Hp → Prop, (∀ us H1, us.length ≤ 1000 → H1 a = some (exo a C none) → tSeq (tOst K fld (tVar 0) (tVar 1)) tNext { nx := fun _ H' => Q .non H', rt := Q } (startF N [.ref a, y] [none]) H1 → Q' us H1) → tCons te tNil (startF N [.ref a, y] [none]) H Q' := fun Q' k => by
  refine hte _ fun x => ?_
  refine k [x] H (by simp) ea ?_
  rw [startF_two hN]
  exact ⟨y, rfl, .ref a, rfl, a, C, rfl, T, hno, .inl ⟨ea, q⟩⟩
end
/-- such an exception is made: what there is behind it -/
theorem make_one {K : PySem.W.Frag} {M : List Addr} {te : TE} {σ : L2.St} {H : Hp} {C : Addr} {fld : Str} {p : V → Prop} {i : Int} {Q : XK} (m : MOk M H) (h : Hv K M te σ H i) (hp : p (.int i))
    (q : ∀ H1 d, Ex H H1 → H1 d = none → Q (.ref C) (some d) (upd H1 d (.xd [(fld, .int i)]))) : tMkO C (spOne C fld p) [] (tCons te tNil) σ H Q := by
  refine h H (Ex.refl H) m _ fun v H1 e d => ?_
  have d' : Xp K (msk M H1) v (.int i) := d
  cases d'
  refine ⟨by simp, fun a ha => ⟨a, .int i, rfl, hp, upd_same, fun d hd hda => ⟨rfl, d, [(fld, .int i)], upd_same, ?_, ?_, ?_⟩⟩⟩
  · rw [upd_ne hda, upd_same]
  · rw [upd_ne hda] at hd; exact hd
  · have hd1 : H1 d = none := by rw [upd_ne hda] at hd; exact hd
    have e1 : upd (del (upd (upd (upd H1 a (exo a C none)) d (exd d [(fld, V.int i)])) a (exo a C (some d))) a) d (.xd [(fld, .int i)]) = upd H1 d (.xd [(fld, .int i)]) := by
      funext b
      by_cases hb : b = d
      · rw [hb, upd_same, upd_same]
      · rw [upd_ne hb, upd_ne hb]
        by_cases hba : b = a
        · rw [hba, del_same, ha]
        · rw [del_ne hba, upd_ne hba, upd_ne hb, upd_ne hba]
    rw [e1]
    exact q H1 d e hd1
/-- a text around one number, as an exception's message -/
theorem fs_int {s1 s2 : Str} {j : Nat} {σ : L2.St} {H : Hp} {i : Int} (hσ : σ[j]? = some (some (.int i))) (hi : i.natAbs.log2 < 1920) (hl : s1.length + 1921 + s2.length ≤ sizeLine) {Q' : VK} (k : ∀ x, Q' x H) :
    tJs [tC (.str s1), tFmt (tVar j), tC (.str s2)] Str.empty σ H fun out H1 => Q' (.str out) H1 := by
  have h1 : (Str.ofString (toString i)).length ≤ 1921 := by rw [PySem.ofString_length]; exact PySem.int_text_length_le (k := 1920) (by decide) hi
  refine ⟨s1, rfl, ?_, .int i, hσ, .inr ⟨i, rfl, hi, _, rfl, ?_, s2, rfl, ?_, k _⟩⟩
  · rw [PySem.Str.length_append]; show 0 + _ ≤ _; omega
  · rw [PySem.Str.length_append, PySem.Str.length_append]; show 0 + _ + _ ≤ _; omega
  · rw [PySem.Str.length_append, PySem.Str.length_append, PySem.Str.length_append]; show 0 + _ + _ + _ ≤ _; omega
theorem log2_few {i : Int} (h0 : 0 ≤ i) (h : i ≤ 1000000) : i.natAbs.log2 < 1920 := by
  have h1 : i.natAbs < 2 ^ 1920 := Nat.lt_of_le_of_lt (show i.natAbs ≤ 1000000 by omega) (by decide +kernel)
  by_cases h2 : i.natAbs = 0
  · rw [h2]; decide
  · exact (Nat.log2_lt h2).mpr h1
/-! ### defs that may raise such an exception: Except Int -/
/-- args, what is asked, what it answers (.ok) or with which number it raises C (.error) -/
def PrX {γ β : Type} [DecidableEq β] [Dx β] (K : PySem.W.Frag) (args : γ → List Xd) (pre : γ → Prop) (F : γ → Except Int β) (C : Addr) (fld : Str) : Sp := fun vs H Q E => ∃ (Mc : List Addr) (c : γ), MOk Mc H ∧ XpAll K (msk Mc H) vs (args c) ∧ pre c ∧
  (∀ b, F c = .ok b → ∀ w H', Ex H H' → Dt K (msk Mc H') w b → Q w H') ∧ ∀ i, F c = .error i → ∀ d H', Ex H H' → H' d = some (.xd [(fld, .int i)]) → E (.ref C) (some d) H'
section
variable {K : PySem.W.Frag} {Mc : List Addr} {He H : Hp} {is : Ims} {ms : Mus} {σ : L2.St} {te : TE} {tr : TA} {tz : TS} {D : Ends} {C : Addr} {fld : Str} {p : V → Prop} {W : WX}
/-- raise C(e) -/
theorem zq_raise {i : Int} (s : Sg K Mc He H is ms) (h : Hv K (muA ms ++ Mc) te σ H i) (hp : p (.int i)) (q : ∀ d H1, Ex He H1 → H1 d = some (.xd [(fld, .int i)]) → W (.ref C) (some d) σ H1) :
    tSeq (fun _ σ H => tMkO C (spOne C fld p) [] (tCons te tNil) σ H fun cls d H' => W cls d σ H') tz D σ H :=
  show tMkO C (spOne C fld p) [] (tCons te tNil) σ H (fun cls d H' => W cls d σ H') from
  make_one s.mok h hp fun H1 d e hd => q d _ (s.ex (e.trans (Ex.new hd))).all upd_same
/-- f(..) as a statement, f may raise C -/
theorem zq_callX {γ β : Type} [DecidableEq β] [Dx β] {args : γ → List Xd} {pre : γ → Prop} {F : γ → Except Int β} (c : γ) (s : Sg K Mc He H is ms) (h : HD K (muA ms ++ Mc) tr σ H (args c)) (hp : pre c) (ok : ∀ b, F c = .ok b → ∀ H1, Sg K Mc He H1 is ms → tz D σ H1)
    (er : ∀ i, F c = .error i → ∀ d H1, Sg K Mc He H1 is ms → H1 d = some (.xd [(fld, .int i)]) → W (.ref C) (some d) σ H1) : tSeq (tDrop (tCallS (PrX K args pre F C fld) (WE W) tr)) tz D σ H :=
  h H (Ex.refl H) s.mok _ fun vs H1 e d => ⟨muA ms ++ Mc, c, s.mok.ex e, d, hp, fun b hb w H' e' _ => ok b hb H' (s.ex (e.trans e')), fun i hi d H' e' hd => er i hi d H' (s.ex (e.trans e')) hd⟩
end
/-! ### promises put together -/
section
variable {P : Program} {w : World} {K : PySem.W.Frag} {mg : Str → Option Value} {base : Heap} {CX : CXT} {k : Nat} {f : Addr} {fd : FuncData} {ps : List Str} {sp sp1 sp2 : Sp}
/-- a def that never raises keeps its promise also where exceptions are told -/
theorem fnok_lift (F : FnOk P w K mg base CX0 k f fd ps sp) : FnOk P w K mg base CX k f fd ps sp := ⟨F.len, fun A outer s H args us vs Q E hr e0 hb r h => codeAny_mono (F.run A outer s H args us vs Q E hr e0 hb r h) fun r s' h' => by
  cases r with
  | error e => exact False.elim h'
  | ok fl => cases fl <;> exact h'⟩
/-- two promises of one def -/
theorem fnok_or (F1 : FnOk P w K mg base CX k f fd ps sp1) (F2 : FnOk P w K mg base CX k f fd ps sp2) : FnOk P w K mg base CX k f fd ps (fun vs H Q E => sp1 vs H Q E ∨ sp2 vs H Q E) :=
  ⟨fun vs H Q E h => h.elim (F1.len vs H Q E) (F2.len vs H Q E), fun A outer s H args us vs Q E hr e0 hb r h => h.elim (F1.run A outer s H args us vs Q E hr e0 hb r) (F2.run A outer s H args us vs Q E hr e0 hb r)⟩
end
/-- isinstance(e, c), e the exception that the suite holds, with its own dict -/
def rIsD (K : PySem.W.Frag) (D a dd : Addr) : List V → Hp → VK → Prop := fun xs H Q => ∃ (c : V) (cv : Value) (b : Bool) (fs : List (Str × V)), xs = [.ref a, c] ∧ (∀ u, RelV c u → u = cv) ∧ PySem.W.kitOne K (.ref D) cv = some b ∧ H dd = some (.xd fs) ∧ Q (.bl b) H
theorem call_isD {X : Cx} {a D dd : Addr} {oe : Obj} {pn : List (Addr × Obj)} (C : ExcC X.K D) (hz : Zc (.ref D) (some dd) oe) (hf : ∃ vs, oe.data = .fields vs) (hcl : (PySem.W.clsIn X.K D).isSome = true) : CallR (X.suite a ((a, oe) :: pn)) (.builtin "isinstance") (rIsD X.K D a dd) := by
  intro pins s σ H xs us Q I r h
  obtain ⟨c, cv, b, fs, rfl, hcv, e, hd, q⟩ := h
  cases r with
  | cons rx rr =>
    cases rr with
    | cons rt rr =>
      cases rr
      cases rx
      have ec := hcv _ rt
      subst ec
      obtain ⟨hget, _⟩ := I.pin (a, oe) (List.mem_append.mpr (.inl List.mem_cons_self))
      obtain ⟨vs, hv⟩ := hf
      obtain ⟨od, hod⟩ : ∃ od, s.heap.get? dd = some od := by
        obtain ⟨mA, ⟨o, es, ep, ho, _⟩, _⟩ := (show ObjOk X.prog X.w H s.heap dd (.xd fs) from I.hok dd _ hd)
        exact ⟨o, ho⟩
      have J : PySem.W.InstAt s.heap a oe D (some od) := by
        obtain ⟨oc, odc, oda, osl⟩ := oe
        obtain ⟨h1, h2⟩ := hz
        dsimp only at h1 h2 hv
        subst h1 h2 hv
        exact ⟨hget, rfl, rfl, hod⟩
      exact PySem.W.kia_one (PySem.W.kitx_exc hcl C.hg C.hk C.hs C.ha C.hn C.ht C.hm) I.kIn J e (fun z => nomatch z) fun tk => ⟨.bl b, H, I.kept (t' := tk) fun _ _ z => z, rfl, q⟩
/-! ### the same where it is known that the exception has no context (so that its suite may call own defs) -/
theorem passN {X : Cx} : Passes (L2N.CX X.prog X.w) X E0 := fun _ _ _ _ _ _ _ h => by
  obtain ⟨_, _, _, _, _, _, _, _, _, _, _, _, z⟩ := h
  exact z.elim
/-- C(e): the exception is made, its own __init__ keeping sp -/
theorem mk_excN {X : Cx} {CX : CXT} {x : Str} {C fI : Addr} {k : Nat} {fd : FuncData} {ps : List Str} {sp : Sp} {e : Expr} {te : TE} {p pos : Pos} (T : OexC X.K C) (iC : PySem.W.findIn X.K (.ref C) "__init__" = some (some (.ref fI))) (tI : PySem.W.typeIn X.K (.ref fI) = some (.type "function"))
    (F1 : FnOk X.prog X.w X.K X.mg X.base CX k fI fd ps sp) (hr : Room (k + 1) X.A) (hb : Binds X.K fd ps []) (hx : Passes CX X E0) (hg : Gl X x) (hm : X.mg x = some (.ref C)) (he : PE X e te)
    (hdb : (x == ("__debug__" : Str)) = false := by decide) (h1 : starEach [e] X.env = (false, eval e X.env) :: starEach [] X.env := by rfl) :
    L2N.PMk X (.Call (.Name x p) [e] [] pos) (tMkO C sp [] (tCons te tNil)) := by
  intro pins s σ H Q I h
  obtain ⟨nm, q, N, bs, bm, sn, sub, ab, col, dd, k0, k1, k2, k3, k5, hC, hbm⟩ := T.cls
  have pa : PA X [e] (tCons te tNil) := pa_cons he pa_nil h1
  refine wpAny_Call_Name_kw (ld_glob I hg hm ?_ hdb)
  refine PySem.W.callWith_K (h₀ := X.base) I.ok.mod.kin T.kC (thn (pa.run pos pins s σ H _ I h) fun us s1 ⟨vs, H1, I1, r1, hz, q1⟩ => ⟨I1.kIn, ?_⟩) h1 rfl
  show wpAny _ _ (call (.ref C) us) _ _ _
  obtain ⟨hp, g, dr, tk, os⟩ := s1
  generalize ha : hp.objs.size + 1 = a at *
  have hsz : hp.objs.size ≤ a := by omega
  have hq := q1 a (I1.hok.fresh hsz)
  rw [List.append_nil] at hq
  have kk : ∀ b o, hp.get? b = some o → ((hp.push (PySem.W.kdv_tup us)).push (PySem.HandSPX.excO C hp.objs.size)).get? b = some o := fun b o z => Heap.get?_push_of_some _ (Heap.get?_push_of_some _ z)
  have hget : ((hp.push (PySem.W.kdv_tup us)).push (PySem.HandSPX.excO C hp.objs.size)).get? a = some (PySem.HandSPX.excO C hp.objs.size) := by subst ha; heap_get
  have I2 : Inv X pins σ (upd H1 a (exo a C none)) ⟨(hp.push (PySem.W.kdv_tup us)).push (PySem.HandSPX.excO C hp.objs.size), g, dr, tk, os⟩ := I1.laid (t' := tk) kk hsz (exo_ok hget)
  have r2 : Vals (V.ref a :: vs) (Value.ref a :: us) := .cons rfl r1
  have hl : (Value.ref a :: us ++ []).length = ps.length := by
    have z := r2.length
    rw [F1.len _ _ _ _ hq] at z
    rw [List.append_nil]
    exact z.symm
  have b2 := hb _ (Value.ref a :: us) I2.kIn hl
  rw [List.append_nil] at b2
  have hus : us.length ≤ sizeLine := by
    rw [← Paired.length r1, sizeLine_eq]
    omega
  have run := F1.run _ X.stack _ _ ⟨Value.ref a :: us, []⟩ (Value.ref a :: us) _ _ (fun _ _ _ => False) (hr.make C us []) (I2.env0.make C us []) b2 r2 hq
  subst ha
  refine wpAny_call (PySem.HandSPX.call_own F.excBase_ValueError (fun Y => PySem.HandSPX.refsVE_contains Y bm hbm) (I1.kIn _ _ hC) (PySem.W.looks_findIn I1.kIn iC) (fun self => PySem.W.bind_fn I1.kIn self tI) hus (codeAny_mono run fun r s' hq' => ?_))
  match r with
  | .error er => exact hx pins σ _ _ er s' I2 hq'
  | .ok .next => exact False.elim hq'
  | .ok .brk => exact False.elim hq'
  | .ok .cont => exact False.elim hq'
  | .ok (.ret u) =>
    obtain ⟨v, H2, os2, bare2, un2, hok2, rv, rfl, d, fs, ea, ed, hd1, q2⟩ := hq'
    obtain ⟨h2, g2, d2, t2, os'⟩ := s'
    obtain ⟨t0, G, J, kG, ge, hoe, na⟩ := mk_end0 (d2 := d2) (t2 := t2) I1 hsz kk un2 hok2 os2 bare2 ea ed hd1
    exact ⟨rv, ⟨_, _, _, ⟨G, g2, d2, t2, os'⟩, _, .ref C, some d, rfl, J, kG, ge, hoe, ⟨rfl, rfl, fun vs hv => by cases hv; rfl⟩, rfl, rfl, na, rfl, bare2, raises_own T.exC T.tyC, q2⟩⟩
/-- a def by its body, at any context of exceptions -/
theorem fun_okC {CX : CXT} {P : Program} {w : World} {K : PySem.W.Frag} {mg : Str → Option Value} {base : Heap} {x qual : Str} {st : Stmt} {f : Addr} {fd : FuncData} {N ps : List Str} {k : Nat} {sp : Sp} (F : Fun K x qual st f fd) (S : FnScope N ps (defScope st)) (len : ∀ vs H Q E, sp vs H Q E → vs.length = ps.length)
    (hbody : ∀ (cdv : Value) (A : Around) (outer : List Env) (s : Shared) (H : Hp) (vs : List V) (Q : VK) (E : XK), Room k (A.deeper (envOfC qual (defScope st) s.heap.objs.size f cdv)) → sp vs H Q E →
      ∃ t, PSs (cxOf CX P w K mg base N qual (defScope st) f cdv A outer s H E) (defBody st) t ∧ t { nx := fun _ H' => Q .non H', rt := Q } (start N vs) H) : FnOk P w K mg base CX (k + 1) f fd ps sp := by
  obtain ⟨oc, od, kV, doc, pm, an, cdv, ct, osl, rfl, lk, hcd⟩ := F.ex
  exact fn_of lk hcd S len fun A outer s H vs Q E hr hsp => hbody cdv A outer s H vs Q E hr hsp
/-- a def by its body, where an exception is handled -/
theorem fun_okH {CX : CXT} {P : Program} {w : World} {K : PySem.W.Frag} {mg : Str → Option Value} {base : Heap} {x qual : Str} {st : Stmt} {f : Addr} {fd : FuncData} {N ps : List Str} {k : Nat} {sp : Sp} (F : Fun K x qual st f fd) (S : FnScope N ps (defScope st)) (len : ∀ vs H Q E, sp vs H Q E → vs.length = ps.length)
    (hbody : ∀ (cdv : Value) (A : Around) (outer : List Env) (s : Shared) (H : Hp) (vs : List V) (Q : VK) (E : XK) (p : Addr × Obj), L2H.Hot1 A p → L2H.RoomH k (A.deeper (envOfC qual (defScope st) s.heap.objs.size f cdv)) → sp vs H Q E →
      ∃ t, PSs (L2H.cxH CX P w K mg base N qual (defScope st) f cdv A outer s H E p) (defBody st) t ∧ t { nx := fun _ H' => Q .non H', rt := Q } (start N vs) H) : L2H.FnH P w K mg base CX (k + 1) f fd ps sp := by
  obtain ⟨oc, od, kV, doc, pm, an, cdv, ct, osl, rfl, lk, hcd⟩ := F.ex
  exact L2H.fn_ofH lk hcd S len fun A outer s H vs Q E p hot hr hsp => hbody cdv A outer s H vs Q E p hot hr hsp
/-- the suite of an except clause bears the exception that it handles -/
theorem hot_suite {X : Cx} {a : Addr} {oe : Obj} {cls : Value} {d : Option Addr} {pn : List (Addr × Obj)} (hz : L2N.Zn cls d oe) (hf : ∃ vs, oe.data = .fields vs) : L2H.HotC (X.suite a ((a, oe) :: pn)) := by
  obtain ⟨vs, hv⟩ := hf
  exact ⟨(a, oe), ⟨rfl, vs, hv, hz.2.2 vs hv⟩, List.mem_cons_self⟩
/-- isinstance(e, c) in a suite, whatever class and dict the clause may meet -/
def rIsG (K : PySem.W.Frag) (D a : Addr) (cls : Value) (d : Option Addr) : List V → Hp → VK → Prop := fun xs H Q => ∃ dd, cls = .ref D ∧ d = some dd ∧ rIsD K D a dd xs H Q
theorem call_isG {X : Cx} {a D : Addr} {oe : Obj} {cls : Value} {d : Option Addr} {pn : List (Addr × Obj)} (C : ExcC X.K D) (hz : Zc cls d oe) (hf : ∃ vs, oe.data = .fields vs) (hcl : (PySem.W.clsIn X.K D).isSome = true) : CallR (X.suite a ((a, oe) :: pn)) (.builtin "isinstance") (rIsG X.K D a cls d) := by
  intro pins s σ H xs us Q I r h
  obtain ⟨dd, rfl, rfl, h⟩ := h
  exact call_isD C hz hf hcl pins s σ H xs us Q I r h
end Ly

namespace Ly
open PySem PySem.Spec PyProof.Rows L2 Evl
open PySem.W (Datum DatumOrd Tup T3 T4)
theorem passH0 {X : Cx} : ∀ σ, PassesAt CX0 X σ ((fun _ => E0 : L2.St → XK) σ) := fun _ _ _ _ _ _ _ h => h.elim
/-! ### defs that raise an own exception; try in a law -/
theorem takes0N {X : Cx} : L2N.Takes X (fun _ _ _ _ => False) := fun _ _ x => by
  obtain ⟨_, _, _, _, _, _, _, _, _, _, _, _, _, _, _, _, z⟩ := x
  exact z.elim
/-- args, what is asked, what it answers (.ok) or with what it raises C (.error) -/
def PrE {γ β ε : Type} [DecidableEq β] [Dx β] (K : PySem.W.Frag) (args : γ → List Xd) (pre : γ → Prop) (F : γ → Except ε β) (C : Addr) (ns : List Str) (xs : ε → List Xd) : Sp := fun vs H Q E => ∃ (Mc : List Addr) (c : γ), MOk Mc H ∧ XpAll K (msk Mc H) vs (args c) ∧ pre c ∧
  (∀ b, F c = .ok b → ∀ w H', Ex H H' → Dt K (msk Mc H') w b → Q w H') ∧ ∀ i, F c = .error i → ∀ d H', Ex H H' → Xp K (msk Mc H') (.ref d) (.exd ns (xs i)) → E (.ref C) (some d) H'
section
variable {K : PySem.W.Frag} {Mc : List Addr} {He H : Hp} {is : Ims} {ms : Mus} {σ : L2.St} {te : TE} {tr : TA} {tz : TS} {D : Ends} {C : Addr} {fld : Str} {p : V → Prop} {W : WX}
/-- raise C(e) -/
theorem zq_raiseE {i : Int} (s : Sg K Mc He H is ms) (h : Hv K (muA ms ++ Mc) te σ H i) (hp : p (.int i)) (q : ∀ d H1, Ex He H1 → Xp K (msk Mc H1) (.ref d) (.exd [fld] [.int i]) → W (.ref C) (some d) σ H1) :
    tSeq (fun _ σ H => tMkO C (spOne C fld p) [] (tCons te tNil) σ H fun cls d H' => W cls d σ H') tz D σ H :=
  show tMkO C (spOne C fld p) [] (tCons te tNil) σ H (fun cls d H' => W cls d σ H') from
  make_one s.mok h hp fun H1 d e hd => q d _ (s.ex (e.trans (Ex.new hd))).all
    (Xp.exd (fs := [(fld, .int i)]) (by rw [msk_out ((s.okc.ex (s.ex e).all).nin hd)]; exact upd_same) rfl rfl (.cons (.int i) .nil))
/-- what a suite's end does -/
def DE (D : Ends) (tz : TS) (j : Nat) : Ends := { nx := fun σ' H' => tz D (σ'.set j none) H', rt := D.rt, bk := fun σ' H' => D.bk (σ'.set j none) H', ct := fun σ' H' => D.ct (σ'.set j none) H' }
section
variable {γ β ε : Type} [DecidableEq β] [Dx β] {args : γ → List Xd} {pre : γ → Prop} {F : γ → Except ε β} {ns : List Str} {xs : ε → List Xd} {j : Nat} {ts : Addr → Value → Option Addr → TS} {Wout : WX}
/-- try: f(..) except C as e -/
theorem zq_tryE (c : γ) (s : Sg K Mc He H is ms) (h : HD K (muA ms ++ Mc) tr σ H (args c)) (hp : pre c) (hx : PySem.W.exmOne K (.ref C) (.ref C) = some true)
    (ok : ∀ b, F c = .ok b → ∀ H1, Sg K Mc He H1 is ms → tz D σ H1)
    (er : ∀ i, F c = .error i → ∀ a d H1, Sg K Mc He H1 ((.ref d, Xd.exd ns (xs i)) :: is) ms → ts a (.ref C) (some d) (DE D tz j) (σ.set j (some (.ref a))) H1) :
    tSeq (fun D σ H => tSeq (tDrop (tCallS (PrE K args pre F C ns xs) (WE (wAs K (.ref C) j ts Wout D)) tr)) tNext D σ H) tz D σ H :=
  h H (Ex.refl H) s.mok _ fun vs H1 e d => ⟨muA ms ++ Mc, c, s.mok.ex e, d, hp, fun b hb w H' e' _ => ok b hb H' (s.ex (e.trans e')),
    fun i hi d H' e' hd => ⟨true, hx, fun _ a ha => er i hi a d H' ⟨(s.ex (e.trans e')).ext, s.okc, s.nd, ⟨hd, (s.ex (e.trans e')).im⟩, (s.ex (e.trans e')).mu⟩, fun z => nomatch z⟩⟩
/-- try: x = f(..) except C as e -/
theorem zq_tryA (c : γ) {i0 : Nat} (s : Sg K Mc He H is ms) (h : HD K (muA ms ++ Mc) tr σ H (args c)) (hp : pre c) (hx : PySem.W.exmOne K (.ref C) (.ref C) = some true)
    (ok : ∀ b, F c = .ok b → ∀ v H1, Sg K Mc He H1 ((v, Dx.toX b) :: is) ms → tz D (σ.set i0 (some v)) H1)
    (er : ∀ i, F c = .error i → ∀ a d H1, Sg K Mc He H1 ((.ref d, Xd.exd ns (xs i)) :: is) ms → ts a (.ref C) (some d) (DE D tz j) (σ.set j (some (.ref a))) H1) :
    tSeq (fun D σ H => tSeq (tAsg (tCallS (PrE K args pre F C ns xs) (WE (wAs K (.ref C) j ts Wout D)) tr) (gName i0)) tNext D σ H) tz D σ H :=
  h H (Ex.refl H) s.mok _ fun vs H1 e d => ⟨muA ms ++ Mc, c, s.mok.ex e, d, hp, fun b hb w H' e' dw => ok b hb w H' ((s.ex (e.trans e')).put dw),
    fun i hi d H' e' hd => ⟨true, hx, fun _ a ha => er i hi a d H' ⟨(s.ex (e.trans e')).ext, s.okc, s.nd, ⟨hd, (s.ex (e.trans e')).im⟩, (s.ex (e.trans e')).mu⟩, fun z => nomatch z⟩⟩
end
end
theorem suite_end {D : Ends} {tz : TS} {j : Nat} {σ : L2.St} {H : Hp} (h : tz D (σ.set j none) H) : tNext (DE D tz j) σ H := h
section
variable {K : PySem.W.Frag} {M : List Addr} {σ : L2.St} {H : Hp}
/-- a call in a suite -/
theorem hv_callS0 {γ β : Type} [DecidableEq β] [Dx β] {args : γ → List Xd} {pre : γ → Prop} {F : γ → β} {tr : TA} {E : L2.St → XK} (c : γ) (h : HD K M tr σ H (args c)) (p : pre c) : Hv K M (tCallS (PrD K args pre F) E tr) σ H (F c) := fun H1 e m Q q =>
  h H1 e m _ fun vs H2 e2 d => ⟨M, c, m.ex e2, d, p, fun w H3 e3 d3 => q w H3 (e2.trans e3) d3⟩
theorem exd_at {d : Addr} {ns : List Str} {ds : List Xd} (h : Xp K H (.ref d) (.exd ns ds)) : ∃ fs, H d = some (.xd fs) ∧ fs.map (·.1) = ns ∧ XpAll K H (fs.map (·.2)) ds := by
  cases h with
  | exd h k v a => exact ⟨_, h, k, by rw [v]; exact a⟩
/-- isinstance(e, c) -/
theorem hv_isG {j : Nat} {C a dd : Addr} {v : V} {cv : Value} {b : Bool} {ns : List Str} {ds : List Xd} (hj : σ[j]? = some (some (.ref a))) (hd : Xp K (msk M H) (.ref dd) (.exd ns ds)) (hc : ∀ u, L2.RelV v u → u = cv) (hk : PySem.W.kitOne K (.ref C) cv = some b) :
    Hv K M (tCB (rIsG K C a (.ref C) (some dd)) (tCons (tVar j) (tCons (tC v) tNil))) σ H b := fun H1 e m Q q => by
  obtain ⟨fs, h1, _, _⟩ := exd_at (dp_mono (msk_ex e) hd)
  exact ⟨_, hj, dd, rfl, rfl, v, cv, b, fs, rfl, hc, hk, msk_le _ _ h1, q _ H1 (Ex.refl H1) (Dt.ofBool b)⟩
theorem lookup_map {fs : List (Str × V)} {n : Str} {i : Nat} (hn : (fs.map (·.1))[i]? = some n) (nd : (fs.map (·.1)).Nodup) : fs.lookup n = (fs.map (·.2))[i]? := by
  induction fs generalizing i with
  | nil => simp at hn
  | cons f r ih =>
    obtain ⟨k, v⟩ := f
    simp only [List.map_cons, List.nodup_cons] at hn nd
    cases i with
    | zero =>
      simp at hn
      subst hn
      simp [List.lookup]
    | succ i =>
      simp at hn
      have hne : n ≠ k := fun z => nd.1 (by rw [← z]; exact List.mem_of_getElem? (by simpa using hn))
      have e : (n == k) = false := by simpa using hne
      simp only [List.lookup, e]
      have := ih (i := i) (by simpa using hn) nd.2
      rw [this]
      simp
/-- e.f -/
theorem hv_xf {α : Type} [DecidableEq α] [Dx α] {j i : Nat} {C a dd : Addr} {f : Str} {ns : List Str} {ds : List Xd} {x : α} (hj : σ[j]? = some (some (.ref a))) (hd : Xp K (msk M H) (.ref dd) (.exd ns ds)) (hi : ns[i]? = some f) (nd : ns.Nodup) (hx : ds[i]? = some (Dx.toX x)) :
    Hv K M (tXf a (.ref C) (some dd) C f (tVar j)) σ H x := fun H1 e m Q q => by
  obtain ⟨fs, h1, h2, h3⟩ := exd_at (dp_mono (msk_ex e) hd)
  obtain ⟨v, hv, dv⟩ := dpa_at h3 hx
  exact ⟨_, hj, rfl, rfl, dd, fs, v, rfl, msk_le _ _ h1, by rw [lookup_map (i := i) (by rw [h2]; exact hi) (by rw [h2]; exact nd)]; exact hv, q v H1 (Ex.refl H1) dv⟩
end
end Ly

namespace Ly
open PySem PySem.Spec PyProof.Rows L2 Evl
open PySem.W (Datum DatumOrd Tup T3 T4)
/-! ### lists that are lent to a def while they may still change -/
/-- an argument: data, or the shell of a list that is only read -/
inductive Ag where
  | im (d : Xd)
  | bo (ds : List Xd)
def AgOk (K : PySem.W.Frag) (M : List Addr) (H : Hp) (v : V) : Ag → Prop
  | .im d => Xp K (msk M H) v d
  | .bo ds => ∃ l ws, v = .ref l ∧ SqL K H l ws ∧ XpAll K (msk M H) ws ds
theorem AgOk.ex {K : PySem.W.Frag} {M : List Addr} {H H' : Hp} {v : V} (e : Ex H H') : ∀ {a : Ag}, AgOk K M H v a → AgOk K M H' v a
  | .im _, h => dp_mono (msk_ex e) h
  | .bo _, ⟨l, ws, h1, h2, h3⟩ => ⟨l, ws, h1, ex_l e h2, dpa_mono (msk_ex e) h3⟩
inductive AgAll (K : PySem.W.Frag) (M : List Addr) (H : Hp) : List V → List Ag → Prop
  | nil : AgAll K M H [] []
  | cons {v : V} {vs : List V} {a : Ag} {as : List Ag} : AgOk K M H v a → AgAll K M H vs as → AgAll K M H (v :: vs) (a :: as)
section
variable {K : PySem.W.Frag} {Mc M : List Addr} {He H H1 H2 : Hp} {is js : Ims} {ms : Mus} {σ : L2.St} {te ta tb tl : TE} {tt : TT} {g : TG}
variable {α β γ : Type} [DecidableEq α] [Dx α] [DecidableEq β] [Dx β]
theorem aga_len : ∀ {vs : List V} {as : List Ag}, AgAll K M H vs as → vs.length = as.length
  | _, _, .nil => rfl
  | _, _, .cons _ b => by rw [List.length_cons, List.length_cons, aga_len b]
theorem aga_inv {vs : List V} {d : Xd} {as : List Ag} (h : AgAll K M H vs (.im d :: as)) : ∃ v r, vs = v :: r ∧ Xp K (msk M H) v d ∧ AgAll K M H r as := by
  cases h with
  | cons a b => exact ⟨_, _, rfl, a, b⟩
theorem aga_invB {vs : List V} {ds : List Xd} {as : List Ag} (h : AgAll K M H vs (.bo ds :: as)) : ∃ l r ws, vs = .ref l :: r ∧ SqL K H l ws ∧ XpAll K (msk M H) ws ds ∧ AgAll K M H r as := by
  cases h with
  | cons a b => obtain ⟨l, ws, rfl, h2, h3⟩ := a; exact ⟨l, _, ws, rfl, h2, h3, b⟩
theorem aga_inv0 {vs : List V} (h : AgAll K M H vs []) : vs = [] := by cases h; rfl
def PrB (K : PySem.W.Frag) (args : γ → List Ag) (pre : γ → Prop) (F : γ → β) : Sp := fun vs H Q _ =>
  ∃ (Mc : List Addr) (c : γ), MOk Mc H ∧ AgAll K Mc H vs (args c) ∧ pre c ∧ ∀ w H', Ex H H' → Dt K (msk Mc H') w (F c) → Q w H'
def HB (K : PySem.W.Frag) (M : List Addr) (ta : TA) (σ : L2.St) (H : Hp) (as : List Ag) : Prop := HA M ta σ H (fun vs H => AgAll K M H vs as)
theorem hb_nil : HB K M tNil σ H [] := fun H1 e m Q q => q [] H1 (Ex.refl H1) .nil
theorem hb_im {tr : TA} {x : α} {as : List Ag} (h : Hv K M te σ H x) (hr : HB K M tr σ H as) : HB K M (tCons te tr) σ H (.im (Dx.toX x) :: as) := fun H1 e m Q q =>
  h H1 e m _ fun v H2 e2 d => hr H2 (e.trans e2) (m.ex e2) _ fun vs H3 e3 p => q _ H3 (e2.trans e3) (.cons (AgOk.ex (a := .im (Dx.toX x)) e3 d) p)
theorem hb_bo {tr : TA} {xs : List α} {as : List Ag} (h : HS K M te σ H xs) (hr : HB K M tr σ H as) : HB K M (tCons te tr) σ H (.bo (xs.map Dx.toX) :: as) := fun H1 e m Q q =>
  h H1 e m _ fun a vs H2 e2 s d => hr H2 (e.trans e2) (m.ex e2) _ fun ws H3 e3 p => q _ H3 (e2.trans e3) (.cons (AgOk.ex (a := .bo (xs.map Dx.toX)) e3 ⟨a, vs, rfl, s, d⟩) p)
theorem hv_callB {args : γ → List Ag} {pre : γ → Prop} {F : γ → β} {tr : TA} {E : XK} (c : γ) (h : HB K M tr σ H (args c)) (p : pre c) : Hv K M (tCall (PrB K args pre F) [] E tr) σ H (F c) := fun H1 e m Q q =>
  h H1 e m _ fun vs H2 e2 d => by
    show PrB K args pre F (vs ++ []) H2 Q E
    rw [List.append_nil]
    exact ⟨M, c, m.ex e2, d, p, fun w H3 e3 d3 => q w H3 (e2.trans e3) d3⟩
theorem Sg.entry (s : Sg K Mc He H is ms) : Ex (msk Mc He) (msk (muA ms ++ Mc) H) := fun a o h => by
  by_cases q : a ∈ Mc
  · rw [msk_in q] at h; cases h
  · rw [msk_out q] at h
    have h2 := s.ext a o h
    by_cases q2 : a ∈ muA ms
    · rw [msk_in q2] at h2; cases h2
    · rw [msk_out q2] at h2
      rw [msk_out (by simp [q, q2])]
      exact h2
/-- a lent list -/
theorem hs_bor (s : Sg K Mc He H is ms) {i : Nat} {l : Addr} {ws : List V} {xs : List α} (q : SqL K He l ws) (d : XpAll K (msk Mc He) ws (xs.map Dx.toX)) (h : σ[i]? = some (some (.ref l))) : HS K (muA ms ++ Mc) (tVar i) σ H xs := fun H1 e1 m Q k =>
  ⟨_, h, k l ws H1 (Ex.refl H1) (ex_l (s.all.trans e1) q) (dpa_mono (s.entry.trans (msk_ex e1)) d)⟩
/-- all of it, for a use that leaves nothing behind -/
theorem hv_bor (s : Sg K Mc He H is ms) {i : Nat} {l : Addr} {ws : List V} {xs : List α} (q : SqL K He l ws) (d : XpAll K (msk Mc He) ws (xs.map Dx.toX)) (h : σ[i]? = some (some (.ref l))) : Hv K [] (tVar i) σ H xs := hv_wholeS s (hs_bor s q d h)
/-! ### comprehensions over a list that may still change -/
theorem msk_newD {D : Addr} (e : Ex H H1) (h : H D = none) : Ex (msk M H) (msk (D :: M) H1) := fun a o q => by
  by_cases z : a ∈ M
  · rw [msk_in z] at q; cases q
  · rw [msk_out z] at q
    have n : a ≠ D := ne_of_none q h
    rw [msk_out (by simp [n, z])]
    exact e a o q
theorem hf_lcS0 {vs : List Nat} (s : Sg K Mc He H is ms) {xs : List α} (ef : α → β) (h : HS K (muA ms ++ Mc) tl σ H xs) (hz : xs.length ≤ 40000)
    (hb : ∀ D x w (ys : List β) H1, Sg K Mc He H1 ((w, Dx.toX x) :: is) ((D, .lst (ys.map Dx.toX)) :: ms) → x ∈ xs →
      ∀ Q : L2.St → Hp → Prop, (∀ σ2, wipe σ2 vs = wipe σ vs → Hv K (muA ((D, Mv.lst (ys.map Dx.toX)) :: ms) ++ Mc) te σ2 H1 (ef x) → Q σ2 H1) → g w (wipe σ vs) H1 Q) :
    HF K (muA ms ++ Mc) (tLc (iList K tl) g tYes te vs) σ H (xs.map ef) := fun H1 e m Q q =>
  h H1 e m _ fun a us H2 e2 s1 ds => by
    refine ⟨a, rfl, ⟨us, s1⟩, fun D hD => ?_⟩
    have sA : Sg K Mc He H2 is ms := (s.ex e).ex e2
    have sB : Sg K Mc He (upd H2 D (.lst [])) is ((D, .lst (([] : List β).map Dx.toX)) :: ms) := sA.new hD ⟨[], rfl, .nil⟩
    refine lc_listD (xs := xs) (M' := D :: (muA ms ++ Mc)) (fun i H' => Ex H2 H' ∧ Sg K Mc He H' is ((D, .lst (((xs.take i).map ef).map Dx.toX)) :: ms)) ⟨Ex.new hD, sB⟩
      (fun i H' _ p => ?_) (fun i x w H' hx p dw => ?_) (fun H' p => ?_)
    · exact ⟨us, ex_l p.1 s1, Dts.mono (msk_newD p.1 hD) ds⟩
    · have hi : i < xs.length := (List.getElem?_eq_some_iff.mp hx).1
      refine hb D x w _ H' (p.2.put dw) (List.mem_of_getElem? hx) _ fun σ2 hw he => ⟨hw, ?_⟩
      have hlen : ((xs.take i).map ef).length < 50000 := by
        rw [List.length_map, List.length_take]
        omega
      exact lc_turn (ms := ms) (tt := tYes) (b := true) (zs := (xs.take (i + 1)).map ef) p.2 hlen (fun H3 => Ex H2 H3 ∧ Sg K Mc He H3 is ((D, .lst (((xs.take (i + 1)).map ef).map Dx.toX)) :: ms)) (fun H2 _ _ _ q => q H2 (Ex.refl H2)) (fun _ => he) (by rw [if_pos rfl, take_snoc hx, List.map_append]; rfl) (fun H3 h4 s3 => ⟨by
        obtain ⟨H4, e4, e5⟩ := h4
        rcases e5 with e5 | ⟨o, e5⟩
        · rw [e5]; exact p.1.trans e4
        · rw [e5]; exact Ex.mut (p.1.trans e4) hD, s3⟩)
    · have z := p.2
      rw [List.take_length] at z
      obtain ⟨us2, h3, h4⟩ := z.lst (k := 0) rfl
      exact q D us2 H' (fresh_back e2 hD) (e2.trans p.1) h3 h4
theorem hv_lcS {vs : List Nat} (s : Sg K Mc He H is ms) {xs : List α} (f : α → Bool) (ef : α → β) (h : HS K (muA ms ++ Mc) tl σ H xs) (hz : xs.length ≤ 40000)
    (hb : ∀ D x w (ys : List β) H1, Sg K Mc He H1 ((w, Dx.toX x) :: is) ((D, .lst (ys.map Dx.toX)) :: ms) → x ∈ xs →
      ∀ Q : L2.St → Hp → Prop, (∀ σ2, wipe σ2 vs = wipe σ vs → HT (muA ((D, Mv.lst (ys.map Dx.toX)) :: ms) ++ Mc) tt σ2 H1 (f x) → (f x = true → Hv K (muA ((D, Mv.lst (ys.map Dx.toX)) :: ms) ++ Mc) te σ2 H1 (ef x)) → Q σ2 H1) → g w (wipe σ vs) H1 Q) :
    Hv K (muA ms ++ Mc) (tLc (iList K tl) g tt te vs) σ H ((xs.filter f).map ef) := fun H1 e m Q q =>
  h H1 e m _ fun a us H2 e2 s1 ds => by
    refine ⟨a, rfl, ⟨us, s1⟩, fun D hD => ?_⟩
    have sA : Sg K Mc He H2 is ms := (s.ex e).ex e2
    have sB : Sg K Mc He (upd H2 D (.lst [])) is ((D, .lst (([] : List β).map Dx.toX)) :: ms) := sA.new hD ⟨[], rfl, .nil⟩
    refine lc_listD (xs := xs) (M' := D :: (muA ms ++ Mc)) (fun i H' => Ex H2 H' ∧ Sg K Mc He H' is ((D, .lst ((((xs.take i).filter f).map ef).map Dx.toX)) :: ms)) ⟨Ex.new hD, sB⟩
      (fun i H' _ p => ?_) (fun i x w H' hx p dw => ?_) (fun H' p => ?_)
    · exact ⟨us, ex_l p.1 s1, Dts.mono (msk_newD p.1 hD) ds⟩
    · have hi : i < xs.length := (List.getElem?_eq_some_iff.mp hx).1
      refine hb D x w _ H' (p.2.put dw) (List.mem_of_getElem? hx) _ fun σ2 hw ht he => ⟨hw, ?_⟩
      have hlen : (((xs.take i).filter f).map ef).length < 50000 := by
        rw [List.length_map]
        have := List.length_filter_le f (xs.take i)
        rw [List.length_take] at this
        omega
      have key := lc_turn (ms := ms) (zs := ((xs.take (i + 1)).filter f).map ef) p.2 hlen (fun H3 => Ex H2 H3 ∧ Sg K Mc He H3 is ((D, .lst ((((xs.take (i + 1)).filter f).map ef).map Dx.toX)) :: ms)) ht he (filter_snoc hx) (fun H3 h4 s3 => ⟨by
        obtain ⟨H4, e4, e5⟩ := h4
        rcases e5 with e5 | ⟨o, e5⟩
        · rw [e5]; exact p.1.trans e4
        · rw [e5]; exact Ex.mut (p.1.trans e4) hD, s3⟩)
      exact key
    · have z := p.2
      rw [List.take_length] at z
      exact q _ H' (e2.trans p.1) (z.frz).im.1
end
section
variable {K : PySem.W.Frag} {Mc M : List Addr} {He H : Hp} {is : Ims} {ms : Mus} {σ : L2.St} {te : TE} {g : TG} {tu tz : TS} {D : Ends}
variable {α : Type} [DecidableEq α] [Dx α]
/-- over a lent list -/
theorem zq_forB {xs : List α} {ii : Nat} {l : Addr} {ws : List V} (s : Sg K Mc He H is ms) (q : SqL K He l ws) (d : XpAll K (msk Mc He) ws (xs.map Dx.toX)) (h : σ[ii]? = some (some (.ref l))) (Pv : Nat → L2.St → Hp → Prop) (h0 : ∀ H1, Sg K Mc He H1 is ms → Pv 0 σ H1)
    (hl : ∀ i σ' H', Pv i σ' H' → ∃ is2 ms2, Sg K Mc He H' is2 ms2 ∧ muA ms2 = muA ms)
    (hs : ∀ i x w σ' H', xs[i]? = some x → Pv i σ' H' → Dt K (msk (muA ms ++ Mc) H') w x → g w σ' H' fun σ2 H2 => tu { D with nx := Pv (i + 1), ct := Pv (i + 1), bk := tz D } σ2 H2)
    (hd : ∀ σ' H', Pv xs.length σ' H' → tz D σ' H') : tSeq (tFor (iList K (tVar ii)) g tu) tz D σ H := by
  refine ⟨_, h, l, rfl, ⟨ws, ex_l s.all q⟩, for_listD (D := { D with nx := tz D }) (M := muA ms ++ Mc) Pv (h0 H s) (fun i σ' H' _ p => ?_) hs hd⟩
  obtain ⟨is2, ms2, s2, e⟩ := hl i σ' H' p
  refine ⟨ws, ex_l s2.all q, ?_⟩
  have := s2.entry
  rw [e] at this
  exact dpa_mono this d
/-- over a tuple of any length -/
theorem zq_forV {xs : Tup α} {tl : TE} (s : Sg K Mc He H is ms) (h : Hv K (muA ms ++ Mc) tl σ H xs) (Pv : V → Nat → L2.St → Hp → Prop) (h0 : ∀ v H1, Sg K Mc He H1 ((v, Dx.toX xs) :: is) ms → Pv v 0 σ H1)
    (hl : ∀ v i σ' H', Pv v i σ' H' → Dt K (msk (muA ms ++ Mc) H') v xs)
    (hs : ∀ v i x w σ' H', xs.items[i]? = some x → Pv v i σ' H' → Dt K (msk (muA ms ++ Mc) H') w x → g w σ' H' fun σ2 H2 => tu { D with nx := Pv v (i + 1), ct := Pv v (i + 1), bk := tz D } σ2 H2)
    (hd : ∀ v σ' H', Pv v xs.items.length σ' H' → tz D σ' H') : tSeq (tFor (iTup K tl) g tu) tz D σ H :=
  h H (Ex.refl H) s.mok _ fun v H1 e d => by
    obtain ⟨a, vs, rfl, s1, ds⟩ := d.tupv
    refine ⟨a, rfl, ⟨vs, ex_t msk_le s1⟩, fun i m σ' H' => m = xs.items.length - i ∧ i ≤ xs.items.length ∧ Pv (.ref a) i σ' H', ⟨xs.items.length, by simp, Nat.zero_le _, h0 _ H1 ((s.ex e).put d)⟩, ?_⟩
    rintro i m σ' H' ⟨rfl, hi, p⟩
    obtain ⟨a', us, e', q1, du⟩ := (hl _ i σ' H' p).tupv
    cases e'
    have q : SqT K H' a us := ex_t msk_le q1
    have el := du.len
    by_cases hlt : i < xs.items.length
    · refine .inr ⟨⟨us, us[i]'(by omega), q, by simp [show i < us.length by omega]⟩, Pv (.ref a) (i + 1), fun σ2 H2 p' => ⟨xs.items.length - (i + 1), by omega, rfl, hlt, p'⟩, fun x H2 y => ?_⟩
      obtain ⟨rfl, f2⟩ := y
      have gx : xs.items[i]? = some xs.items[i] := by simp [hlt]
      obtain ⟨w, w1, w2⟩ := du.at gx
      have : x = w := Option.some.inj ((f2 us q).symm.trans w1)
      subst this
      exact hs _ i _ x σ' _ gx p w2
    · have e : i = xs.items.length := by omega
      subst e
      exact .inl ⟨⟨us, q, by omega⟩, hd _ σ' H' p⟩
/-- what may be none, where it is known that it is not -/
theorem hv_unO {x : Option α} {y : α} (h : Hv K M te σ H x) (e : x = some y) : Hv K M te σ H y := by subst e; exact fun H1 e m Q q => h H1 e m Q fun v H2 e2 d => q v H2 e2 d
theorem hv_getO [SomeX α] {x : Option α} {d : α} (h : Hv K M te σ H x) (e : x.isNone = false) : Hv K M te σ H (Option.getD x d) := by
  cases x with
  | none => cases e
  | some y => exact hv_unO h rfl
end
end Ly

namespace My
open PySem PySem.Spec PyProof.Rows L2 Evl Ly CwR
open PySem.W (Datum DatumOrd Tup T3 T4 minOf)
def topS (i : Nat) : Stmt := PySem.Challenge.pw_folio_k01_rows_of_ways.main.body.getD i (.Pass ⟨0, 0, 0, 0⟩)
structure Txt (K : PySem.W.Frag) (mg : Str → Option Value) where
  f_add_costs : Addr
  d_add_costs : FuncData
  u_add_costs : Fun K "add_costs" "add_costs" (topS 1) f_add_costs d_add_costs
  b_add_costs : Binds K d_add_costs ["one", "other"] []
  g_add_costs : mg "add_costs" = some (.ref f_add_costs)
  f_start_row : Addr
  d_start_row : FuncData
  u_start_row : Fun K "start_row" "start_row" (topS 2) f_start_row d_start_row
  b_start_row : Binds K d_start_row ["key"] []
  g_start_row : mg "start_row" = some (.ref f_start_row)
  f_make_row : Addr
  d_make_row : FuncData
  u_make_row : Fun K "make_row" "make_row" (topS 3) f_make_row d_make_row
  b_make_row : Binds K d_make_row ["rows", "position", "moves"] []
  g_make_row : mg "make_row" = some (.ref f_make_row)
  f_by_key : Addr
  d_by_key : FuncData
  u_by_key : Fun K "by_key" "by_key" (topS 4) f_by_key d_by_key
  b_by_key : Binds K d_by_key ["row"] []
  g_by_key : mg "by_key" = some (.ref f_by_key)
  f_law_cell : Addr
  d_law_cell : FuncData
  u_law_cell : Fun K "_law_cell" "_law_cell" (topS 6) f_law_cell d_law_cell
  b_law_cell : Binds K d_law_cell ["script", "k"] []
  g_law_cell : mg "_law_cell" = some (.ref f_law_cell)
  f_law_draws : Addr
  d_law_draws : FuncData
  u_law_draws : Fun K "_law_draws" "_law_draws" (topS 7) f_law_draws d_law_draws
  b_law_draws : Binds K d_law_draws ["cell", "count"] []
  g_law_draws : mg "_law_draws" = some (.ref f_law_draws)
  f_law_is_integer : Addr
  d_law_is_integer : FuncData
  u_law_is_integer : Fun K "_law_is_integer" "_law_is_integer" (topS 8) f_law_is_integer d_law_is_integer
  b_law_is_integer : Binds K d_law_is_integer ["actual"] []
  g_law_is_integer : mg "_law_is_integer" = some (.ref f_law_is_integer)
  f_law_moves : Addr
  d_law_moves : FuncData
  u_law_moves : Fun K "_law_moves" "_law_moves" (topS 9) f_law_moves d_law_moves
  b_law_moves : Binds K d_law_moves ["script", "position", "start_key"] []
  g_law_moves : mg "_law_moves" = some (.ref f_law_moves)
  f_law_all_ways : Addr
  d_law_all_ways : FuncData
  u_law_all_ways : Fun K "_law_all_ways" "_law_all_ways" (topS 10) f_law_all_ways d_law_all_ways
  b_law_all_ways : Binds K d_law_all_ways ["start_key", "moves_of"] []
  g_law_all_ways : mg "_law_all_ways" = some (.ref f_law_all_ways)
  f_law_expected : Addr
  d_law_expected : FuncData
  u_law_expected : Fun K "_law_expected" "_law_expected" (topS 11) f_law_expected d_law_expected
  b_law_expected : Binds K d_law_expected ["ways", "position"] []
  g_law_expected : mg "_law_expected" = some (.ref f_law_expected)
  f_law_same : Addr
  d_law_same : FuncData
  u_law_same : Fun K "_law_same" "_law_same" (topS 12) f_law_same d_law_same
  b_law_same : Binds K d_law_same ["actual", "expected"] []
  g_law_same : mg "_law_same" = some (.ref f_law_same)
  f_law : Addr
  d_law : FuncData
  u_law : Fun K "law" "law" (topS 13) f_law d_law
  b_law : Binds K d_law ["script"] []
  g_law : mg "law" = some (.ref f_law)
  n_bool : mg "bool" = none
  n_int : mg "int" = none
  n_isinstance : mg "isinstance" = none
  n_len : mg "len" = none
  n_list : mg "list" = none
  n_range : mg "range" = none
  n_sorted : mg "sorted" = none
  n_tuple : mg "tuple" = none
section
variable {P : Program} {w : World} {K : PySem.W.Frag} {mg : Str → Option Value} {base : Heap}
def m_add_costs (one_ : (T3 Int Int Int)) (other_ : (T3 Int Int Int)) : (T3 Int Int Int) :=
  (T3.mk (one_.a + other_.a) (one_.b + other_.b) (one_.c + other_.c))
abbrev s_add_costs : Stmt := (topS 1)
theorem sc_add_costs : FnScope ["one", "other"] ["one", "other"] (defScope s_add_costs) := ⟨rfl, rfl, rfl, by decide +kernel, rfl, by decide +kernel, by decide +kernel⟩
abbrev sp_add_costs (K : PySem.W.Frag) : Sp := PrD K (fun c : (T3 Int Int Int) × (T3 Int Int Int) => [Dx.toX c.1, Dx.toX c.2]) (fun c => True) (fun c => (m_add_costs c.1 c.2 : (T3 Int Int Int)))
theorem ok_add_costs (T : Txt K mg) : FnOk P w K mg base CX0 1 T.f_add_costs T.d_add_costs ["one", "other"] (sp_add_costs K) := by
  refine T.u_add_costs.ok sc_add_costs (fun vs H Q E h => ?_) (fun cdv A outer s H vs Q E hr h => ?_)
  · obtain ⟨Mc, c, mok, da, pre, q⟩ := h
    exact (dpa_len da)
  · obtain ⟨Mc, c, mok, da, pre, q⟩ := h
    obtain ⟨one_, other_⟩ := c
    dsimp only at da pre q
    obtain ⟨v0, w0, rfl, d0, da0⟩ := dpa_inv da
    obtain ⟨v1, w1, rfl, d1, da1⟩ := dpa_inv da0
    cases dpa_inv0 da1
    have s0 : Sg K Mc H H [(v0, Dx.toX one_), (v1, Dx.toX other_)] [] := Sg.enter mok ⟨d0, ⟨d1, True.intro⟩⟩
    refine ⟨_, (pss_cons (ps_ret (pe_tup (pa_cons (pe_op op_add (pe_ix ix_tup (pv 0) pe_int (fun _ _ => rfl)) (pe_ix ix_tup (pv 1) pe_int (fun _ _ => rfl))) (pa_cons (pe_op op_add (pe_ix ix_tup (pv 0) pe_int (fun _ _ => rfl)) (pe_ix ix_tup (pv 1) pe_int (fun _ _ => rfl))) (pa_cons (pe_op op_add (pe_ix ix_tup (pv 0) pe_int (fun _ _ => rfl)) (pe_ix ix_tup (pv 1) pe_int (fun _ _ => rfl))) pa_nil))))) pss_nil), ?_⟩
    have hF1 : m_add_costs one_ other_ = (T3.mk (one_.a + other_.a) (one_.b + other_.b) (one_.c + other_.c)) := (by  first | (simp only [m_add_costs, if_true, if_false, Bool.false_eq_true, decide_true, decide_false, Option.getD_some, Option.isNone_none, Option.isNone_some, Bool.not_true, Bool.not_false, ↓reduceIte]; done) | (rfl; done) | ((unfold m_add_costs); (dsimp only); first | done | rfl))
    exact zq_ret s0 (hv_tup3 (hv_add (hv_t30 (p := one_) (hv_var (x := one_) rfl s0.im.1)) (hv_t30 (p := other_) (hv_var (x := other_) rfl s0.im.2.1))) (hv_add (hv_t31 (p := one_) (hv_var (x := one_) rfl s0.im.1)) (hv_t31 (p := other_) (hv_var (x := other_) rfl s0.im.2.1))) (hv_add (hv_t32 (p := one_) (hv_var (x := one_) rfl s0.im.1)) (hv_t32 (p := other_) (hv_var (x := other_) rfl s0.im.2.1)))) fun v H' e d => q v H' e (by rw [hF1]; exact d)
def m_start_row (key_ : Int) : (List (T3 Int (T3 Int Int Int) (Tup (Int × Int)))) :=
  [(T3.mk key_ (T3.mk (0 : Int) (0 : Int) (0 : Int)) (Tup.mk []))]
abbrev s_start_row : Stmt := (topS 2)
theorem sc_start_row : FnScope ["key"] ["key"] (defScope s_start_row) := ⟨rfl, rfl, rfl, by decide +kernel, rfl, by decide +kernel, by decide +kernel⟩
abbrev sp_start_row (K : PySem.W.Frag) : Sp := PrD K (fun c : Int => [Dx.toX c]) (fun c => True) (fun c => (m_start_row c : (List (T3 Int (T3 Int Int Int) (Tup (Int × Int))))))
theorem ok_start_row (T : Txt K mg) : FnOk P w K mg base CX0 1 T.f_start_row T.d_start_row ["key"] (sp_start_row K) := by
  refine T.u_start_row.ok sc_start_row (fun vs H Q E h => ?_) (fun cdv A outer s H vs Q E hr h => ?_)
  · obtain ⟨Mc, c, mok, da, pre, q⟩ := h
    exact (dpa_len da)
  · obtain ⟨Mc, c, mok, da, pre, q⟩ := h
    obtain ⟨key_, rfl⟩ : ∃ z, z = c := ⟨c, rfl⟩
    dsimp only at da pre q
    obtain ⟨v0, w0, rfl, d0, da0⟩ := dpa_inv da
    cases dpa_inv0 da0
    cases (Dt.int d0)
    have s0 : Sg K Mc H H [] [] := Sg.enter mok True.intro
    refine ⟨_, (pss_cons (ps_ret (pe_lst (pa_cons (pe_tup (pa_cons (pv 0) (pa_cons (pe_tup (pa_cons pe_int (pa_cons pe_int (pa_cons pe_int pa_nil)))) (pa_cons (pe_tup pa_nil) pa_nil)))) pa_nil))) pss_nil), ?_⟩
    have hF1 : m_start_row key_ = [(T3.mk key_ (T3.mk (0 : Int) (0 : Int) (0 : Int)) (Tup.mk []))] := (by  first | (simp only [m_start_row, if_true, if_false, Bool.false_eq_true, decide_true, decide_false, Option.getD_some, Option.isNone_none, Option.isNone_some, Bool.not_true, Bool.not_false, ↓reduceIte]; done) | (rfl; done) | ((unfold m_start_row); (dsimp only); first | done | rfl))
    exact zq_ret s0 (hv_lst (has_cons (hv_tup3 (hv_vI rfl) (hv_tup3 (hv_int 0) (hv_int 0) (hv_int 0)) (hv_tupv has_nil (Nat.le_of_ble_eq_true rfl))) has_nil) (Nat.le_of_ble_eq_true rfl)) fun v H' e d => q v H' e (by rw [hF1]; exact d)
def m_by_key (row_ : (List (T3 Int (T3 Int Int Int) (Tup (Int × Int))))) : (Dc Int ((T3 Int Int Int) × (Tup (Int × Int)))) :=
  (Dc.of row_ (fun (c_ : (T3 Int (T3 Int Int Int) (Tup (Int × Int)))) => c_.a) (fun (c_ : (T3 Int (T3 Int Int Int) (Tup (Int × Int)))) => (c_.b, c_.c)))
abbrev s_by_key : Stmt := (topS 4)
theorem sc_by_key : FnScope ["row", "key", "cost", "way"] ["row"] (defScope s_by_key) := ⟨rfl, rfl, rfl, by decide +kernel, rfl, by decide +kernel, by decide +kernel⟩
abbrev sp_by_key (K : PySem.W.Frag) : Sp := PrD K (fun c : (List (T3 Int (T3 Int Int Int) (Tup (Int × Int)))) => [Dx.toX c]) (fun c => c.length ≤ 1000) (fun c => (m_by_key c : (Dc Int ((T3 Int Int Int) × (Tup (Int × Int))))))
theorem ok_by_key (T : Txt K mg) : FnOk P w K mg base CX0 1 T.f_by_key T.d_by_key ["row"] (sp_by_key K) := by
  refine T.u_by_key.ok sc_by_key (fun vs H Q E h => ?_) (fun cdv A outer s H vs Q E hr h => ?_)
  · obtain ⟨Mc, c, mok, da, pre, q⟩ := h
    exact (dpa_len da)
  · obtain ⟨Mc, c, mok, da, pre, q⟩ := h
    obtain ⟨row_, rfl⟩ : ∃ z, z = c := ⟨c, rfl⟩
    dsimp only at da pre q
    obtain ⟨v0, w0, rfl, d0, da0⟩ := dpa_inv da
    cases dpa_inv0 da0
    have s0 : Sg K Mc H H [(v0, Dx.toX row_)] [] := Sg.enter mok ⟨d0, True.intro⟩
    refine ⟨_, (pss_cons (ps_ret (pe_dc (own := [("key", 1), ("cost", 2), ("way", 3)]) (g := gTup K 3 (gCons (gName 1) (gCons (gName 2) (gCons (gName 3) gNil)))) rfl sc_by_key.nd (pi_list (pv 0)) (blkOk_by (own := [("key", 1), ("cost", 2), ("way", 3)]) (N := ["row", "key", "cost", "way"]) (sc := defScope s_by_key) (by decide +kernel)) (fun _ _ _ _ _ => (pg_tup rfl (pgs_cons (pg_name (i := 1) sc_by_key.nd rfl (Or.inl rfl) (.inr (by rfl))) (pgs_cons (pg_name (i := 2) sc_by_key.nd rfl (Or.inl rfl) (.inr (by rfl))) (pgs_cons (pg_name (i := 3) sc_by_key.nd rfl (Or.inl rfl) (.inr (by rfl))) pgs_nil))))) (fun _ _ _ _ _ => pts_nil) (fun _ _ _ _ _ => (pv 1)) (fun _ _ _ _ _ => (pe_tup (pa_cons (pv 2) (pa_cons (pv 3) pa_nil)))))) pss_nil), ?_⟩
    have hF1 : m_by_key row_ = (Dc.of row_ (fun (c_ : (T3 Int (T3 Int Int Int) (Tup (Int × Int)))) => c_.a) (fun (c_ : (T3 Int (T3 Int Int Int) (Tup (Int × Int)))) => (c_.b, c_.c))) := (by  first | (simp only [m_by_key, if_true, if_false, Bool.false_eq_true, decide_true, decide_false, Option.getD_some, Option.isNone_none, Option.isNone_some, Bool.not_true, Bool.not_false, ↓reduceIte]; done) | (rfl; done) | ((unfold m_by_key); (dsimp only); first | done | rfl))
    exact zq_ret s0 (hv_dcL0 s0 (fun (c_ : (T3 Int (T3 Int Int Int) (Tup (Int × Int)))) => c_.a) (fun (c_ : (T3 Int (T3 Int Int Int) (Tup (Int × Int)))) => (c_.b, c_.c)) (hv_var (x := row_) rfl s0.im.1) (by first | omega | decide +kernel | (simp only [List.length_cons, List.length_nil]; omega)) (fun D3 src7 c4 w5 ys6 Hs2 s2 hx8 Q k => by obtain ⟨l16, u10, u11, u12, w5e, st17, d13, d14, d15⟩ := Dt.t3 (p := c4) s2.im.1; have zd13 := Dt.int d13; subst zd13; have s18 := s2.put d14; have s19 := s18.put d15; subst w5e; exact ⟨_, _, rfl, ex_t msk_le st17, rfl, _, _, rfl, _, _, rfl, _, _, rfl, rfl, k _ rfl (hv_vI rfl) (hv_tup2 (hv_var (x := c4.b) rfl s19.im.2.1) (hv_var (x := c4.c) rfl s19.im.1))⟩)) fun v H' e d => q v H' e (by rw [hF1]; exact d)

abbrev Pt := (T3 Int Int Int) × (Tup (Int × Int))
abbrev Row := List (T3 Int (T3 Int Int Int) (Tup (Int × Int)))
/-- the ways in it are short -/
def Short (t : Dc Int (Dc Int Pt)) : Prop := ∀ (s k : Int) (p : Pt), (Option.getD (Dc.get t s) (Dc.mk [])).get k = some p → p.2.items.length ≤ 1000
theorem short_nil : Short (Dc.mk []) := fun s k p h => by cases h
theorem short_put {t : Dc Int (Dc Int Pt)} {s : Int} {r : Row} (h : Short t) (hr : ∀ x ∈ r, x.c.items.length ≤ 1000) : Short (t.put s (m_by_key r)) := fun s' k p hp => by
  rw [get_put] at hp
  by_cases q : s' = s
  · rw [if_pos q, Option.getD_some] at hp
    obtain ⟨x, hx, _, rfl⟩ := of_get hp
    exact hr x hx
  · rw [if_neg q] at hp
    exact h s' k p hp
theorem way_fit {t : Dc Int (Dc Int Pt)} {s k : Int} {c : T3 Int Int Int} {w : Tup (Int × Int)} (ht : Short t) (h : (c, w) = Option.getD (Dc.get (Option.getD (Dc.get t s) (Dc.mk [])) k) ((T3.mk 0 0 0), (Tup.mk []))) : w.items.length ≤ 1000 := by
  cases hg : Dc.get (Option.getD (Dc.get t s) (Dc.mk [])) k with
  | none =>
    rw [hg, Option.getD_none] at h
    have e := congrArg (fun p : Pt => p.2.items.length) h
    have e' : w.items.length = 0 := e
    omega
  | some p =>
    rw [hg, Option.getD_some] at h
    have e := ht s k p hg
    rw [← h] at e
    exact e
theorem row_at {rows : List Row} (h : ∀ r ∈ rows, r.length ≤ 1000 ∧ ∀ x ∈ r, x.c.items.length ≤ 1000) (i : Nat) : (rows.getD i []).length ≤ 1000 ∧ ∀ x ∈ rows.getD i [], x.c.items.length ≤ 1000 :=
  getD_P (P := fun (r : Row) => r.length ≤ 1000 ∧ ∀ x ∈ r, x.c.items.length ≤ 1000) h ⟨by decide, fun _ z => by cases z⟩ i

def m_law_cell (script_ : (List Int)) (k_ : Int) : Int :=
  if (decide (k_ < ((script_).length : Int))) = true then
    (script_.getD (Int.toNat k_) 0)
  else
    (0 : Int)
abbrev s_law_cell : Stmt := (topS 6)
theorem sc_law_cell : FnScope ["script", "k"] ["script", "k"] (defScope s_law_cell) := ⟨rfl, rfl, rfl, by decide +kernel, rfl, by decide +kernel, by decide +kernel⟩
abbrev sp_law_cell (K : PySem.W.Frag) : Sp := PrD K (fun c : (List Int) × Int => [Dx.toX c.1, Dx.toX c.2]) (fun c => 0 ≤ c.2) (fun c => (m_law_cell c.1 c.2 : Int))
theorem ok_law_cell (T : Txt K mg) : FnOk P w K mg base CX0 1 T.f_law_cell T.d_law_cell ["script", "k"] (sp_law_cell K) := by
  refine T.u_law_cell.ok sc_law_cell (fun vs H Q E h => ?_) (fun cdv A outer s H vs Q E hr h => ?_)
  · obtain ⟨Mc, c, mok, da, pre, q⟩ := h
    exact (dpa_len da)
  · obtain ⟨Mc, c, mok, da, pre, q⟩ := h
    obtain ⟨script_, k_⟩ := c
    dsimp only at da pre q
    obtain ⟨v0, w0, rfl, d0, da0⟩ := dpa_inv da
    obtain ⟨v1, w1, rfl, d1, da1⟩ := dpa_inv da0
    cases dpa_inv0 da1
    cases (Dt.int d1)
    have s0 : Sg K Mc H H [(v0, Dx.toX script_)] [] := Sg.enter mok ⟨d0, True.intro⟩
    refine ⟨_, (pss_cons (ps_if (pt_cmpR op_lt (pv 1) (pe_callB call_len (by rfl) T.n_len (by decide +kernel) (pa_cons (pv 0) pa_nil)) (nomark _)) (pss_cons (ps_ret (pe_ix ix_list (pv 0) (pv 1) (fun _ _ => rfl))) pss_nil) pss_nil) (pss_cons (ps_ret pe_int) pss_nil)), ?_⟩
    refine z_ifx (b := (decide (k_ < ((script_).length : Int)))) s0 (ht_val (K := K) (hv_lt (hv_vI rfl) (hv_len (hs_of (hv_var (x := script_) rfl s0.im.1))))) (fun hb1 Hs2 s2 => ?_) (fun hb1 Hs3 s3 => ?_)
    · have hb1P := hb1
      try simp only [decide_eq_true_eq, decide_eq_false_iff_not, Bool.not_eq_true', Bool.not_eq_false', Bool.and_eq_true, Bool.or_eq_true, Bool.or_eq_false_iff] at hb1P
      have hF4 : m_law_cell script_ k_ = (script_.getD (Int.toNat k_) 0) := (by  first | (simp only [m_law_cell, hb1, if_true, if_false, Bool.false_eq_true, decide_true, decide_false, Option.getD_some, Option.isNone_none, Option.isNone_some, Bool.not_true, Bool.not_false, ↓reduceIte]; done) | (rfl; done) | ((unfold m_law_cell); (dsimp only); (first | rw [ifT hb1] | rw [ifF hb1] | skip); (try dsimp only); first | done | rfl) | (exfalso; simp at hb1; done))
      exact zq_ret s2 (hv_at 0 (hs_of (hv_var (x := script_) rfl s2.im.1)) (hv_vI rfl) (by first | omega | decide +kernel | (simp only [List.length_cons, List.length_nil]; omega)) (by first | omega | decide +kernel | (simp only [List.length_cons, List.length_nil]; omega))) fun v H' e d => q v H' e (by rw [hF4]; exact d)
    · have hb1P := hb1
      try simp only [decide_eq_true_eq, decide_eq_false_iff_not, Bool.not_eq_true', Bool.not_eq_false', Bool.and_eq_true, Bool.or_eq_true, Bool.or_eq_false_iff] at hb1P
      have hF5 : m_law_cell script_ k_ = (0 : Int) := (by  first | (simp only [m_law_cell, hb1, if_true, if_false, Bool.false_eq_true, decide_true, decide_false, Option.getD_some, Option.isNone_none, Option.isNone_some, Bool.not_true, Bool.not_false, ↓reduceIte]; done) | (rfl; done) | ((unfold m_law_cell); (dsimp only); (first | rw [ifT hb1] | rw [ifF hb1] | skip); (try dsimp only); first | done | rfl) | (exfalso; simp at hb1; done))
      exact zq_ret s3 (hv_int 0) fun v H' e d => q v H' e (by rw [hF5]; exact d)
def m_law_draws_l0 (is_wide_ : Bool) (s_ : (List Int) × Int) (x_ : Int) : (List Int) × Int :=
  let found_ : (List Int) := s_.1
  let cell_ : Int := s_.2
  let k_ : Int := x_
  if is_wide_ = true then
    let found_ : (List Int) := found_ ++ [(cell_ % (1009 : Int))]
    let cell_ : Int := (cell_ / (1009 : Int))
    (found_, cell_)
  else
    let mixed_ : Int := (((cell_ * (48271 : Int)) + (k_ * (69621 : Int))) % (2147483647 : Int))
    let found_ : (List Int) := found_ ++ [((((mixed_ * mixed_) + (cell_ * (31 : Int))) + k_) % (1000003 : Int))]
    (found_, cell_)
def m_law_draws (cell_ : Int) (count_ : Int) : (List Int) :=
  let found_ : (List Int) := []
  let is_wide_ : Bool := (decide ((1000000000000000000 : Int) ≤ cell_))
  let r0_ : (List Int) × Int := loopN (m_law_draws_l0 is_wide_) (Int.toNat count_) (0 : Int) (found_, cell_)
  let found_ : (List Int) := r0_.1
  let cell_ : Int := r0_.2
  found_
abbrev s_law_draws : Stmt := (topS 7)
theorem sc_law_draws : FnScope ["cell", "count", "found", "is_wide", "k", "mixed"] ["cell", "count"] (defScope s_law_draws) := ⟨rfl, rfl, rfl, by decide +kernel, rfl, by decide +kernel, by decide +kernel⟩
abbrev sp_law_draws (K : PySem.W.Frag) : Sp := PrD K (fun c : Int × Int => [Dx.toX c.1, Dx.toX c.2]) (fun c => 0 ≤ c.2 ∧ c.2 ≤ 1000) (fun c => (m_law_draws c.1 c.2 : (List Int)))
theorem ok_law_draws (T : Txt K mg) : FnOk P w K mg base CX0 1 T.f_law_draws T.d_law_draws ["cell", "count"] (sp_law_draws K) := by
  refine T.u_law_draws.ok sc_law_draws (fun vs H Q E h => ?_) (fun cdv A outer s H vs Q E hr h => ?_)
  · obtain ⟨Mc, c, mok, da, pre, q⟩ := h
    exact (dpa_len da)
  · obtain ⟨Mc, c, mok, da, pre, q⟩ := h
    obtain ⟨cell_, count_⟩ := c
    dsimp only at da pre q
    obtain ⟨v0, w0, rfl, d0, da0⟩ := dpa_inv da
    obtain ⟨v1, w1, rfl, d1, da1⟩ := dpa_inv da0
    cases dpa_inv0 da1
    cases (Dt.int d0)
    cases (Dt.int d1)
    have s0 : Sg K Mc H H [] [] := Sg.enter mok True.intro
    refine ⟨_, (pss_cons (ps_set (i := 2) sc_law_draws.nd rfl (.inl rfl) (pe_lst pa_nil)) (pss_cons (ps_set (i := 3) sc_law_draws.nd rfl (.inl rfl) (pe_cmpR op_ge (pv 0) (pe_op op_pow pe_int pe_int) (nomark _))) (pss_cons (ps_for PassesOwn.never rfl (pi_range1 (by rfl) T.n_range (pa_cons (pv 1) pa_nil)) (pg_name (i := 4) sc_law_draws.nd rfl (.inl rfl)) (pss_cons (ps_if (pt_val (pv 3)) (pss_cons (ps_expr (pe_bm PySem.F.plainAttrs_list PySem.F.slot_list_append PySem.F.type_list_append mt_append (pv 2) (pa_cons (pe_op op_mod (pv 0) pe_int) pa_nil))) (pss_cons (ps_set (i := 0) sc_law_draws.nd rfl (.inl rfl) (pe_op op_fdivW (pv 0) pe_int)) pss_nil)) (pss_cons (ps_set (i := 5) sc_law_draws.nd rfl (.inl rfl) (pe_op op_mod (pe_op op_add (pe_op op_mul (pv 0) pe_int) (pe_op op_mul (pv 4) pe_int)) pe_int)) (pss_cons (ps_expr (pe_bm PySem.F.plainAttrs_list PySem.F.slot_list_append PySem.F.type_list_append mt_append (pv 2) (pa_cons (pe_op op_mod (pe_op op_add (pe_op op_add (pe_op op_mul (pv 5) (pv 5)) (pe_op op_mul (pv 0) pe_int)) (pv 4)) pe_int) pa_nil))) pss_nil))) pss_nil)) (pss_cons (ps_ret (pv 2)) pss_nil)))), ?_⟩
    refine z_nilG Int s0 fun found_2 hfound_2 ps1 Hs1 s1 => ?_
    have lfound_2 : found_2.length = 0 := by rw [hfound_2]; rfl
    refine z_asgBG s1 (hv_ge (hv_vI rfl) ((hv_pow (hv_int 10) (hv_int 18) ⟨by decide +kernel, by decide +kernel, by decide +kernel⟩).is (show _ = (1000000000000000000 : Int) by decide +kernel))) fun is_wide_4 his_wide_4 Hs3 s3 => ?_
    try dsimp only at his_wide_4
    refine zq_forR1G s3 (hv_vI rfl) (by first | omega | decide +kernel | (simp only [List.length_cons, List.length_nil]; omega)) (fun i σ' H' => ∃ (found_5 : (List Int)) (cell_6 : Int) (o7 : Option V) (o8 : Option V), (loopN (m_law_draws_l0 is_wide_4) (Int.toNat count_) (0 : Int) (found_2, cell_) : (List Int) × Int) = (loopN (m_law_draws_l0 is_wide_4) ((Int.toNat count_) - i) ((0 : Int) + (i : Int)) (found_5, cell_6) : (List Int) × Int) ∧ (found_5.length = (i)) ∧ σ' = [some (V.int cell_6), some (V.int count_), some (.ref ps1), some (V.bl is_wide_4), o7, o8] ∧ Sg K Mc H H' [] [(ps1, .lst (List.map Dx.toX found_5))]) (fun Hs9 s9 => ⟨found_2, cell_, _, _, (by simp), (by first | trivial | omega | (simp; done) | simp_all), rfl, s9.keep fun _ h => True.intro⟩) (fun i13 x14 σ' Hs12 hx15 hi16 hP => ?_) (fun σ' Hs12 hP => ?_)
    · obtain ⟨found_5, cell_6, o7, o8, he10, hg11, rfl, s12⟩ := hP
      refine z_if (b := is_wide_4) s12 (ht_B (K := K) (hv_vB rfl)) (fun hb18 Hs19 s19 => ?_) (fun hb18 Hs20 s20 => ?_)
      · have hb18P := hb18
        try simp only [decide_eq_true_eq, decide_eq_false_iff_not, Bool.not_eq_true', Bool.not_eq_false', Bool.and_eq_true, Bool.or_eq_true, Bool.or_eq_false_iff] at hb18P
        refine zq_appG s19 (kk := 0) rfl (ev_var rfl) (hv_mod (hv_vI rfl) (hv_int 1009) (by first | omega | decide +kernel | (simp only [List.length_cons, List.length_nil]; omega))) (by first | omega | decide +kernel | (simp only [List.length_cons, List.length_nil]; omega)) fun found_22 hfound_22 Hs21 s21 => ?_
        have lfound_22 : found_22.length = found_5.length + 1 := by rw [hfound_22, List.length_append]; rfl
        have s21 : Sg K Mc _ _ _ [(ps1, .lst (List.map Dx.toX found_22))] := s21
        refine z_asgIG s21 (hv_div (hv_vI rfl) (hv_int 1009) (by first | exact ⟨by decide +kernel, by decide +kernel⟩ | (refine log_small ?_ ?_ <;> omega))) fun cell_24 hcell_24 Hs23 s23 => ?_
        try dsimp only at hcell_24
        have hf25 : (m_law_draws_l0 is_wide_4) (found_5, cell_6) x14 = (found_22, cell_24) := (by subst hcell_24; subst hfound_22; subst his_wide_4; subst hfound_2; first | (simp only [m_law_draws_l0, hb18, if_true, if_false, Bool.false_eq_true, decide_true, decide_false, Option.getD_some, Option.isNone_none, Option.isNone_some, Bool.not_true, Bool.not_false, ↓reduceIte]; done) | (rfl; done) | ((unfold m_law_draws_l0); (dsimp only); (first | rw [ifT hb18] | rw [ifF hb18] | skip); (try dsimp only); first | done | rfl) | (exfalso; simp at hb18; done))
        exact ⟨found_22, cell_24, _, _, he10.trans ((loopN_step hi16).trans (by rw [← hx15, hf25])), (by first | trivial | omega | (simp_all; done) | (simp_all; omega)), rfl, s23.keep fun _ h => True.intro⟩
      · have hb18P := hb18
        try simp only [decide_eq_true_eq, decide_eq_false_iff_not, Bool.not_eq_true', Bool.not_eq_false', Bool.and_eq_true, Bool.or_eq_true, Bool.or_eq_false_iff] at hb18P
        refine z_asgIG s20 (hv_mod (hv_add (hv_mul (hv_vI rfl) (hv_int 48271) (by first | exact Or.inr ⟨by omega, by omega⟩ | exact Or.inl ⟨by omega, by omega⟩ | (dsimp only; first | exact Or.inr ⟨by omega, by omega⟩ | exact Or.inl ⟨by omega, by omega⟩))) (hv_mul (hv_vI rfl) (hv_int 69621) (by first | exact Or.inr ⟨by omega, by omega⟩ | exact Or.inl ⟨by omega, by omega⟩ | (dsimp only; first | exact Or.inr ⟨by omega, by omega⟩ | exact Or.inl ⟨by omega, by omega⟩)))) (hv_int 2147483647) (by first | omega | decide +kernel | (simp only [List.length_cons, List.length_nil]; omega))) fun mixed_27 hmixed_27 Hs26 s26 => ?_
        try dsimp only at hmixed_27
        refine zq_appG s26 (kk := 0) rfl (ev_var rfl) (hv_mod (hv_add (hv_add (hv_mul (hv_vI rfl) (hv_vI rfl) (by first | exact Or.inr ⟨by omega, by omega⟩ | exact Or.inl ⟨by omega, by omega⟩ | (dsimp only; first | exact Or.inr ⟨by omega, by omega⟩ | exact Or.inl ⟨by omega, by omega⟩))) (hv_mul (hv_vI rfl) (hv_int 31) (by first | exact Or.inr ⟨by omega, by omega⟩ | exact Or.inl ⟨by omega, by omega⟩ | (dsimp only; first | exact Or.inr ⟨by omega, by omega⟩ | exact Or.inl ⟨by omega, by omega⟩)))) (hv_vI rfl)) (hv_int 1000003) (by first | omega | decide +kernel | (simp only [List.length_cons, List.length_nil]; omega))) (by first | omega | decide +kernel | (simp only [List.length_cons, List.length_nil]; omega)) fun found_29 hfound_29 Hs28 s28 => ?_
        have lfound_29 : found_29.length = found_5.length + 1 := by rw [hfound_29, List.length_append]; rfl
        have s28 : Sg K Mc _ _ _ [(ps1, .lst (List.map Dx.toX found_29))] := s28
        have hf30 : (m_law_draws_l0 is_wide_4) (found_5, cell_6) x14 = (found_29, cell_6) := (by subst hfound_29; subst hmixed_27; subst his_wide_4; subst hfound_2; first | (simp only [m_law_draws_l0, hb18, if_true, if_false, Bool.false_eq_true, decide_true, decide_false, Option.getD_some, Option.isNone_none, Option.isNone_some, Bool.not_true, Bool.not_false, ↓reduceIte]; done) | (rfl; done) | ((unfold m_law_draws_l0); (dsimp only); (first | rw [ifT hb18] | rw [ifF hb18] | skip); (try dsimp only); first | done | rfl) | (exfalso; simp at hb18; done))
        exact ⟨found_29, cell_6, _, _, he10.trans ((loopN_step hi16).trans (by rw [← hx15, hf30])), (by first | trivial | omega | (simp_all; done) | (simp_all; omega)), rfl, s28.keep fun _ h => True.intro⟩
    · obtain ⟨found_31, cell_32, o33, o34, he36, hg37, rfl, s35⟩ := hP
      rw [loopN_end] at he36
      have s38 := Sg.frz (xs := found_31) s35
      have hF39 : m_law_draws cell_ count_ = found_31 := (by subst his_wide_4; subst hfound_2; first | (simp only [m_law_draws, he36, if_true, if_false, Bool.false_eq_true, decide_true, decide_false, Option.getD_some, Option.isNone_none, Option.isNone_some, Bool.not_true, Bool.not_false, ↓reduceIte]; done) | (rfl; done) | ((unfold m_law_draws); (dsimp only); (first | rw [he36] | skip); (try dsimp only); first | done | rfl))
      exact zq_ret s38 (hv_var (x := found_31) rfl s38.im.1) fun v H' e d => q v H' e (by rw [hF39]; exact d)

theorem draws_len (c n : Int) : (m_law_draws c n).length = n.toNat := by
  have key := loopN_keep (f := m_law_draws_l0 (decide ((1000000000000000000 : Int) ≤ c))) (fun s j => s.1.length = j) (fun s k j h => by
    unfold m_law_draws_l0
    dsimp only
    split <;> (rw [List.length_append, h]; rfl)) n.toNat 0 ([], c) 0 rfl
  simpa [m_law_draws] using key

def m_law_is_integer (actual_ : Int) : Bool :=
  true
abbrev s_law_is_integer : Stmt := (topS 8)
theorem sc_law_is_integer : FnScope ["actual"] ["actual"] (defScope s_law_is_integer) := ⟨rfl, rfl, rfl, by decide +kernel, rfl, by decide +kernel, by decide +kernel⟩
abbrev sp_law_is_integer (K : PySem.W.Frag) : Sp := PrD K (fun c : Int => [Dx.toX c]) (fun c => True) (fun c => (m_law_is_integer c : Bool))
theorem ok_law_is_integer (T : Txt K mg) : FnOk P w K mg base CX0 1 T.f_law_is_integer T.d_law_is_integer ["actual"] (sp_law_is_integer K) := by
  refine T.u_law_is_integer.ok sc_law_is_integer (fun vs H Q E h => ?_) (fun cdv A outer s H vs Q E hr h => ?_)
  · obtain ⟨Mc, c, mok, da, pre, q⟩ := h
    exact (dpa_len da)
  · obtain ⟨Mc, c, mok, da, pre, q⟩ := h
    obtain ⟨actual_, rfl⟩ : ∃ z, z = c := ⟨c, rfl⟩
    dsimp only at da pre q
    obtain ⟨v0, w0, rfl, d0, da0⟩ := dpa_inv da
    cases dpa_inv0 da0
    cases (Dt.int d0)
    have s0 : Sg K Mc H H [] [] := Sg.enter mok True.intro
    refine ⟨_, (pss_cons (ps_ret (pe_and (pe_callB call_isi (by rfl) T.n_isinstance (by decide +kernel) (pa_cons (pv 0) (pa_cons (pe_bltn (v := .ty "int") (by rfl) T.n_int (by decide +kernel) rfl) pa_nil))) (pe_one (pe_not (pe_callB call_isi (by rfl) T.n_isinstance (by decide +kernel) (pa_cons (pv 0) (pa_cons (pe_bltn (v := .ty "bool") (by rfl) T.n_bool (by decide +kernel) rfl) pa_nil))))))) pss_nil), ?_⟩
    have hF1 : m_law_is_integer actual_ = true := (by  first | (simp only [m_law_is_integer, if_true, if_false, Bool.false_eq_true, decide_true, decide_false, Option.getD_some, Option.isNone_none, Option.isNone_some, Bool.not_true, Bool.not_false, ↓reduceIte]; done) | (rfl; done) | ((unfold m_law_is_integer); (dsimp only); first | done | rfl))
    exact zq_ret s0 (Hv.is (hv_and (hv_isi (b := true) (hv_vI rfl) (by decide +kernel)) (fun hb0 => (Hv.is (hv_not (hv_isi (b := false) (hv_vI rfl) (by decide +kernel))) (show _ = true by first | rfl | decide | simp)))) (show _ = true by first | rfl | decide | simp)) fun v H' e d => q v H' e (by rw [hF1]; exact d)
/-- a place and a key lead to three at most -/
def Um (ms : List (T4 Int Int Int (T3 Int Int Int))) : Prop := ∀ a b : Int, (ms.filter fun m => decide (m.a = a) && decide (m.b = b)).length ≤ 3

def m_law_all_ways_l2 (place_ : Int) (key_ : Int) (position_ : Int) (cost_ : (T3 Int Int Int)) (way_ : (Tup (Int × Int))) (s_ : (List (T4 Int Int (T3 Int Int Int) (Tup (Int × Int))))) (x_ : (T4 Int Int Int (T3 Int Int Int))) : (List (T4 Int Int (T3 Int Int Int) (Tup (Int × Int)))) :=
  let longer_ : (List (T4 Int Int (T3 Int Int Int) (Tup (Int × Int)))) := s_
  let origin_ : Int := x_.a
  let first_ : Int := x_.b
  let target_ : Int := x_.c
  let price_ : (T3 Int Int Int) := x_.d
  if ((decide (origin_ = place_)) && (decide (first_ = key_))) = true then
    let total_ : (T3 Int Int Int) := (T3.mk (cost_.a + price_.a) (cost_.b + price_.b) (cost_.c + price_.c))
    let longer_ : (List (T4 Int Int (T3 Int Int Int) (Tup (Int × Int)))) := longer_ ++ [(T4.mk position_ target_ total_ (Tup.mk (Tup.items way_ ++ Tup.items (Tup.mk [(position_, target_)]))))]
    longer_
  else
    longer_
def m_law_all_ways_l1 (moves_ : (List (T4 Int Int Int (T3 Int Int Int)))) (position_ : Int) (s_ : (List (T4 Int Int (T3 Int Int Int) (Tup (Int × Int))))) (x_ : (T4 Int Int (T3 Int Int Int) (Tup (Int × Int)))) : (List (T4 Int Int (T3 Int Int Int) (Tup (Int × Int)))) :=
  let longer_ : (List (T4 Int Int (T3 Int Int Int) (Tup (Int × Int)))) := s_
  let place_ : Int := x_.a
  let key_ : Int := x_.b
  let cost_ : (T3 Int Int Int) := x_.c
  let way_ : (Tup (Int × Int)) := x_.d
  let r2_ : (List (T4 Int Int (T3 Int Int Int) (Tup (Int × Int)))) := List.foldl (m_law_all_ways_l2 place_ key_ position_ cost_ way_) longer_ moves_
  let longer_ : (List (T4 Int Int (T3 Int Int Int) (Tup (Int × Int)))) := r2_
  longer_
def m_law_all_ways_l0  (s_ : (List (T4 Int Int (T3 Int Int Int) (Tup (Int × Int)))) × Int) (x_ : (List (T4 Int Int Int (T3 Int Int Int)))) : (List (T4 Int Int (T3 Int Int Int) (Tup (Int × Int)))) × Int :=
  let ways_ : (List (T4 Int Int (T3 Int Int Int) (Tup (Int × Int)))) := s_.1
  let position_ : Int := s_.2
  let moves_ : (List (T4 Int Int Int (T3 Int Int Int))) := x_
  let longer_ : (List (T4 Int Int (T3 Int Int Int) (Tup (Int × Int)))) := []
  let r1_ : (List (T4 Int Int (T3 Int Int Int) (Tup (Int × Int)))) := List.foldl (m_law_all_ways_l1 moves_ position_) longer_ ways_
  let longer_ : (List (T4 Int Int (T3 Int Int Int) (Tup (Int × Int)))) := r1_
  let ways_ : (List (T4 Int Int (T3 Int Int Int) (Tup (Int × Int)))) := (ways_ ++ longer_)
  let position_ : Int := (position_ + (1 : Int))
  (ways_, position_)
def m_law_all_ways (start_key_ : Int) (moves_of_ : (List (List (T4 Int Int Int (T3 Int Int Int))))) : (List (T4 Int Int (T3 Int Int Int) (Tup (Int × Int)))) :=
  let ways_ : (List (T4 Int Int (T3 Int Int Int) (Tup (Int × Int)))) := [(T4.mk (0 : Int) start_key_ (T3.mk (0 : Int) (0 : Int) (0 : Int)) (Tup.mk []))]
  let position_ : Int := (1 : Int)
  let r0_ : (List (T4 Int Int (T3 Int Int Int) (Tup (Int × Int)))) × Int := List.foldl m_law_all_ways_l0 (ways_, position_) moves_of_
  let ways_ : (List (T4 Int Int (T3 Int Int Int) (Tup (Int × Int)))) := r0_.1
  let position_ : Int := r0_.2
  ways_
theorem aw2_eq (pl ky po : Int) (c : T3 Int Int Int) (w : Tup (Int × Int)) : ∀ (ms : List (T4 Int Int Int (T3 Int Int Int))) (L : List (T4 Int Int (T3 Int Int Int) (Tup (Int × Int)))),
    List.foldl (m_law_all_ways_l2 pl ky po c w) L ms = L ++ (ms.filter fun m => decide (m.a = pl) && decide (m.b = ky)).map fun m => T4.mk po m.c (T3.mk (c.a + m.d.a) (c.b + m.d.b) (c.c + m.d.c)) (Tup.mk (w.items ++ [(po, m.c)]))
  | [], L => by simp
  | m :: ms, L => by
    rw [List.foldl_cons, aw2_eq pl ky po c w ms]
    unfold m_law_all_ways_l2
    dsimp only
    by_cases q : (decide (m.a = pl) && decide (m.b = ky)) = true
    · rw [if_pos q, List.filter_cons_of_pos (p := fun m : T4 Int Int Int (T3 Int Int Int) => decide (m.a = pl) && decide (m.b = ky)) q, List.map_cons, List.append_assoc]; rfl
    · rw [if_neg q, List.filter_cons_of_neg (p := fun m : T4 Int Int Int (T3 Int Int Int) => decide (m.a = pl) && decide (m.b = ky)) q]
def awOne (ms : List (T4 Int Int Int (T3 Int Int Int))) (po : Int) (x : T4 Int Int (T3 Int Int Int) (Tup (Int × Int))) : List (T4 Int Int (T3 Int Int Int) (Tup (Int × Int))) :=
  (ms.filter fun m => decide (m.a = x.a) && decide (m.b = x.b)).map fun m => T4.mk po m.c (T3.mk (x.c.a + m.d.a) (x.c.b + m.d.b) (x.c.c + m.d.c)) (Tup.mk (x.d.items ++ [(po, m.c)]))
theorem aw1_eq (ms : List (T4 Int Int Int (T3 Int Int Int))) (po : Int) : ∀ (ws L : List (T4 Int Int (T3 Int Int Int) (Tup (Int × Int)))), List.foldl (m_law_all_ways_l1 ms po) L ws = L ++ ws.flatMap (awOne ms po)
  | [], L => by simp
  | w :: ws, L => by
    rw [List.foldl_cons, aw1_eq ms po ws, List.flatMap_cons, ← List.append_assoc]
    congr 1
    unfold m_law_all_ways_l1
    dsimp only
    rw [aw2_eq]
    rfl
theorem awOne_len {ms : List (T4 Int Int Int (T3 Int Int Int))} (h : Um ms) (po : Int) (x : T4 Int Int (T3 Int Int Int) (Tup (Int × Int))) : (awOne ms po x).length ≤ 3 := by
  unfold awOne
  rw [List.length_map]
  exact h _ _
theorem flat_le {α β : Type} {f : α → List β} {n : Nat} : ∀ (L : List α), (∀ x ∈ L, (f x).length ≤ n) → (L.flatMap f).length ≤ n * L.length
  | [], _ => by simp
  | x :: L, h => by
    rw [List.flatMap_cons, List.length_append, List.length_cons, Nat.mul_succ]
    have h1 := h x List.mem_cons_self
    have h2 := flat_le L fun y hy => h y (List.mem_cons_of_mem _ hy)
    omega
theorem aw2_b {ms : List (T4 Int Int Int (T3 Int Int Int))} {pl ky po : Int} {c : T3 Int Int Int} {w : Tup (Int × Int)} {L L' : List (T4 Int Int (T3 Int Int Int) (Tup (Int × Int)))} {i : Nat} (h : Um ms)
    (he : List.foldl (m_law_all_ways_l2 pl ky po c w) L ms = List.foldl (m_law_all_ways_l2 pl ky po c w) L' (List.drop i ms)) : L'.length ≤ L.length + 3 := by
  rw [aw2_eq, aw2_eq] at he
  have := congrArg List.length he
  rw [List.length_append, List.length_append, List.length_map] at this
  have h2 := h pl ky
  omega
theorem aw1_b {ms : List (T4 Int Int Int (T3 Int Int Int))} {po : Int} {ws L0 L' : List (T4 Int Int (T3 Int Int Int) (Tup (Int × Int)))} {i : Nat} (h : Um ms)
    (he : List.foldl (m_law_all_ways_l1 ms po) L0 ws = List.foldl (m_law_all_ways_l1 ms po) L' (List.drop i ws)) (h0 : L0.length = 0) : L'.length ≤ 3 * ws.length := by
  rw [List.eq_nil_of_length_eq_zero h0, aw1_eq, aw1_eq, List.nil_append] at he
  have := congrArg List.length he
  rw [List.length_append] at this
  have h2 := flat_le (f := awOne ms po) ws fun x _ => awOne_len h po x
  omega
theorem aw1_end {ms : List (T4 Int Int Int (T3 Int Int Int))} {po : Int} {ws L0 L : List (T4 Int Int (T3 Int Int Int) (Tup (Int × Int)))} {n : Nat} (h : Um ms)
    (he : List.foldl (m_law_all_ways_l1 ms po) L0 ws = L) (h0 : L0.length = 0) (hw : ∀ x ∈ ws, x.d.items.length ≤ n) : L.length ≤ 3 * ws.length ∧ ∀ x ∈ L, x.d.items.length ≤ n + 1 := by
  rw [List.eq_nil_of_length_eq_zero h0, aw1_eq, List.nil_append] at he
  subst he
  refine ⟨flat_le ws fun x _ => awOne_len h po x, fun x hx => ?_⟩
  obtain ⟨y, hy, hx⟩ := List.mem_flatMap.mp hx
  unfold awOne at hx
  obtain ⟨m, _, rfl⟩ := List.mem_map.mp hx
  dsimp only
  rw [List.length_append, List.length_singleton]
  exact Nat.succ_le_succ (hw y hy)
theorem pow4 {n : Nat} (h : n ≤ 4) : 4 ^ n ≤ 256 := Nat.pow_le_pow_right (by decide) h
theorem pow4' {n m : Nat} (h : n < m) (h2 : m ≤ 4) : 4 ^ n ≤ 256 := pow4 (by omega)
theorem aw_next {n : Nat} {ws L y : List (T4 Int Int (T3 Int Int Int) (Tup (Int × Int)))} (h : ∀ x ∈ ws, x.d.items.length ≤ n) (h2 : ∀ x ∈ L, x.d.items.length ≤ n + 1) (e : y = ws ++ L) : ∀ x ∈ y, x.d.items.length ≤ n + 1 := by
  subst e
  intro x hx
  rcases List.mem_append.mp hx with hx | hx
  · exact Nat.le_succ_of_le (h x hx)
  · exact h2 x hx

abbrev s_law_all_ways : Stmt := (topS 10)
theorem sc_law_all_ways : FnScope ["start_key", "moves_of", "ways", "position", "moves", "longer", "place", "key", "cost", "way", "origin", "first", "target", "price", "total"] ["start_key", "moves_of"] (defScope s_law_all_ways) := ⟨rfl, rfl, rfl, by decide +kernel, rfl, by decide +kernel, by decide +kernel⟩
abbrev sp_law_all_ways (K : PySem.W.Frag) : Sp := PrD K (fun c : Int × (List (List (T4 Int Int Int (T3 Int Int Int)))) => [Dx.toX c.1, Dx.toX c.2]) (fun c => c.2.length ≤ 4 ∧ ∀ m ∈ c.2, Um m) (fun c => (m_law_all_ways c.1 c.2 : (List (T4 Int Int (T3 Int Int Int) (Tup (Int × Int))))))
theorem ok_law_all_ways (T : Txt K mg) : FnOk P w K mg base CX0 1 T.f_law_all_ways T.d_law_all_ways ["start_key", "moves_of"] (sp_law_all_ways K) := by
  refine T.u_law_all_ways.ok sc_law_all_ways (fun vs H Q E h => ?_) (fun cdv A outer s H vs Q E hr h => ?_)
  · obtain ⟨Mc, c, mok, da, pre, q⟩ := h
    exact (dpa_len da)
  · obtain ⟨Mc, c, mok, da, pre, q⟩ := h
    obtain ⟨start_key_, moves_of_⟩ := c
    dsimp only at da pre q
    obtain ⟨v0, w0, rfl, d0, da0⟩ := dpa_inv da
    obtain ⟨v1, w1, rfl, d1, da1⟩ := dpa_inv da0
    cases dpa_inv0 da1
    cases (Dt.int d0)
    have s0 : Sg K Mc H H [(v1, Dx.toX moves_of_)] [] := Sg.enter mok ⟨d1, True.intro⟩
    refine ⟨_, (pss_cons (ps_set (i := 2) sc_law_all_ways.nd rfl (.inl rfl) (pe_lst (pa_cons (pe_tup (pa_cons pe_int (pa_cons (pv 0) (pa_cons (pe_tup (pa_cons pe_int (pa_cons pe_int (pa_cons pe_int pa_nil)))) (pa_cons (pe_tup pa_nil) pa_nil))))) pa_nil))) (pss_cons (ps_set (i := 3) sc_law_all_ways.nd rfl (.inl rfl) pe_int) (pss_cons (ps_for PassesOwn.never rfl (pi_list (pv 1)) (pg_name (i := 4) sc_law_all_ways.nd rfl (.inl rfl)) (pss_cons (ps_set (i := 5) sc_law_all_ways.nd rfl (.inl rfl) (pe_lst pa_nil)) (pss_cons (ps_for PassesOwn.never rfl (pi_list (pv 2)) (pg_tup rfl (pgs_cons (pg_name (i := 6) sc_law_all_ways.nd rfl (.inl rfl)) (pgs_cons (pg_name (i := 7) sc_law_all_ways.nd rfl (.inl rfl)) (pgs_cons (pg_name (i := 8) sc_law_all_ways.nd rfl (.inl rfl)) (pgs_cons (pg_name (i := 9) sc_law_all_ways.nd rfl (.inl rfl)) pgs_nil))))) (pss_cons (ps_for PassesOwn.never rfl (pi_list (pv 4)) (pg_tup rfl (pgs_cons (pg_name (i := 10) sc_law_all_ways.nd rfl (.inl rfl)) (pgs_cons (pg_name (i := 11) sc_law_all_ways.nd rfl (.inl rfl)) (pgs_cons (pg_name (i := 12) sc_law_all_ways.nd rfl (.inl rfl)) (pgs_cons (pg_name (i := 13) sc_law_all_ways.nd rfl (.inl rfl)) pgs_nil))))) (pss_cons (ps_if (PW.pt (pw_and (pt_cmpR op_eq (pv 10) (pv 6) (nomark _)) (pw_and1 (pt_cmpR op_eq (pv 11) (pv 7) (nomark _))))) (pss_cons (ps_set (i := 14) sc_law_all_ways.nd rfl (.inl rfl) (pe_tup (pa_cons (pe_op op_add (pe_ix ix_tup (pv 8) pe_int (fun _ _ => rfl)) (pe_ix ix_tup (pv 13) pe_int (fun _ _ => rfl))) (pa_cons (pe_op op_add (pe_ix ix_tup (pv 8) pe_int (fun _ _ => rfl)) (pe_ix ix_tup (pv 13) pe_int (fun _ _ => rfl))) (pa_cons (pe_op op_add (pe_ix ix_tup (pv 8) pe_int (fun _ _ => rfl)) (pe_ix ix_tup (pv 13) pe_int (fun _ _ => rfl))) pa_nil))))) (pss_cons (ps_expr (pe_bm PySem.F.plainAttrs_list PySem.F.slot_list_append PySem.F.type_list_append mt_append (pv 5) (pa_cons (pe_tup (pa_cons (pv 3) (pa_cons (pv 12) (pa_cons (pv 14) (pa_cons (pe_op op_catA (pv 9) (pe_tup (pa_cons (pe_tup (pa_cons (pv 3) (pa_cons (pv 12) pa_nil))) pa_nil))) pa_nil))))) pa_nil))) pss_nil)) pss_nil) pss_nil)) pss_nil)) (pss_cons (ps_set (i := 2) sc_law_all_ways.nd rfl (.inl rfl) (pe_op op_catS (pv 2) (pv 5))) (pss_cons (ps_set (i := 3) sc_law_all_ways.nd rfl (.inl rfl) (pe_op op_add (pv 3) pe_int)) pss_nil))))) (pss_cons (ps_ret (pv 2)) pss_nil)))), ?_⟩
    refine z_asgG s0 (show Hv K _ _ _ _ ([(T4.mk (0 : Int) start_key_ (T3.mk (0 : Int) (0 : Int) (0 : Int)) (Tup.mk []))] : (List (T4 Int Int (T3 Int Int Int) (Tup (Int × Int))))) from (hv_lst (has_cons (hv_tup4 (hv_int 0) (hv_vI rfl) (hv_tup3 (hv_int 0) (hv_int 0) (hv_int 0)) (hv_tupv has_nil (Nat.le_of_ble_eq_true rfl))) has_nil) (Nat.le_of_ble_eq_true rfl))) fun ways_2 hways_2 vways_2 Hs1 s1 => ?_
    try dsimp only at hways_2
    refine z_asgIG s1 (hv_int 1) fun position_4 hposition_4 Hs3 s3 => ?_
    try dsimp only at hposition_4
    refine zq_forG s3 (hv_var (x := moves_of_) rfl s3.im.2.1) (fun vsrc0 i σ' H' => ∃ (ways_5 : (List (T4 Int Int (T3 Int Int Int) (Tup (Int × Int))))) (position_6 : Int) (vways_5 : V) (o7 : Option V) (o8 : Option V) (o9 : Option V) (o10 : Option V) (o11 : Option V) (o12 : Option V) (o13 : Option V) (o14 : Option V) (o15 : Option V) (o16 : Option V) (o17 : Option V), (List.foldl m_law_all_ways_l0 (ways_2, position_4) moves_of_ : (List (T4 Int Int (T3 Int Int Int) (Tup (Int × Int)))) × Int) = (List.foldl m_law_all_ways_l0 (ways_5, position_6) (List.drop i moves_of_) : (List (T4 Int Int (T3 Int Int Int) (Tup (Int × Int)))) × Int) ∧ (ways_5.length ≤ 4 ^ (i) ∧ position_6 = 1 + ((i) : Int) ∧ ∀ x ∈ ways_5, x.d.items.length ≤ (i)) ∧ σ' = [some (V.int start_key_), some v1, some vways_5, some (V.int position_6), o7, o8, o9, o10, o11, o12, o13, o14, o15, o16, o17] ∧ Sg K Mc H H' [(vsrc0, Dx.toX moves_of_), (vways_5, Dx.toX ways_5), (v1, Dx.toX moves_of_)] []) (fun vsrc0 Hs18 s18 => ⟨ways_2, position_4, vways_2, _, _, _, _, _, _, _, _, _, _, _, rfl, (by first | trivial | omega | (simp; done) | simp_all), rfl, s18.keep fun _ h => ⟨h.1, ⟨h.2.1, ⟨h.2.2.1, True.intro⟩⟩⟩⟩) (fun vsrc0 i σ' H' hP => by obtain ⟨ways_5, position_6, vways_5, o7, o8, o9, o10, o11, o12, o13, o14, o15, o16, o17, he, hg, hs, hS⟩ := hP; exact hS.im.1) (fun vsrc0 i22 x23 wx23 σ' Hs21 hi25 hP hx24 => ?_) (fun vsrc0 σ' Hs21 hP => ?_)
    · obtain ⟨ways_5, position_6, vways_5, o7, o8, o9, o10, o11, o12, o13, o14, o15, o16, o17, he19, hg20, rfl, s21⟩ := hP
      have qx23 := (List.getElem?_eq_some_iff.mp hi25).1
      have s27 := s21.put hx24
      have hg20q0 := hg20.1
      have hg20q1 := hg20.2.1
      have hg20q2 := hg20.2.2
      have um0 := pre.2 _ (List.mem_of_getElem? hi25)
      have hm0 := (List.getElem?_eq_some_iff.mp hi25).1
      have hgW := hg20
      have hp4 := pow4' hm0 pre.1
      refine z_nilG (T4 Int Int (T3 Int Int Int) (Tup (Int × Int))) s27 fun longer_29 hlonger_29 ps28 Hs28 s28 => ?_
      have llonger_29 : longer_29.length = 0 := by rw [hlonger_29]; rfl
      refine zq_for s28 (hv_var (x := ways_5) rfl s28.im.2.2.1) (fun vsrc1 i σ' H' => ∃ (longer_30 : (List (T4 Int Int (T3 Int Int Int) (Tup (Int × Int))))) (o31 : Option V) (o32 : Option V) (o33 : Option V) (o34 : Option V) (o35 : Option V) (o36 : Option V) (o37 : Option V) (o38 : Option V) (o39 : Option V), (List.foldl (m_law_all_ways_l1 x23 position_6) longer_29 ways_5 : (List (T4 Int Int (T3 Int Int Int) (Tup (Int × Int))))) = (List.foldl (m_law_all_ways_l1 x23 position_6) longer_30 (List.drop i ways_5) : (List (T4 Int Int (T3 Int Int Int) (Tup (Int × Int))))) ∧ True ∧ σ' = [some (V.int start_key_), some v1, some vways_5, some (V.int position_6), some wx23, some (.ref ps28), o31, o32, o33, o34, o35, o36, o37, o38, o39] ∧ Sg K Mc H H' [(vsrc1, Dx.toX ways_5), (wx23, Dx.toX x23), (vsrc0, Dx.toX moves_of_), (vways_5, Dx.toX ways_5), (v1, Dx.toX moves_of_)] [(ps28, .lst (List.map Dx.toX longer_30))]) (fun vsrc1 Hs40 s40 => ⟨longer_29, _, _, _, _, _, _, _, _, _, rfl, (by first | trivial | omega | (simp; done) | simp_all), rfl, s40.keep fun _ h => ⟨h.1, ⟨h.2.1, ⟨h.2.2.1, ⟨h.2.2.2.1, ⟨h.2.2.2.2.1, True.intro⟩⟩⟩⟩⟩⟩) (fun vsrc1 i σ' H' hP => by obtain ⟨longer_30, o31, o32, o33, o34, o35, o36, o37, o38, o39, he, hg, hs, hS⟩ := hP; exact hS.im.1) (fun vsrc1 i44 x45 wx45 σ' Hs43 hi47 hP hx46 => ?_) (fun vsrc1 σ' Hs43 hP => ?_)
      · obtain ⟨longer_30, o31, o32, o33, o34, o35, o36, o37, o38, o39, he41, hg42, rfl, s43⟩ := hP
        have qx45 := (List.getElem?_eq_some_iff.mp hi47).1
        obtain ⟨l57, u49, u50, u51, u52, rfl, st58, d53, d54, d55, d56⟩ := Dt.t4 (p := x45) hx46
        have zd53 := Dt.int d53
        subst zd53
        have zd54 := Dt.int d54
        subst zd54
        have s59 := s43.put d55
        have s60 := s59.put d56
        refine ⟨_, _, rfl, ex_t msk_le st58, rfl, _, _, rfl, _, _, rfl, _, _, rfl, _, _, rfl, rfl, ?_⟩
        have b1 := aw1_b um0 he41 (by omega)
        have hw := hgW.2.2 _ (List.mem_of_getElem? hi47)
        refine zq_for s60 (hv_var (x := x23) rfl s60.im.2.2.2.1) (fun vsrc2 i σ' H' => ∃ (longer_61 : (List (T4 Int Int (T3 Int Int Int) (Tup (Int × Int))))) (o62 : Option V) (o63 : Option V) (o64 : Option V) (o65 : Option V) (o66 : Option V), (List.foldl (m_law_all_ways_l2 x45.a x45.b position_6 x45.c x45.d) longer_30 x23 : (List (T4 Int Int (T3 Int Int Int) (Tup (Int × Int))))) = (List.foldl (m_law_all_ways_l2 x45.a x45.b position_6 x45.c x45.d) longer_61 (List.drop i x23) : (List (T4 Int Int (T3 Int Int Int) (Tup (Int × Int))))) ∧ True ∧ σ' = [some (V.int start_key_), some v1, some vways_5, some (V.int position_6), some wx23, some (.ref ps28), some (V.int x45.a), some (V.int x45.b), some u51, some u52, o62, o63, o64, o65, o66] ∧ Sg K Mc H H' [(vsrc2, Dx.toX x23), (u52, Dx.toX x45.d), (u51, Dx.toX x45.c), (vsrc1, Dx.toX ways_5), (wx23, Dx.toX x23), (vsrc0, Dx.toX moves_of_), (vways_5, Dx.toX ways_5), (v1, Dx.toX moves_of_)] [(ps28, .lst (List.map Dx.toX longer_61))]) (fun vsrc2 Hs67 s67 => ⟨longer_30, _, _, _, _, _, rfl, (by first | trivial | omega | (simp; done) | simp_all), rfl, s67.keep fun _ h => ⟨h.1, ⟨h.2.1, ⟨h.2.2.1, ⟨h.2.2.2.1, ⟨h.2.2.2.2.1, ⟨h.2.2.2.2.2.1, ⟨h.2.2.2.2.2.2.1, ⟨h.2.2.2.2.2.2.2.1, True.intro⟩⟩⟩⟩⟩⟩⟩⟩⟩) (fun vsrc2 i σ' H' hP => by obtain ⟨longer_61, o62, o63, o64, o65, o66, he, hg, hs, hS⟩ := hP; exact hS.im.1) (fun vsrc2 i71 x72 wx72 σ' Hs70 hi74 hP hx73 => ?_) (fun vsrc2 σ' Hs70 hP => ?_)
        · obtain ⟨longer_61, o62, o63, o64, o65, o66, he68, hg69, rfl, s70⟩ := hP
          have qx72 := (List.getElem?_eq_some_iff.mp hi74).1
          obtain ⟨l84, u76, u77, u78, u79, rfl, st85, d80, d81, d82, d83⟩ := Dt.t4 (p := x72) hx73
          have zd80 := Dt.int d80
          subst zd80
          have zd81 := Dt.int d81
          subst zd81
          have zd82 := Dt.int d82
          subst zd82
          have s86 := s70.put d83
          refine ⟨_, _, rfl, ex_t msk_le st85, rfl, _, _, rfl, _, _, rfl, _, _, rfl, _, _, rfl, rfl, ?_⟩
          have b2 := aw2_b um0 he68
          refine z_ifx (b := ((decide (x72.a = x45.a)) && (decide (x72.b = x45.b)))) s86 (ht_and (ht_val (K := K) (hv_eqI (hv_vI rfl) (hv_vI rfl))) (fun hb0 => (ht_val (K := K) (hv_eqI (hv_vI rfl) (hv_vI rfl))))) (fun hb87 Hs88 s88 => ?_) (fun hb87 Hs89 s89 => ?_)
          · have hb87P := hb87
            try simp only [decide_eq_true_eq, decide_eq_false_iff_not, Bool.not_eq_true', Bool.not_eq_false', Bool.and_eq_true, Bool.or_eq_true, Bool.or_eq_false_iff] at hb87P
            refine z_asgG s88 (hv_tup3 (hv_add (hv_t30 (p := x45.c) (hv_var (x := x45.c) rfl s88.im.2.2.2.1)) (hv_t30 (p := x72.d) (hv_var (x := x72.d) rfl s88.im.1))) (hv_add (hv_t31 (p := x45.c) (hv_var (x := x45.c) rfl s88.im.2.2.2.1)) (hv_t31 (p := x72.d) (hv_var (x := x72.d) rfl s88.im.1))) (hv_add (hv_t32 (p := x45.c) (hv_var (x := x45.c) rfl s88.im.2.2.2.1)) (hv_t32 (p := x72.d) (hv_var (x := x72.d) rfl s88.im.1)))) fun total_91 htotal_91 vtotal_91 Hs90 s90 => ?_
            try dsimp only at htotal_91
            refine zq_appG s90 (kk := 0) rfl (ev_var rfl) (hv_tup4 (hv_vI rfl) (hv_vI rfl) (hv_var (x := total_91) rfl s90.im.1) (hv_catT (hv_var (x := x45.d) rfl s90.im.2.2.2.1) (hv_tupv (has_cons (hv_tup2 (hv_vI rfl) (hv_vI rfl)) has_nil) (Nat.le_of_ble_eq_true rfl)) (by first | omega | decide +kernel | (simp only [List.length_cons, List.length_nil]; omega)))) (by first | omega | decide +kernel | (simp only [List.length_cons, List.length_nil]; omega)) fun longer_93 hlonger_93 Hs92 s92 => ?_
            have llonger_93 : longer_93.length = longer_61.length + 1 := by rw [hlonger_93, List.length_append]; rfl
            have s92 : Sg K Mc _ _ _ [(ps28, .lst (List.map Dx.toX longer_93))] := s92
            have hf94 : (m_law_all_ways_l2 x45.a x45.b position_6 x45.c x45.d) longer_61 x72 = longer_93 := (by subst hlonger_93; subst htotal_91; subst hlonger_29; subst hposition_4; subst hways_2; first | (simp only [m_law_all_ways_l2, hb87, if_true, if_false, Bool.false_eq_true, decide_true, decide_false, Option.getD_some, Option.isNone_none, Option.isNone_some, Bool.not_true, Bool.not_false, ↓reduceIte]; done) | (rfl; done) | ((unfold m_law_all_ways_l2); (dsimp only); (first | rw [ifT hb87] | rw [ifF hb87] | skip); (try dsimp only); first | done | rfl) | (exfalso; simp at hb87; done))
            exact ⟨longer_93, _, _, _, _, _, he68.trans ((foldl_step hi74).trans (by rw [hf94])), (by first | trivial | omega | (simp_all; done) | (simp_all; omega)), rfl, s92.keep fun _ h => ⟨h.2.2.1, ⟨h.2.2.2.1, ⟨h.2.2.2.2.1, ⟨h.2.2.2.2.2.1, ⟨h.2.2.2.2.2.2.1, ⟨h.2.2.2.2.2.2.2.1, ⟨h.2.2.2.2.2.2.2.2.1, ⟨h.2.2.2.2.2.2.2.2.2.1, True.intro⟩⟩⟩⟩⟩⟩⟩⟩⟩
          · have hb87P := hb87
            try simp only [decide_eq_true_eq, decide_eq_false_iff_not, Bool.not_eq_true', Bool.not_eq_false', Bool.and_eq_true, Bool.or_eq_true, Bool.or_eq_false_iff] at hb87P
            have hf95 : (m_law_all_ways_l2 x45.a x45.b position_6 x45.c x45.d) longer_61 x72 = longer_61 := (by subst hlonger_29; subst hposition_4; subst hways_2; first | (simp only [m_law_all_ways_l2, hb87, if_true, if_false, Bool.false_eq_true, decide_true, decide_false, Option.getD_some, Option.isNone_none, Option.isNone_some, Bool.not_true, Bool.not_false, ↓reduceIte]; done) | (rfl; done) | ((unfold m_law_all_ways_l2); (dsimp only); (first | rw [ifT hb87] | rw [ifF hb87] | skip); (try dsimp only); first | done | rfl) | (exfalso; simp at hb87; done))
            exact ⟨longer_61, _, _, _, _, _, he68.trans ((foldl_step hi74).trans (by rw [hf95])), (by first | trivial | omega | (simp_all; done) | (simp_all; omega)), rfl, s89.keep fun _ h => ⟨h.2.1, ⟨h.2.2.1, ⟨h.2.2.2.1, ⟨h.2.2.2.2.1, ⟨h.2.2.2.2.2.1, ⟨h.2.2.2.2.2.2.1, ⟨h.2.2.2.2.2.2.2.1, ⟨h.2.2.2.2.2.2.2.2.1, True.intro⟩⟩⟩⟩⟩⟩⟩⟩⟩
        · obtain ⟨longer_96, o97, o98, o99, o100, o101, he103, hg104, rfl, s102⟩ := hP
          rw [foldl_end] at he103
          have hf105 : (m_law_all_ways_l1 x23 position_6) longer_30 x45 = longer_96 := (by subst hlonger_29; subst hposition_4; subst hways_2; first | (simp only [m_law_all_ways_l1, he103, if_true, if_false, Bool.false_eq_true, decide_true, decide_false, Option.getD_some, Option.isNone_none, Option.isNone_some, Bool.not_true, Bool.not_false, ↓reduceIte]; done) | (rfl; done) | ((unfold m_law_all_ways_l1); (dsimp only); (first | rw [he103] | skip); (try dsimp only); first | done | rfl))
          exact ⟨longer_96, _, _, _, _, _, _, _, _, _, he41.trans ((foldl_step hi47).trans (by rw [hf105])), (by first | trivial | omega | (simp_all; done) | (simp_all; omega)), rfl, s102.keep fun _ h => ⟨h.2.2.2.1, ⟨h.2.2.2.2.1, ⟨h.2.2.2.2.2.1, ⟨h.2.2.2.2.2.2.1, ⟨h.2.2.2.2.2.2.2.1, True.intro⟩⟩⟩⟩⟩⟩
      · obtain ⟨longer_106, o107, o108, o109, o110, o111, o112, o113, o114, o115, he117, hg118, rfl, s116⟩ := hP
        rw [foldl_end] at he117
        have c1 := aw1_end um0 he117 (by omega) hgW.2.2
        have s119 := Sg.frz (xs := longer_106) s116
        refine z_asgG s119 (hv_cat (hs_of (hv_var (x := ways_5) rfl s119.im.2.2.2.2.1)) (hs_of (hv_var (x := longer_106) rfl s119.im.1)) (by first | omega | decide +kernel | (simp only [List.length_cons, List.length_nil]; omega))) fun ways_121 hways_121 vways_121 Hs120 s120 => ?_
        try dsimp only at hways_121
        have w9 := aw_next hgW.2.2 c1.2 hways_121
        have l9 := (congrArg List.length hways_121).trans List.length_append
        refine z_asgIG s120 (hv_add (hv_vI rfl) (hv_int 1)) fun position_123 hposition_123 Hs122 s122 => ?_
        try dsimp only at hposition_123
        have hf124 : m_law_all_ways_l0 (ways_5, position_6) x23 = (ways_121, position_123) := (by subst hposition_123; subst hways_121; subst hlonger_29; subst hposition_4; subst hways_2; first | (simp only [m_law_all_ways_l0, he117, if_true, if_false, Bool.false_eq_true, decide_true, decide_false, Option.getD_some, Option.isNone_none, Option.isNone_some, Bool.not_true, Bool.not_false, ↓reduceIte]; done) | (rfl; done) | ((unfold m_law_all_ways_l0); (dsimp only); (first | rw [he117] | skip); (try dsimp only); first | done | rfl))
        exact ⟨ways_121, position_123, vways_121, _, _, _, _, _, _, _, _, _, _, _, he19.trans ((foldl_step hi25).trans (by rw [hf124])), (by exact ⟨by rw [Nat.pow_succ]; omega, by omega, w9⟩), rfl, s122.keep fun _ h => ⟨h.2.2.2.2.1, ⟨h.1, ⟨h.2.2.2.2.2.2.1, True.intro⟩⟩⟩⟩
    · obtain ⟨ways_125, position_126, vways_125, o127, o128, o129, o130, o131, o132, o133, o134, o135, o136, o137, he139, hg140, rfl, s138⟩ := hP
      have hg140q0 := hg140.1
      have hg140q1 := hg140.2.1
      have hg140q2 := hg140.2.2
      rw [foldl_end] at he139
      have hF141 : m_law_all_ways start_key_ moves_of_ = ways_125 := (by subst hposition_4; subst hways_2; first | (simp only [m_law_all_ways, he139, if_true, if_false, Bool.false_eq_true, decide_true, decide_false, Option.getD_some, Option.isNone_none, Option.isNone_some, Bool.not_true, Bool.not_false, ↓reduceIte]; done) | (rfl; done) | ((unfold m_law_all_ways); (dsimp only); (first | rw [he139] | skip); (try dsimp only); first | done | rfl))
      exact zq_ret s138 (hv_var (x := ways_125) rfl s138.im.2.1) fun v H' e d => q v H' e (by rw [hF141]; exact d)
def m_law_expected_l1 (position_ : Int) (key_ : Int) (s_ : (Option ((T3 Int Int Int) × (Tup (Int × Int))))) (x_ : (T4 Int Int (T3 Int Int Int) (Tup (Int × Int)))) : (Option ((T3 Int Int Int) × (Tup (Int × Int)))) :=
  let best_ : (Option ((T3 Int Int Int) × (Tup (Int × Int)))) := s_
  let place_ : Int := x_.a
  let other_ : Int := x_.b
  let cost_ : (T3 Int Int Int) := x_.c
  let way_ : (Tup (Int × Int)) := x_.d
  if ((decide (place_ = position_)) && (decide (other_ = key_))) = true then
    if ((Option.isNone best_) || (DatumOrd.lt (cost_, way_) (Option.getD best_ ((T3.mk 0 0 0), (Tup.mk []))))) = true then
      let best_ : (Option ((T3 Int Int Int) × (Tup (Int × Int)))) := (some (cost_, way_))
      best_
    else
      best_
  else
    best_
def m_law_expected_l0 (ways_ : (List (T4 Int Int (T3 Int Int Int) (Tup (Int × Int))))) (position_ : Int) (s_ : (List (T3 Int (T3 Int Int Int) (Tup (Int × Int))))) (x_ : Int) : (List (T3 Int (T3 Int Int Int) (Tup (Int × Int)))) :=
  let entries_ : (List (T3 Int (T3 Int Int Int) (Tup (Int × Int)))) := s_
  let key_ : Int := x_
  let best_ : (Option ((T3 Int Int Int) × (Tup (Int × Int)))) := none
  let r1_ : (Option ((T3 Int Int Int) × (Tup (Int × Int)))) := List.foldl (m_law_expected_l1 position_ key_) best_ ways_
  let best_ : (Option ((T3 Int Int Int) × (Tup (Int × Int)))) := r1_
  if (!(Option.isNone best_)) = true then
    let entries_ : (List (T3 Int (T3 Int Int Int) (Tup (Int × Int)))) := entries_ ++ [(T3.mk key_ (Option.getD best_ ((T3.mk 0 0 0), (Tup.mk []))).1 (Option.getD best_ ((T3.mk 0 0 0), (Tup.mk []))).2)]
    entries_
  else
    entries_
def m_law_expected (ways_ : (List (T4 Int Int (T3 Int Int Int) (Tup (Int × Int))))) (position_ : Int) : (List (T3 Int (T3 Int Int Int) (Tup (Int × Int)))) :=
  let entries_ : (List (T3 Int (T3 Int Int Int) (Tup (Int × Int)))) := []
  let r0_ : (List (T3 Int (T3 Int Int Int) (Tup (Int × Int)))) := loopN (m_law_expected_l0 ways_ position_) (Int.toNat (3 : Int)) (0 : Int) entries_
  let entries_ : (List (T3 Int (T3 Int Int Int) (Tup (Int × Int)))) := r0_
  entries_
abbrev s_law_expected : Stmt := (topS 11)
theorem sc_law_expected : FnScope ["ways", "position", "entries", "key", "best", "place", "other", "cost", "way"] ["ways", "position"] (defScope s_law_expected) := ⟨rfl, rfl, rfl, by decide +kernel, rfl, by decide +kernel, by decide +kernel⟩
abbrev sp_law_expected (K : PySem.W.Frag) : Sp := PrD K (fun c : (List (T4 Int Int (T3 Int Int Int) (Tup (Int × Int)))) × Int => [Dx.toX c.1, Dx.toX c.2]) (fun c => c.1.length ≤ 1000 ∧ ∀ x ∈ c.1, x.d.items.length ≤ 1000) (fun c => (m_law_expected c.1 c.2 : (List (T3 Int (T3 Int Int Int) (Tup (Int × Int))))))
theorem ok_law_expected (T : Txt K mg) : FnOk P w K mg base CX0 1 T.f_law_expected T.d_law_expected ["ways", "position"] (sp_law_expected K) := by
  refine T.u_law_expected.ok sc_law_expected (fun vs H Q E h => ?_) (fun cdv A outer s H vs Q E hr h => ?_)
  · obtain ⟨Mc, c, mok, da, pre, q⟩ := h
    exact (dpa_len da)
  · obtain ⟨Mc, c, mok, da, pre, q⟩ := h
    obtain ⟨ways_, position_⟩ := c
    dsimp only at da pre q
    obtain ⟨v0, w0, rfl, d0, da0⟩ := dpa_inv da
    obtain ⟨v1, w1, rfl, d1, da1⟩ := dpa_inv da0
    cases dpa_inv0 da1
    cases (Dt.int d1)
    have s0 : Sg K Mc H H [(v0, Dx.toX ways_)] [] := Sg.enter mok ⟨d0, True.intro⟩
    refine ⟨_, (pss_cons (ps_set (i := 2) sc_law_expected.nd rfl (.inl rfl) (pe_lst pa_nil)) (pss_cons (ps_for PassesOwn.never rfl (pi_range1 (by rfl) T.n_range (pa_cons pe_int pa_nil)) (pg_name (i := 3) sc_law_expected.nd rfl (.inl rfl)) (pss_cons (ps_set (i := 4) sc_law_expected.nd rfl (.inl rfl) pe_non) (pss_cons (ps_for PassesOwn.never rfl (pi_list (pv 0)) (pg_tup rfl (pgs_cons (pg_name (i := 5) sc_law_expected.nd rfl (.inl rfl)) (pgs_cons (pg_name (i := 6) sc_law_expected.nd rfl (.inl rfl)) (pgs_cons (pg_name (i := 7) sc_law_expected.nd rfl (.inl rfl)) (pgs_cons (pg_name (i := 8) sc_law_expected.nd rfl (.inl rfl)) pgs_nil))))) (pss_cons (ps_if (PW.pt (pw_and (pt_cmpR op_eq (pv 5) (pv 1) (nomark _)) (pw_and1 (pt_cmpR op_eq (pv 6) (pv 3) (nomark _))))) (pss_cons (ps_if (PW.pt (pw_or (pt_cmpR op_isN (pv 4) pe_non (nomark _)) (pw_or1 (pt_cmpR (op_ltT (α := ((T3 Int Int Int) × (Tup (Int × Int)))) (hud hr (by decide +kernel))) (pe_tup (pa_cons (pv 7) (pa_cons (pv 8) pa_nil))) (pv 4) (nomark _))))) (pss_cons (ps_set (i := 4) sc_law_expected.nd rfl (.inl rfl) (pe_tup (pa_cons (pv 7) (pa_cons (pv 8) pa_nil)))) pss_nil) pss_nil) pss_nil) pss_nil) pss_nil)) (pss_cons (ps_if (pt_cmpR op_notN (pv 4) pe_non (nomark _)) (pss_cons (ps_expr (pe_bm PySem.F.plainAttrs_list PySem.F.slot_list_append PySem.F.type_list_append mt_append (pv 2) (pa_cons (pe_tup (pa_cons (pv 3) (pa_cons (pe_ix ix_tup (pv 4) pe_int (fun _ _ => rfl)) (pa_cons (pe_ix ix_tup (pv 4) pe_int (fun _ _ => rfl)) pa_nil)))) pa_nil))) pss_nil) pss_nil) pss_nil)))) (pss_cons (ps_ret (pv 2)) pss_nil))), ?_⟩
    refine z_nilG (T3 Int (T3 Int Int Int) (Tup (Int × Int))) s0 fun entries_2 hentries_2 ps1 Hs1 s1 => ?_
    have lentries_2 : entries_2.length = 0 := by rw [hentries_2]; rfl
    refine zq_forR1G s1 (hv_int 3) (by first | omega | decide +kernel | (simp only [List.length_cons, List.length_nil]; omega)) (fun i σ' H' => ∃ (entries_3 : (List (T3 Int (T3 Int Int Int) (Tup (Int × Int))))) (o4 : Option V) (o5 : Option V) (o6 : Option V) (o7 : Option V) (o8 : Option V) (o9 : Option V), (loopN (m_law_expected_l0 ways_ position_) (Int.toNat (3 : Int)) (0 : Int) entries_2 : (List (T3 Int (T3 Int Int Int) (Tup (Int × Int))))) = (loopN (m_law_expected_l0 ways_ position_) ((Int.toNat (3 : Int)) - i) ((0 : Int) + (i : Int)) entries_3 : (List (T3 Int (T3 Int Int Int) (Tup (Int × Int))))) ∧ (entries_3.length ≤ (i)) ∧ σ' = [some v0, some (V.int position_), some (.ref ps1), o4, o5, o6, o7, o8, o9] ∧ Sg K Mc H H' [(v0, Dx.toX ways_)] [(ps1, .lst (List.map Dx.toX entries_3))]) (fun Hs10 s10 => ⟨entries_2, _, _, _, _, _, _, (by simp), (by first | trivial | omega | (simp; done) | simp_all), rfl, s10.keep fun _ h => ⟨h.1, True.intro⟩⟩) (fun i14 x15 σ' Hs13 hx16 hi17 hP => ?_) (fun σ' Hs13 hP => ?_)
    · obtain ⟨entries_3, o4, o5, o6, o7, o8, o9, he11, hg12, rfl, s13⟩ := hP
      refine z_asgG s13 (hv_none (α := ((T3 Int Int Int) × (Tup (Int × Int))))) fun best_20 hbest_20 vbest_20 Hs19 s19 => ?_
      try dsimp only at hbest_20
      refine zq_for s19 (hv_var (x := ways_) rfl s19.im.2.1) (fun vsrc1 i σ' H' => ∃ (best_21 : (Option ((T3 Int Int Int) × (Tup (Int × Int))))) (vbest_21 : V) (o22 : Option V) (o23 : Option V) (o24 : Option V) (o25 : Option V), (List.foldl (m_law_expected_l1 position_ x15) best_20 ways_ : (Option ((T3 Int Int Int) × (Tup (Int × Int))))) = (List.foldl (m_law_expected_l1 position_ x15) best_21 (List.drop i ways_) : (Option ((T3 Int Int Int) × (Tup (Int × Int))))) ∧ True ∧ σ' = [some v0, some (V.int position_), some (.ref ps1), some (V.int x15), some vbest_21, o22, o23, o24, o25] ∧ Sg K Mc H H' [(vsrc1, Dx.toX ways_), (vbest_21, Dx.toX best_21), (v0, Dx.toX ways_)] [(ps1, .lst (List.map Dx.toX entries_3))]) (fun vsrc1 Hs26 s26 => ⟨best_20, vbest_20, _, _, _, _, rfl, (by first | trivial | omega | (simp; done) | simp_all), rfl, s26.keep fun _ h => ⟨h.1, ⟨h.2.1, ⟨h.2.2.1, True.intro⟩⟩⟩⟩) (fun vsrc1 i σ' H' hP => by obtain ⟨best_21, vbest_21, o22, o23, o24, o25, he, hg, hs, hS⟩ := hP; exact hS.im.1) (fun vsrc1 i30 x31 wx31 σ' Hs29 hi33 hP hx32 => ?_) (fun vsrc1 σ' Hs29 hP => ?_)
      · obtain ⟨best_21, vbest_21, o22, o23, o24, o25, he27, hg28, rfl, s29⟩ := hP
        have qx31 := (List.getElem?_eq_some_iff.mp hi33).1
        obtain ⟨l43, u35, u36, u37, u38, rfl, st44, d39, d40, d41, d42⟩ := Dt.t4 (p := x31) hx32
        have zd39 := Dt.int d39
        subst zd39
        have zd40 := Dt.int d40
        subst zd40
        have s45 := s29.put d41
        have s46 := s45.put d42
        refine ⟨_, _, rfl, ex_t msk_le st44, rfl, _, _, rfl, _, _, rfl, _, _, rfl, _, _, rfl, rfl, ?_⟩
        refine z_ifx (b := ((decide (x31.a = position_)) && (decide (x31.b = x15)))) s46 (ht_and (ht_val (K := K) (hv_eqI (hv_vI rfl) (hv_vI rfl))) (fun hb0 => (ht_val (K := K) (hv_eqI (hv_vI rfl) (hv_vI rfl))))) (fun hb47 Hs48 s48 => ?_) (fun hb47 Hs49 s49 => ?_)
        · have hb47P := hb47
          try simp only [decide_eq_true_eq, decide_eq_false_iff_not, Bool.not_eq_true', Bool.not_eq_false', Bool.and_eq_true, Bool.or_eq_true, Bool.or_eq_false_iff] at hb47P
          refine z_ifx (b := ((Option.isNone best_21) || (DatumOrd.lt (x31.c, x31.d) (Option.getD best_21 ((T3.mk 0 0 0), (Tup.mk [])))))) s48 (ht_or (ht_val (K := K) (hv_isN (hv_var (x := best_21) rfl s48.im.2.2.2.1))) (fun hb0 => (ht_val (K := K) (hv_ltT (hv_whole s48 (hv_tup2 (hv_var (x := x31.c) rfl s48.im.2.1) (hv_var (x := x31.d) rfl s48.im.1))) (hv_whole s48 (hv_getO (hv_var (x := best_21) rfl s48.im.2.2.2.1) (by exact hb0))))))) (fun hb50 Hs51 s51 => ?_) (fun hb50 Hs52 s52 => ?_)
          · have hb50P := hb50
            try simp only [decide_eq_true_eq, decide_eq_false_iff_not, Bool.not_eq_true', Bool.not_eq_false', Bool.and_eq_true, Bool.or_eq_true, Bool.or_eq_false_iff] at hb50P
            refine z_asgG s51 (hv_some (hv_tup2 (hv_var (x := x31.c) rfl s51.im.2.1) (hv_var (x := x31.d) rfl s51.im.1))) fun best_54 hbest_54 vbest_54 Hs53 s53 => ?_
            try dsimp only at hbest_54
            have hf55 : (m_law_expected_l1 position_ x15) best_21 x31 = best_54 := (by subst hbest_54; subst hbest_20; subst hentries_2; first | (simp only [m_law_expected_l1, hb47, hb50, if_true, if_false, Bool.false_eq_true, decide_true, decide_false, Option.getD_some, Option.isNone_none, Option.isNone_some, Bool.not_true, Bool.not_false, ↓reduceIte]; done) | (rfl; done) | ((unfold m_law_expected_l1); (dsimp only); (first | rw [ifT hb47] | rw [ifF hb47] | skip); (try dsimp only); (first | rw [ifT hb50] | rw [ifF hb50] | skip); (try dsimp only); first | done | rfl) | (exfalso; simp at hb50; done) | (exfalso; simp at hb47; done))
            exact ⟨best_54, vbest_54, _, _, _, _, he27.trans ((foldl_step hi33).trans (by rw [hf55])), (by first | trivial | omega | (simp_all; done) | (simp_all; omega)), rfl, s53.keep fun _ h => ⟨h.2.2.2.1, ⟨h.1, ⟨h.2.2.2.2.2.1, True.intro⟩⟩⟩⟩
          · have hb50P := hb50
            try simp only [decide_eq_true_eq, decide_eq_false_iff_not, Bool.not_eq_true', Bool.not_eq_false', Bool.and_eq_true, Bool.or_eq_true, Bool.or_eq_false_iff] at hb50P
            have hf56 : (m_law_expected_l1 position_ x15) best_21 x31 = best_21 := (by subst hbest_20; subst hentries_2; first | (simp only [m_law_expected_l1, hb47, hb50, if_true, if_false, Bool.false_eq_true, decide_true, decide_false, Option.getD_some, Option.isNone_none, Option.isNone_some, Bool.not_true, Bool.not_false, ↓reduceIte]; done) | (rfl; done) | ((unfold m_law_expected_l1); (dsimp only); (first | rw [ifT hb47] | rw [ifF hb47] | skip); (try dsimp only); (first | rw [ifT hb50] | rw [ifF hb50] | skip); (try dsimp only); first | done | rfl) | (exfalso; simp at hb50; done) | (exfalso; simp at hb47; done))
            exact ⟨best_21, vbest_21, _, _, _, _, he27.trans ((foldl_step hi33).trans (by rw [hf56])), (by first | trivial | omega | (simp_all; done) | (simp_all; omega)), rfl, s52.keep fun _ h => ⟨h.2.2.1, ⟨h.2.2.2.1, ⟨h.2.2.2.2.1, True.intro⟩⟩⟩⟩
        · have hb47P := hb47
          try simp only [decide_eq_true_eq, decide_eq_false_iff_not, Bool.not_eq_true', Bool.not_eq_false', Bool.and_eq_true, Bool.or_eq_true, Bool.or_eq_false_iff] at hb47P
          have hf57 : (m_law_expected_l1 position_ x15) best_21 x31 = best_21 := (by subst hbest_20; subst hentries_2; first | (simp only [m_law_expected_l1, hb47, if_true, if_false, Bool.false_eq_true, decide_true, decide_false, Option.getD_some, Option.isNone_none, Option.isNone_some, Bool.not_true, Bool.not_false, ↓reduceIte]; done) | (rfl; done) | ((unfold m_law_expected_l1); (dsimp only); (first | rw [ifT hb47] | rw [ifF hb47] | skip); (try dsimp only); first | done | rfl) | (exfalso; simp at hb47; done))
          exact ⟨best_21, vbest_21, _, _, _, _, he27.trans ((foldl_step hi33).trans (by rw [hf57])), (by first | trivial | omega | (simp_all; done) | (simp_all; omega)), rfl, s49.keep fun _ h => ⟨h.2.2.1, ⟨h.2.2.2.1, ⟨h.2.2.2.2.1, True.intro⟩⟩⟩⟩
      · obtain ⟨best_58, vbest_58, o59, o60, o61, o62, he64, hg65, rfl, s63⟩ := hP
        rw [foldl_end] at he64
        refine z_ifx (b := (!(Option.isNone best_58))) s63 (ht_val (K := K) (hv_notN (hv_var (x := best_58) rfl s63.im.2.1))) (fun hb66 Hs67 s67 => ?_) (fun hb66 Hs68 s68 => ?_)
        · have hb66P := hb66
          try simp only [decide_eq_true_eq, decide_eq_false_iff_not, Bool.not_eq_true', Bool.not_eq_false', Bool.and_eq_true, Bool.or_eq_true, Bool.or_eq_false_iff] at hb66P
          refine zq_appG s67 (kk := 0) rfl (ev_var rfl) (hv_tup3 (hv_vI rfl) (hv_p0 (p := (Option.getD best_58 ((T3.mk 0 0 0), (Tup.mk [])))) (hv_getO (hv_var (x := best_58) rfl s67.im.2.1) (by simpa using ‹(!(Option.isNone _)) = true›))) (hv_p1 (p := (Option.getD best_58 ((T3.mk 0 0 0), (Tup.mk [])))) (hv_getO (hv_var (x := best_58) rfl s67.im.2.1) (by simpa using ‹(!(Option.isNone _)) = true›)))) (by first | omega | decide +kernel | (simp only [List.length_cons, List.length_nil]; omega)) fun entries_70 hentries_70 Hs69 s69 => ?_
          have lentries_70 : entries_70.length = entries_3.length + 1 := by rw [hentries_70, List.length_append]; rfl
          have s69 : Sg K Mc _ _ _ [(ps1, .lst (List.map Dx.toX entries_70))] := s69
          have hf71 : (m_law_expected_l0 ways_ position_) entries_3 x15 = entries_70 := (by subst hentries_70; subst hbest_20; subst hentries_2; first | (simp only [m_law_expected_l0, he64, hb66, if_true, if_false, Bool.false_eq_true, decide_true, decide_false, Option.getD_some, Option.isNone_none, Option.isNone_some, Bool.not_true, Bool.not_false, ↓reduceIte]; done) | (rfl; done) | ((unfold m_law_expected_l0); (dsimp only); (first | rw [he64] | skip); (try dsimp only); (first | rw [ifT hb66] | rw [ifF hb66] | skip); (try dsimp only); first | done | rfl) | (exfalso; simp at hb66; done))
          exact ⟨entries_70, _, _, _, _, _, _, he11.trans ((loopN_step hi17).trans (by rw [← hx16, hf71])), (by first | trivial | omega | (simp_all; done) | (simp_all; omega)), rfl, s69.keep fun _ h => ⟨h.2.2.1, True.intro⟩⟩
        · have hb66P := hb66
          try simp only [decide_eq_true_eq, decide_eq_false_iff_not, Bool.not_eq_true', Bool.not_eq_false', Bool.and_eq_true, Bool.or_eq_true, Bool.or_eq_false_iff] at hb66P
          have hf72 : (m_law_expected_l0 ways_ position_) entries_3 x15 = entries_3 := (by subst hbest_20; subst hentries_2; first | (simp only [m_law_expected_l0, he64, hb66, if_true, if_false, Bool.false_eq_true, decide_true, decide_false, Option.getD_some, Option.isNone_none, Option.isNone_some, Bool.not_true, Bool.not_false, ↓reduceIte]; done) | (rfl; done) | ((unfold m_law_expected_l0); (dsimp only); (first | rw [he64] | skip); (try dsimp only); (first | rw [ifT hb66] | rw [ifF hb66] | skip); (try dsimp only); first | done | rfl) | (exfalso; simp at hb66; done))
          exact ⟨entries_3, _, _, _, _, _, _, he11.trans ((loopN_step hi17).trans (by rw [← hx16, hf72])), (by first | trivial | omega | (simp_all; done) | (simp_all; omega)), rfl, s68.keep fun _ h => ⟨h.2.2.1, True.intro⟩⟩
    · obtain ⟨entries_73, o74, o75, o76, o77, o78, o79, he81, hg82, rfl, s80⟩ := hP
      rw [loopN_end] at he81
      have s83 := Sg.frz (xs := entries_73) s80
      have hF84 : m_law_expected ways_ position_ = entries_73 := (by subst hentries_2; first | (simp only [m_law_expected, he81, if_true, if_false, Bool.false_eq_true, decide_true, decide_false, Option.getD_some, Option.isNone_none, Option.isNone_some, Bool.not_true, Bool.not_false, ↓reduceIte]; done) | (rfl; done) | ((unfold m_law_expected); (dsimp only); (first | rw [he81] | skip); (try dsimp only); first | done | rfl))
      exact zq_ret s83 (hv_var (x := entries_73) rfl s83.im.1) fun v H' e d => q v H' e (by rw [hF84]; exact d)
def m_make_row_l0 (rows_ : (List (List (T3 Int (T3 Int Int Int) (Tup (Int × Int)))))) (position_ : Int) (s_ : (Dc Int (Dc Int ((T3 Int Int Int) × (Tup (Int × Int))))) × (Dc Int ((T3 Int Int Int) × (Tup (Int × Int))))) (x_ : (T4 Int Int Int (T3 Int Int Int))) : (Dc Int (Dc Int ((T3 Int Int Int) × (Tup (Int × Int))))) × (Dc Int ((T3 Int Int Int) × (Tup (Int × Int)))) :=
  let tables_ : (Dc Int (Dc Int ((T3 Int Int Int) × (Tup (Int × Int))))) := s_.1
  let best_ : (Dc Int ((T3 Int Int Int) × (Tup (Int × Int)))) := s_.2
  let start_ : Int := x_.a
  let key_ : Int := x_.b
  let target_ : Int := x_.c
  let cost_ : (T3 Int Int Int) := x_.d
  let j1_ : (Dc Int (Dc Int ((T3 Int Int Int) × (Tup (Int × Int))))) := if (!(Dc.has tables_ start_)) = true then
      let tables_ : (Dc Int (Dc Int ((T3 Int Int Int) × (Tup (Int × Int))))) := (Dc.put tables_ start_ (m_by_key (rows_.getD (Int.toNat start_) [])))
      tables_
    else
      tables_
  let tables_ : (Dc Int (Dc Int ((T3 Int Int Int) × (Tup (Int × Int))))) := j1_
  if (!(Dc.has (Option.getD (Dc.get tables_ start_) (Dc.mk [])) key_)) = true then
    (tables_, best_)
  else
    let p14_ : ((T3 Int Int Int) × (Tup (Int × Int))) := (Option.getD (Dc.get (Option.getD (Dc.get tables_ start_) (Dc.mk [])) key_) ((T3.mk 0 0 0), (Tup.mk [])))
    let cost_before_ : (T3 Int Int Int) := p14_.1
    let way_before_ : (Tup (Int × Int)) := p14_.2
    let total_ : (T3 Int Int Int) := (m_add_costs cost_before_ cost_)
    if ((Dc.has best_ target_) && (DatumOrd.lt (Option.getD (Dc.get best_ target_) ((T3.mk 0 0 0), (Tup.mk []))).1 total_)) = true then
      (tables_, best_)
    else
      let found_ : ((T3 Int Int Int) × (Tup (Int × Int))) := (total_, (Tup.mk (Tup.items way_before_ ++ Tup.items (Tup.mk [(position_, target_)]))))
      if ((!(Dc.has best_ target_)) || (DatumOrd.lt found_ (Option.getD (Dc.get best_ target_) ((T3.mk 0 0 0), (Tup.mk []))))) = true then
        let best_ : (Dc Int ((T3 Int Int Int) × (Tup (Int × Int)))) := (Dc.put best_ target_ found_)
        (tables_, best_)
      else
        (tables_, best_)
def m_make_row (rows_ : (List (List (T3 Int (T3 Int Int Int) (Tup (Int × Int)))))) (position_ : Int) (moves_ : (List (T4 Int Int Int (T3 Int Int Int)))) : (List (T3 Int (T3 Int Int Int) (Tup (Int × Int)))) :=
  let tables_ : (Dc Int (Dc Int ((T3 Int Int Int) × (Tup (Int × Int))))) := (Dc.mk [])
  let best_ : (Dc Int ((T3 Int Int Int) × (Tup (Int × Int)))) := (Dc.mk [])
  let r0_ : (Dc Int (Dc Int ((T3 Int Int Int) × (Tup (Int × Int))))) × (Dc Int ((T3 Int Int Int) × (Tup (Int × Int)))) := List.foldl (m_make_row_l0 rows_ position_) (tables_, best_) moves_
  let tables_ : (Dc Int (Dc Int ((T3 Int Int Int) × (Tup (Int × Int))))) := r0_.1
  let best_ : (Dc Int ((T3 Int Int Int) × (Tup (Int × Int)))) := r0_.2
  (List.map (fun (c_ : Int) => (T3.mk c_ (Option.getD (Dc.get best_ c_) ((T3.mk 0 0 0), (Tup.mk []))).1 (Option.getD (Dc.get best_ c_) ((T3.mk 0 0 0), (Tup.mk []))).2)) (sortI (List.map (fun p_ => p_.1) (Dc.kvs best_))))
abbrev s_make_row : Stmt := (topS 3)
theorem sc_make_row : FnScope ["rows", "position", "moves", "tables", "best", "start", "key", "target", "cost", "cost_before", "way_before", "total", "found", "last"] ["rows", "position", "moves"] (defScope s_make_row) := ⟨rfl, rfl, rfl, by decide +kernel, rfl, by decide +kernel, by decide +kernel⟩
abbrev sp_make_row (K : PySem.W.Frag) : Sp := PrB K (fun c : (List (List (T3 Int (T3 Int Int Int) (Tup (Int × Int))))) × Int × (List (T4 Int Int Int (T3 Int Int Int))) => [Ag.bo (List.map Dx.toX c.1), Ag.im (Dx.toX c.2.1), Ag.bo (List.map Dx.toX c.2.2)]) (fun c => c.2.2.length ≤ 60 ∧ (∀ r ∈ c.1, r.length ≤ 1000 ∧ ∀ x ∈ r, x.c.items.length ≤ 1000) ∧ ∀ m ∈ c.2.2, 0 ≤ m.a ∧ m.a < (c.1.length : Int)) (fun c => (m_make_row c.1 c.2.1 c.2.2 : (List (T3 Int (T3 Int Int Int) (Tup (Int × Int))))))
theorem ok_make_row (T : Txt K mg) : FnOk P w K mg base CX0 2 T.f_make_row T.d_make_row ["rows", "position", "moves"] (sp_make_row K) := by
  refine T.u_make_row.ok sc_make_row (fun vs H Q E h => ?_) (fun cdv A outer s H vs Q E hr h => ?_)
  · obtain ⟨Mc, c, mok, da, pre, q⟩ := h
    exact (aga_len da)
  · obtain ⟨Mc, c, mok, da, pre, q⟩ := h
    obtain ⟨rows_, position_, moves_⟩ := c
    dsimp only at da pre q
    obtain ⟨l0, w0, ws0, rfl, q0, d0, da0⟩ := aga_invB da
    obtain ⟨v1, w1, rfl, d1, da1⟩ := aga_inv da0
    obtain ⟨l2, w2, ws2, rfl, q2, d2, da2⟩ := aga_invB da1
    cases aga_inv0 da2
    cases (Dt.int d1)
    have s0 : Sg K Mc H H [] [] := Sg.enter mok True.intro
    refine ⟨_, (pss_cons (ps_set (i := 3) sc_make_row.nd rfl (.inl rfl) pe_dnewK) (pss_cons (ps_set (i := 4) sc_make_row.nd rfl (.inr rfl) pe_dnewK) (pss_cons (ps_for PassesOwn.never rfl (pi_list (pv 2)) (pg_tup rfl (pgs_cons (pg_name (i := 5) sc_make_row.nd rfl (.inl rfl)) (pgs_cons (pg_name (i := 6) sc_make_row.nd rfl (.inl rfl)) (pgs_cons (pg_name (i := 7) sc_make_row.nd rfl (.inl rfl)) (pgs_cons (pg_name (i := 8) sc_make_row.nd rfl (.inl rfl)) pgs_nil))))) (pss_cut (ps_if (pt_cmp (pc_dnotin (hud hr (by decide)) (pv 5) (pv 3)) (by rfl)) (pss_cons (ps_dput (hud hr (by decide)) (pv 3) (pv 5) (pe_call (ok_by_key T) hr (by rfl) T.g_by_key T.u_by_key.kp T.b_by_key .nil pass0 (pa_cons (pe_ix ix_list (pv 0) (pv 5) (fun _ _ => rfl)) pa_nil)) (by rfl)) pss_nil) pss_nil) (pss_cons (ps_if (pt_cmp (pc_dnotin (hud hr (by decide)) (pv 6) (pe_dget (hud hr (by decide)) (pv 3) (pv 5) (fun _ _ => rfl))) (by rfl)) (pss_cons ps_continue pss_nil) pss_nil) (pss_cons (ps_asg (pe_dget (hud hr (by decide)) (pe_dget (hud hr (by decide)) (pv 3) (pv 5) (fun _ _ => rfl)) (pv 6) (fun _ _ => rfl)) (pg_tup rfl (pgs_cons (pg_name (i := 9) sc_make_row.nd rfl (.inl rfl)) (pgs_cons (pg_name (i := 10) sc_make_row.nd rfl (.inl rfl)) pgs_nil)))) (pss_cons (ps_set (i := 11) sc_make_row.nd rfl (.inl rfl) (pe_call (ok_add_costs T) hr (by rfl) T.g_add_costs T.u_add_costs.kp T.b_add_costs .nil pass0 (pa_cons (pv 9) (pa_cons (pv 8) pa_nil)))) (pss_cons (ps_if (PW.pt (pw_and (pt_cmp (pc_din (hud hr (by decide)) (pv 7) (pv 4)) (by rfl)) (pw_and1 (pt_cmpR (op_ltT (α := (T3 Int Int Int)) (hud hr (by decide +kernel))) (pe_ix ix_tup (pe_dget (hud hr (by decide)) (pv 4) (pv 7) (fun _ _ => rfl)) pe_int (fun _ _ => rfl)) (pv 11) (nomark _))))) (pss_cons ps_continue pss_nil) pss_nil) (pss_cons (ps_set (i := 12) sc_make_row.nd rfl (.inl rfl) (pe_tup (pa_cons (pv 11) (pa_cons (pe_op op_catA (pv 10) (pe_tup (pa_cons (pe_tup (pa_cons (pv 1) (pa_cons (pv 7) pa_nil))) pa_nil))) pa_nil)))) (pss_cons (ps_if (PW.pt (pw_or (pt_cmp (pc_dnotin (hud hr (by decide)) (pv 7) (pv 4)) (by rfl)) (pw_or1 (pt_cmpR (op_ltT (α := ((T3 Int Int Int) × (Tup (Int × Int)))) (hud hr (by decide +kernel))) (pv 12) (pe_dget (hud hr (by decide)) (pv 4) (pv 7) (fun _ _ => rfl)) (nomark _))))) (pss_cons (ps_dput (hud hr (by decide)) (pv 4) (pv 7) (pv 12) (by rfl)) pss_nil) pss_nil) pss_nil)))))))) (pss_cons (ps_ret (pe_lc (own := [("last", 13)]) (g := gName 13) rfl sc_make_row.nd (pi_list (pe_callB (call_sortedDI rfl) (by rfl) T.n_sorted (by decide +kernel) (pa_cons (pv 4) pa_nil))) (blkOk_by (own := [("last", 13)]) (N := ["rows", "position", "moves", "tables", "best", "start", "key", "target", "cost", "cost_before", "way_before", "total", "found", "last"]) (sc := defScope s_make_row) (by decide +kernel)) (fun _ _ _ _ _ => (pg_name (i := 13) sc_make_row.nd rfl (Or.inl rfl) (.inr (by rfl)))) (fun _ _ _ _ _ => pts_nil) (fun _ _ _ _ _ => (pe_tup (pa_cons (pv 13) (pa_cons (pe_ix (show IxR _ (rIxT K) from ix_tup) (pe_dget (hud hr (by decide)) (pv 4) (pv 13) (fun _ _ => rfl)) pe_int (fun _ _ => rfl)) (pa_cons (pe_ix (show IxR _ (rIxT K) from ix_tup) (pe_dget (hud hr (by decide)) (pv 4) (pv 13) (fun _ _ => rfl)) pe_int (fun _ _ => rfl)) pa_nil))))))) pss_nil)))), ?_⟩
    refine z_dnil Int (Dc Int ((T3 Int Int Int) × (Tup (Int × Int)))) s0 fun tables_2 htables_2 ps1 Hs1 s1 => ?_
    have ltables_2 : tables_2.kvs.length = 0 := by rw [htables_2]; rfl
    refine z_dnil Int ((T3 Int Int Int) × (Tup (Int × Int))) s1 fun best_4 hbest_4 ps3 Hs3 s3 => ?_
    have lbest_4 : best_4.kvs.length = 0 := by rw [hbest_4]; rfl
    refine zq_forB s3 q2 d2 rfl (fun i σ' H' => ∃ (tables_5 : (Dc Int (Dc Int ((T3 Int Int Int) × (Tup (Int × Int)))))) (best_6 : (Dc Int ((T3 Int Int Int) × (Tup (Int × Int))))) (o7 : Option V) (o8 : Option V) (o9 : Option V) (o10 : Option V) (o11 : Option V) (o12 : Option V) (o13 : Option V) (o14 : Option V) (o15 : Option V), (List.foldl (m_make_row_l0 rows_ position_) (tables_2, best_4) moves_ : (Dc Int (Dc Int ((T3 Int Int Int) × (Tup (Int × Int))))) × (Dc Int ((T3 Int Int Int) × (Tup (Int × Int))))) = (List.foldl (m_make_row_l0 rows_ position_) (tables_5, best_6) (List.drop i moves_) : (Dc Int (Dc Int ((T3 Int Int Int) × (Tup (Int × Int))))) × (Dc Int ((T3 Int Int Int) × (Tup (Int × Int))))) ∧ (best_6.kvs.length ≤ (i) ∧ tables_5.kvs.length ≤ (i) ∧ Short tables_5) ∧ σ' = [some (.ref l0), some (V.int position_), some (.ref l2), some (.ref ps1), some (.ref ps3), o7, o8, o9, o10, o11, o12, o13, o14, o15] ∧ Sg K Mc H H' [] [(ps3, Dc.m best_6), (ps1, Dc.m tables_5)]) (fun Hs16 s16 => ⟨tables_2, best_4, _, _, _, _, _, _, _, _, _, rfl, (by exact ⟨by omega, by omega, by subst_vars; exact short_nil⟩), rfl, s16.keep fun _ h => True.intro⟩) (fun i σ' H' hP => by obtain ⟨tables_5, best_6, o7, o8, o9, o10, o11, o12, o13, o14, o15, he, hg, hs, hS⟩ := hP; exact ⟨_, _, hS, rfl⟩) (fun i20 x21 wx21 σ' Hs19 hi23 hP hx22 => ?_) (fun σ' Hs19 hP => ?_)
    · obtain ⟨tables_5, best_6, o7, o8, o9, o10, o11, o12, o13, o14, o15, he17, hg18, rfl, s19⟩ := hP
      have qx21 := (List.getElem?_eq_some_iff.mp hi23).1
      obtain ⟨l33, u25, u26, u27, u28, rfl, st34, d29, d30, d31, d32⟩ := Dt.t4 (p := x21) hx22
      have zd29 := Dt.int d29
      subst zd29
      have zd30 := Dt.int d30
      subst zd30
      have zd31 := Dt.int d31
      subst zd31
      have s35 := s19.put d32
      refine ⟨_, _, rfl, ex_t msk_le st34, rfl, _, _, rfl, _, _, rfl, _, _, rfl, _, _, rfl, rfl, ?_⟩
      have hg18q0 := hg18.1
      have hg18q1 := hg18.2.1
      have hg18q2 := hg18.2.2
      have hmv := pre.2.2 _ (List.mem_of_getElem? hi23)
      have hmi := (List.getElem?_eq_some_iff.mp hi23).1
      have hgS := hg18
      refine z_ifj (fun σ' H' => ∃ (tables_39 : (Dc Int (Dc Int ((T3 Int Int Int) × (Tup (Int × Int))))))  (o42 : Option V) (o43 : Option V) (o44 : Option V) (o45 : Option V) (o46 : Option V), tables_39 = (if (!(Dc.has tables_5 x21.a)) = true then
        let tables_ : (Dc Int (Dc Int ((T3 Int Int Int) × (Tup (Int × Int))))) := (Dc.put tables_5 x21.a (m_by_key (rows_.getD (Int.toNat x21.a) [])))
        tables_
      else
        tables_5) ∧ σ' = [some (.ref l0), some (V.int position_), some (.ref l2), some (.ref ps1), some (.ref ps3), some (V.int x21.a), some (V.int x21.b), some (V.int x21.c), some u28, o42, o43, o44, o45, o46] ∧ Sg K Mc H H' [(u28, Dx.toX x21.d)] [(ps3, Dc.m best_6), (ps1, Dc.m tables_39)]) s35 (ht_B (K := K) (hv_dninM (d := tables_5) s35 (j := 1) rfl (hv_vI rfl) (ev_var rfl))) (fun hb36 Hs37 s37 => ?_) (fun hb36 Hs38 s38 => ?_) (fun σ' Hs41 hN => ?_)
      · have hb36P := hb36
        try simp only [decide_eq_true_eq, decide_eq_false_iff_not, Bool.not_eq_true', Bool.not_eq_false', Bool.and_eq_true, Bool.or_eq_true, Bool.or_eq_false_iff] at hb36P
        refine z_dputG (d := tables_5) s37 (j := 1) rfl (hv_call (rows_.getD (Int.toNat x21.a) []) (hd_cons (hv_at [] (hs_bor s37 q0 d0 rfl) (hv_vI rfl) (by first | omega | decide +kernel | (simp only [List.length_cons, List.length_nil]; omega)) (by first | omega | decide +kernel | (simp only [List.length_cons, List.length_nil]; omega))) hd_nil) (by exact (row_at pre.2.1 _).1)) (ev_var rfl) (hv_vI rfl) (by first | omega | decide +kernel | (simp only [List.length_cons, List.length_nil]; omega)) fun tables_48 htables_48 Hs47 s47 => ?_
        try dsimp only at htables_48
        have ltables_48 : tables_48.kvs.length ≤ tables_5.kvs.length + 1 := by rw [htables_48]; exact put_len _ _ _
        have ttables_48 : Dc.has tables_48 x21.a = true := by rw [htables_48]; exact put_has
        have s47 : Sg K Mc _ _ _ [(ps3, Dc.m best_6), (ps1, Dc.m tables_48)] := s47
        exact ⟨tables_48, _, _, _, _, _, (by subst htables_48; subst hbest_4; subst htables_2; first | (simp only [hb36, if_true, if_false, Bool.false_eq_true, decide_true, decide_false, Option.getD_some, Option.isNone_none, Option.isNone_some, Bool.not_true, Bool.not_false, ↓reduceIte]; done) | (rfl; done) | ((skip); (dsimp only); (first | rw [ifT hb36] | rw [ifF hb36] | skip); (try dsimp only); first | done | rfl) | (exfalso; simp at hb36; done)), rfl, s47.keep fun _ h => ⟨h.1, True.intro⟩⟩
      · have hb36P := hb36
        try simp only [decide_eq_true_eq, decide_eq_false_iff_not, Bool.not_eq_true', Bool.not_eq_false', Bool.and_eq_true, Bool.or_eq_true, Bool.or_eq_false_iff] at hb36P
        exact ⟨tables_5, _, _, _, _, _, (by subst hbest_4; subst htables_2; first | (simp only [hb36, if_true, if_false, Bool.false_eq_true, decide_true, decide_false, Option.getD_some, Option.isNone_none, Option.isNone_some, Bool.not_true, Bool.not_false, ↓reduceIte]; done) | (rfl; done) | ((skip); (dsimp only); (first | rw [ifT hb36] | rw [ifF hb36] | skip); (try dsimp only); first | done | rfl) | (exfalso; simp at hb36; done)), rfl, s38.keep fun _ h => ⟨h.1, True.intro⟩⟩
      · obtain ⟨tables_39, o42, o43, o44, o45, o46, hj40, rfl, s41⟩ := hN
        try dsimp only at hj40
        have tj : Dc.has tables_39 x21.a = true := by rw [hj40]; split; exact put_has; (rename_i q; simpa using q)
        have ts : Short tables_39 := by rw [hj40]; split; exact short_put (by have := hgS; exact this.2.2) (row_at pre.2.1 _).2; exact (by have := hgS; exact this.2.2)
        have tl : tables_39.kvs.length ≤ tables_5.kvs.length + 1 := by rw [hj40]; split; exact put_len _ _ _; exact Nat.le_succ _
        refine z_ifx (b := (!(Dc.has (Option.getD (Dc.get tables_39 x21.a) (Dc.mk [])) x21.b))) s41 (ht_B (K := K) (hv_dnin (hv_vI rfl) (hv_dgetM (d := tables_39) (y := (Option.getD (Dc.get tables_39 x21.a) (Dc.mk []))) s41 (j := 1) rfl (ev_var rfl) (hv_vI rfl) (by first | exact has_get _ (by assumption) | exact has_get _ (by simpa using ‹(!_) = false›) | exact has_get _ (has_sorted (by assumption)))))) (fun hb49 Hs50 s50 => ?_) (fun hb49 Hs51 s51 => ?_)
        · have hb49P := hb49
          try simp only [decide_eq_true_eq, decide_eq_false_iff_not, Bool.not_eq_true', Bool.not_eq_false', Bool.and_eq_true, Bool.or_eq_true, Bool.or_eq_false_iff] at hb49P
          have hf52 : (m_make_row_l0 rows_ position_) (tables_5, best_6) x21 = (tables_39, best_6) := (by subst hbest_4; subst htables_2; first | (simp only [m_make_row_l0, hj40, hb49, if_true, if_false, Bool.false_eq_true, decide_true, decide_false, Option.getD_some, Option.isNone_none, Option.isNone_some, Bool.not_true, Bool.not_false, ↓reduceIte]; done) | (simp only [m_make_row_l0, ← hj40, hb49, if_true, if_false, Bool.false_eq_true, decide_true, decide_false, Option.getD_some, Option.isNone_none, Option.isNone_some, Bool.not_true, Bool.not_false, ↓reduceIte]; done) | (rfl; done) | ((unfold m_make_row_l0); (dsimp only); (first | rw [← hj40] | rw [hj40] | skip); (try dsimp only); (first | rw [ifT hb49] | rw [ifF hb49] | skip); (try dsimp only); first | done | rfl) | (exfalso; simp at hb49; done))
          exact ⟨tables_39, best_6, _, _, _, _, _, _, _, _, _, he17.trans ((foldl_step hi23).trans (by rw [hf52])), (by first | exact ⟨by omega, by omega, ts⟩ | exact ⟨by omega, by omega, hgS.2.2⟩), rfl, s50.keep fun _ h => True.intro⟩
        · have hb49P := hb49
          try simp only [decide_eq_true_eq, decide_eq_false_iff_not, Bool.not_eq_true', Bool.not_eq_false', Bool.and_eq_true, Bool.or_eq_true, Bool.or_eq_false_iff] at hb49P
          refine z_unp2 s51 (hv_dget (d := (Option.getD (Dc.get tables_39 x21.a) (Dc.mk []))) (y := (Option.getD (Dc.get (Option.getD (Dc.get tables_39 x21.a) (Dc.mk [])) x21.b) ((T3.mk 0 0 0), (Tup.mk [])))) (hv_dgetM (d := tables_39) (y := (Option.getD (Dc.get tables_39 x21.a) (Dc.mk []))) s51 (j := 1) rfl (ev_var rfl) (hv_vI rfl) (by first | exact has_get _ (by assumption) | exact has_get _ (by simpa using ‹(!_) = false›) | exact has_get _ (has_sorted (by assumption)))) (hv_vI rfl) (by first | exact has_get _ (by assumption) | exact has_get _ (by simpa using ‹(!_) = false›) | exact has_get _ (has_sorted (by assumption)))) fun cost_before_54 way_before_55 hp56 vcost_before_54 vway_before_55 Hs53 s53 => ?_
          try dsimp only at hp56
          refine z_asgG s53 (hv_call (cost_before_54, x21.d) (hd_cons (hv_var (x := cost_before_54) rfl s53.im.1) (hd_cons (hv_var (x := x21.d) rfl s53.im.2.2.1) hd_nil)) True.intro) fun total_58 htotal_58 vtotal_58 Hs57 s57 => ?_
          try dsimp only at htotal_58
          refine z_ifx (b := ((Dc.has best_6 x21.c) && (DatumOrd.lt (Option.getD (Dc.get best_6 x21.c) ((T3.mk 0 0 0), (Tup.mk []))).1 total_58))) s57 (ht_and (ht_B (K := K) (hv_dinM (d := best_6) s57 (j := 0) rfl (hv_vI rfl) (ev_var rfl))) (fun hb0 => (ht_val (K := K) (hv_ltT (hv_whole s57 (hv_p0 (p := (Option.getD (Dc.get best_6 x21.c) ((T3.mk 0 0 0), (Tup.mk [])))) (hv_dgetM (d := best_6) (y := (Option.getD (Dc.get best_6 x21.c) ((T3.mk 0 0 0), (Tup.mk [])))) s57 (j := 0) rfl (ev_var rfl) (hv_vI rfl) (by first | exact has_get _ (by assumption) | exact has_get _ (by simpa using ‹(!_) = false›) | exact has_get _ (has_sorted (by assumption)))))) (hv_whole s57 (hv_var (x := total_58) rfl s57.im.1)))))) (fun hb59 Hs60 s60 => ?_) (fun hb59 Hs61 s61 => ?_)
          · have hb59P := hb59
            try simp only [decide_eq_true_eq, decide_eq_false_iff_not, Bool.not_eq_true', Bool.not_eq_false', Bool.and_eq_true, Bool.or_eq_true, Bool.or_eq_false_iff] at hb59P
            have hf62 : (m_make_row_l0 rows_ position_) (tables_5, best_6) x21 = (tables_39, best_6) := (by subst htotal_58; subst hbest_4; subst htables_2; first | (simp only [m_make_row_l0, hj40, hb49, ← hp56, hb59, if_true, if_false, Bool.false_eq_true, decide_true, decide_false, Option.getD_some, Option.isNone_none, Option.isNone_some, Bool.not_true, Bool.not_false, ↓reduceIte]; done) | (simp only [m_make_row_l0, ← hj40, hb49, ← hp56, hb59, if_true, if_false, Bool.false_eq_true, decide_true, decide_false, Option.getD_some, Option.isNone_none, Option.isNone_some, Bool.not_true, Bool.not_false, ↓reduceIte]; done) | (rfl; done) | ((unfold m_make_row_l0); (dsimp only); (first | rw [← hj40] | rw [hj40] | skip); (try dsimp only); (first | rw [ifT hb49] | rw [ifF hb49] | skip); (try dsimp only); (first | rw [← hp56] | skip); (try dsimp only); (first | rw [ifT hb59] | rw [ifF hb59] | skip); (try dsimp only); first | done | rfl) | (exfalso; simp at hb59; done) | (exfalso; simp at hb49; done))
            exact ⟨tables_39, best_6, _, _, _, _, _, _, _, _, _, he17.trans ((foldl_step hi23).trans (by rw [hf62])), (by first | exact ⟨by omega, by omega, ts⟩ | exact ⟨by omega, by omega, hgS.2.2⟩), rfl, s60.keep fun _ h => True.intro⟩
          · have hb59P := hb59
            try simp only [decide_eq_true_eq, decide_eq_false_iff_not, Bool.not_eq_true', Bool.not_eq_false', Bool.and_eq_true, Bool.or_eq_true, Bool.or_eq_false_iff] at hb59P
            refine z_asgG s61 (hv_tup2 (hv_var (x := total_58) rfl s61.im.1) (hv_catT (hv_var (x := way_before_55) rfl s61.im.2.2.1) (hv_tupv (has_cons (hv_tup2 (hv_vI rfl) (hv_vI rfl)) has_nil) (Nat.le_of_ble_eq_true rfl)) (by have hw := way_fit ts ‹(_, _) = _›; show (Tup.items _).length + 1 ≤ 100000; omega))) fun found_64 hfound_64 vfound_64 Hs63 s63 => ?_
            try dsimp only at hfound_64
            refine z_ifx (b := ((!(Dc.has best_6 x21.c)) || (DatumOrd.lt found_64 (Option.getD (Dc.get best_6 x21.c) ((T3.mk 0 0 0), (Tup.mk [])))))) s63 (ht_or (ht_B (K := K) (hv_dninM (d := best_6) s63 (j := 0) rfl (hv_vI rfl) (ev_var rfl))) (fun hb0 => (ht_val (K := K) (hv_ltT (hv_whole s63 (hv_var (x := found_64) rfl s63.im.1)) (hv_whole s63 (hv_dgetM (d := best_6) (y := (Option.getD (Dc.get best_6 x21.c) ((T3.mk 0 0 0), (Tup.mk [])))) s63 (j := 0) rfl (ev_var rfl) (hv_vI rfl) (by first | exact has_get _ (by assumption) | exact has_get _ (by simpa using ‹(!_) = false›) | exact has_get _ (has_sorted (by assumption))))))))) (fun hb65 Hs66 s66 => ?_) (fun hb65 Hs67 s67 => ?_)
            · have hb65P := hb65
              try simp only [decide_eq_true_eq, decide_eq_false_iff_not, Bool.not_eq_true', Bool.not_eq_false', Bool.and_eq_true, Bool.or_eq_true, Bool.or_eq_false_iff] at hb65P
              refine z_dputG (d := best_6) s66 (j := 0) rfl (hv_var (x := found_64) rfl s66.im.1) (ev_var rfl) (hv_vI rfl) (by first | omega | decide +kernel | (simp only [List.length_cons, List.length_nil]; omega)) fun best_69 hbest_69 Hs68 s68 => ?_
              try dsimp only at hbest_69
              have lbest_69 : best_69.kvs.length ≤ best_6.kvs.length + 1 := by rw [hbest_69]; exact put_len _ _ _
              have tbest_69 : Dc.has best_69 x21.c = true := by rw [hbest_69]; exact put_has
              have s68 : Sg K Mc _ _ _ [(ps3, Dc.m best_69), (ps1, Dc.m tables_39)] := s68
              have hf70 : (m_make_row_l0 rows_ position_) (tables_5, best_6) x21 = (tables_39, best_69) := (by subst hbest_69; subst hfound_64; subst htotal_58; subst hbest_4; subst htables_2; first | (simp only [m_make_row_l0, hj40, hb49, ← hp56, hb59, hb65, if_true, if_false, Bool.false_eq_true, decide_true, decide_false, Option.getD_some, Option.isNone_none, Option.isNone_some, Bool.not_true, Bool.not_false, ↓reduceIte]; done) | (simp only [m_make_row_l0, ← hj40, hb49, ← hp56, hb59, hb65, if_true, if_false, Bool.false_eq_true, decide_true, decide_false, Option.getD_some, Option.isNone_none, Option.isNone_some, Bool.not_true, Bool.not_false, ↓reduceIte]; done) | (rfl; done) | ((unfold m_make_row_l0); (dsimp only); (first | rw [← hj40] | rw [hj40] | skip); (try dsimp only); (first | rw [ifT hb49] | rw [ifF hb49] | skip); (try dsimp only); (first | rw [← hp56] | skip); (try dsimp only); (first | rw [ifT hb59] | rw [ifF hb59] | skip); (try dsimp only); (first | rw [ifT hb65] | rw [ifF hb65] | skip); (try dsimp only); first | done | rfl) | (exfalso; simp at hb65; done) | (exfalso; simp at hb59; done) | (exfalso; simp at hb49; done))
              exact ⟨tables_39, best_69, _, _, _, _, _, _, _, _, _, he17.trans ((foldl_step hi23).trans (by rw [hf70])), (by first | exact ⟨by omega, by omega, ts⟩ | exact ⟨by omega, by omega, hgS.2.2⟩), rfl, s68.keep fun _ h => True.intro⟩
            · have hb65P := hb65
              try simp only [decide_eq_true_eq, decide_eq_false_iff_not, Bool.not_eq_true', Bool.not_eq_false', Bool.and_eq_true, Bool.or_eq_true, Bool.or_eq_false_iff] at hb65P
              have hf71 : (m_make_row_l0 rows_ position_) (tables_5, best_6) x21 = (tables_39, best_6) := (by subst hfound_64; subst htotal_58; subst hbest_4; subst htables_2; first | (simp only [m_make_row_l0, hj40, hb49, ← hp56, hb59, hb65, if_true, if_false, Bool.false_eq_true, decide_true, decide_false, Option.getD_some, Option.isNone_none, Option.isNone_some, Bool.not_true, Bool.not_false, ↓reduceIte]; done) | (simp only [m_make_row_l0, ← hj40, hb49, ← hp56, hb59, hb65, if_true, if_false, Bool.false_eq_true, decide_true, decide_false, Option.getD_some, Option.isNone_none, Option.isNone_some, Bool.not_true, Bool.not_false, ↓reduceIte]; done) | (rfl; done) | ((unfold m_make_row_l0); (dsimp only); (first | rw [← hj40] | rw [hj40] | skip); (try dsimp only); (first | rw [ifT hb49] | rw [ifF hb49] | skip); (try dsimp only); (first | rw [← hp56] | skip); (try dsimp only); (first | rw [ifT hb59] | rw [ifF hb59] | skip); (try dsimp only); (first | rw [ifT hb65] | rw [ifF hb65] | skip); (try dsimp only); first | done | rfl) | (exfalso; simp at hb65; done) | (exfalso; simp at hb59; done) | (exfalso; simp at hb49; done))
              exact ⟨tables_39, best_6, _, _, _, _, _, _, _, _, _, he17.trans ((foldl_step hi23).trans (by rw [hf71])), (by first | exact ⟨by omega, by omega, ts⟩ | exact ⟨by omega, by omega, hgS.2.2⟩), rfl, s67.keep fun _ h => True.intro⟩
    · obtain ⟨tables_72, best_73, o74, o75, o76, o77, o78, o79, o80, o81, o82, he84, hg85, rfl, s83⟩ := hP
      have hg85q0 := hg85.1
      have hg85q1 := hg85.2.1
      have hg85q2 := hg85.2.2
      rw [foldl_end] at he84
      have s86 := Sg.frzD (d := best_73) s83
      have s87 := Sg.frzD (d := tables_72) s86
      have hF88 : m_make_row rows_ position_ moves_ = (List.map (fun (c_ : Int) => (T3.mk c_ (Option.getD (Dc.get best_73 c_) ((T3.mk 0 0 0), (Tup.mk []))).1 (Option.getD (Dc.get best_73 c_) ((T3.mk 0 0 0), (Tup.mk []))).2)) (sortI (List.map (fun p_ => p_.1) (Dc.kvs best_73)))) := (by subst hbest_4; subst htables_2; first | (simp only [m_make_row, he84, if_true, if_false, Bool.false_eq_true, decide_true, decide_false, Option.getD_some, Option.isNone_none, Option.isNone_some, Bool.not_true, Bool.not_false, ↓reduceIte]; done) | (rfl; done) | ((unfold m_make_row); (dsimp only); (first | rw [he84] | skip); (try dsimp only); first | done | rfl))
      exact zq_ret s87 (hv_lcL0 s87 (fun (c_ : Int) => (T3.mk c_ (Option.getD (Dc.get best_73 c_) ((T3.mk 0 0 0), (Tup.mk []))).1 (Option.getD (Dc.get best_73 c_) ((T3.mk 0 0 0), (Tup.mk []))).2)) (hv_hf (call_sortedI_im (d := best_73) (hv_var (x := best_73) rfl s87.im.2.1) (by first | omega | decide +kernel | (simp only [List.length_cons, List.length_nil]; omega)))) (by unfold sortI; rw [List.length_mergeSort, List.length_map]; omega) (fun D90 src94 c91 w92 ys93 Hs89 s89 hx95 Q k => by cases (Dt.int s89.im.1); exact k _ rfl (hv_tup3 (hv_vI rfl) (hv_p0 (p := (Option.getD (Dc.get best_73 c91) ((T3.mk 0 0 0), (Tup.mk [])))) (hv_dget (d := best_73) (y := (Option.getD (Dc.get best_73 c91) ((T3.mk 0 0 0), (Tup.mk [])))) (hv_var (x := best_73) rfl s89.im.2.2.2.1) (hv_vI rfl) (by first | exact has_get _ (by assumption) | exact has_get _ (by simpa using ‹(!_) = false›) | exact has_get _ (has_sorted (by assumption))))) (hv_p1 (p := (Option.getD (Dc.get best_73 c91) ((T3.mk 0 0 0), (Tup.mk [])))) (hv_dget (d := best_73) (y := (Option.getD (Dc.get best_73 c91) ((T3.mk 0 0 0), (Tup.mk [])))) (hv_var (x := best_73) rfl s89.im.2.2.2.1) (hv_vI rfl) (by first | exact has_get _ (by assumption) | exact has_get _ (by simpa using ‹(!_) = false›) | exact has_get _ (has_sorted (by assumption)))))))) fun v H' e d => q v H' e (by rw [hF88]; exact d)
/-! ways and rows -/
abbrev Cst := T3 Int Int Int
abbrev WPt := Cst × (Tup (Int × Int))
abbrev Mov := T4 Int Int Int Cst
abbrev WRow := List (T3 Int Cst (Tup (Int × Int)))
theorem ltI_iff {a b : Int} : DatumOrd.lt a b = true ↔ a < b := by show decide (a < b) = true ↔ _; simp
theorem ltP_iff {p q : Int × Int} : DatumOrd.lt p q = true ↔ p.1 < q.1 ∨ (p.1 = q.1 ∧ p.2 < q.2) := by
  show (if p.1 = q.1 then DatumOrd.lt p.2 q.2 else DatumOrd.lt p.1 q.1) = true ↔ _
  split
  · rename_i h; rw [ltI_iff]; omega
  · rename_i h; rw [ltI_iff]; omega
theorem ltC_iff {p q : Cst} : DatumOrd.lt p q = true ↔ p.a < q.a ∨ (p.a = q.a ∧ (p.b < q.b ∨ (p.b = q.b ∧ p.c < q.c))) := by
  show (if p.a = q.a then (if p.b = q.b then (DatumOrd.lt p.c q.c) else DatumOrd.lt p.b q.b) else DatumOrd.lt p.a q.a) = true ↔ _
  split
  · split
    · rw [ltI_iff]; omega
    · rw [ltI_iff]; omega
  · rw [ltI_iff]; omega
theorem ltW_iff {p q : WPt} : DatumOrd.lt p q = true ↔ DatumOrd.lt p.1 q.1 = true ∨ (p.1 = q.1 ∧ PySem.W.listLt p.2.items q.2.items = true) := by
  show (if p.1 = q.1 then PySem.W.listLt p.2.items q.2.items else DatumOrd.lt p.1 q.1) = true ↔ _
  split
  · rename_i h
    constructor
    · exact fun z => .inr ⟨h, z⟩
    · rintro (z | z)
      · rw [h, lt_irrefl] at z; cases z
      · exact z.2
  · rename_i h
    constructor
    · exact fun z => .inl z
    · rintro (z | z)
      · exact z
      · exact absurd z.1 h
theorem listLt_tri : ∀ {p q : List (Int × Int)}, PySem.W.listLt p q = false → PySem.W.listLt q p = false → p = q
  | [], [], _, _ => rfl
  | [], _ :: _, h, _ => by simp [PySem.W.listLt] at h
  | _ :: _, [], _, h => by simp [PySem.W.listLt] at h
  | x :: xs, y :: ys, h1, h2 => by
    rw [PySem.W.listLt] at h1 h2
    by_cases e : x = y
    · subst e
      rw [if_pos rfl] at h1 h2
      rw [listLt_tri h1 h2]
    · rw [if_neg e] at h1
      rw [if_neg fun z => e z.symm] at h2
      have a1 : ¬ DatumOrd.lt x y = true := by rw [h1]; decide
      have a2 : ¬ DatumOrd.lt y x = true := by rw [h2]; decide
      rw [ltP_iff] at a1 a2
      exact absurd (Prod.ext (by omega) (by omega)) e
theorem ltC_tri {p q : Cst} (h1 : DatumOrd.lt p q = false) (h2 : DatumOrd.lt q p = false) : p = q := by
  have a1 : ¬ DatumOrd.lt p q = true := by rw [h1]; decide
  have a2 : ¬ DatumOrd.lt q p = true := by rw [h2]; decide
  rw [ltC_iff] at a1 a2
  cases p; cases q
  dsimp only at a1 a2
  congr 1 <;> omega
theorem ltW_tri {p q : WPt} (h1 : DatumOrd.lt p q = false) (h2 : DatumOrd.lt q p = false) : p = q := by
  have a1 : ¬ DatumOrd.lt p q = true := by rw [h1]; decide
  have a2 : ¬ DatumOrd.lt q p = true := by rw [h2]; decide
  rw [ltW_iff] at a1 a2
  have e1 : p.1 = q.1 := ltC_tri (by
    cases z : DatumOrd.lt p.1 q.1 with
    | false => rfl
    | true => exact absurd (.inl z) a1) (by
    cases z : DatumOrd.lt q.1 p.1 with
    | false => rfl
    | true => exact absurd (.inl z) a2)
  have e2 : p.2.items = q.2.items := listLt_tri (by
    cases z : PySem.W.listLt p.2.items q.2.items with
    | false => rfl
    | true => exact absurd (.inr ⟨e1, z⟩) a1) (by
    cases z : PySem.W.listLt q.2.items p.2.items with
    | false => rfl
    | true => exact absurd (.inr ⟨e1.symm, z⟩) a2)
  obtain ⟨p1, ⟨p2⟩⟩ := p
  obtain ⟨q1, ⟨q2⟩⟩ := q
  dsimp only at e1 e2
  rw [e1, e2]
theorem lt_asym {p q : WPt} (h : DatumOrd.lt p q = true) : DatumOrd.lt q p = false := by
  cases z : DatumOrd.lt q p with
  | false => rfl
  | true => have := lt_trans h z; rw [lt_irrefl] at this; cases this
/-- o is the least of S -/
def IsLeast (S : WPt → Prop) (o : Option WPt) : Prop := (∀ p, o = some p → S p ∧ ∀ q, S q → DatumOrd.lt q p = false) ∧ (o = none → ∀ q, ¬ S q)
theorem IsLeast.uniq {S : WPt → Prop} {o o' : Option WPt} (h : IsLeast S o) (h' : IsLeast S o') : o = o' := by
  cases o with
  | none =>
    cases o' with
    | none => rfl
    | some q => exact absurd (h'.1 q rfl).1 (h.2 rfl q)
  | some p =>
    cases o' with
    | none => exact absurd (h.1 p rfl).1 (h'.2 rfl p)
    | some q => rw [ltW_tri ((h'.1 q rfl).2 p (h.1 p rfl).1) ((h.1 p rfl).2 q (h'.1 q rfl).1)]
theorem IsLeast.congr {S S' : WPt → Prop} {o : Option WPt} (e : ∀ q, S q ↔ S' q) (h : IsLeast S o) : IsLeast S' o :=
  ⟨fun p hp => ⟨(e p).mp (h.1 p hp).1, fun q hq => (h.1 p hp).2 q ((e q).mpr hq)⟩, fun z q hq => h.2 z q ((e q).mpr hq)⟩
/-- one more -/
theorem IsLeast.put {S : WPt → Prop} {o : Option WPt} {f : WPt} (h : IsLeast S o) (hf : ∀ p, o = some p → DatumOrd.lt f p = true) : IsLeast (fun q => S q ∨ q = f) (some f) := by
  refine ⟨fun p hp => ?_, fun z => by cases z⟩
  cases hp
  refine ⟨.inr rfl, fun q hq => ?_⟩
  rcases hq with hq | rfl
  · cases ho : o with
    | none => exact absurd hq (h.2 ho q)
    | some p =>
      have h1 := hf p ho
      have h2 := (h.1 p ho).2 q hq
      cases z : DatumOrd.lt q f with
      | false => rfl
      | true => have := lt_trans z h1; rw [h2] at this; cases this
  · exact lt_irrefl _
theorem IsLeast.keep {S : WPt → Prop} {p : WPt} {f : WPt} (h : IsLeast S (some p)) (hf : DatumOrd.lt f p = false) : IsLeast (fun q => S q ∨ q = f) (some p) := by
  refine ⟨fun p' hp => ?_, fun z => by cases z⟩
  cases hp
  refine ⟨.inl (h.1 _ rfl).1, fun q hq => ?_⟩
  rcases hq with hq | rfl
  · exact (h.1 _ rfl).2 q hq
  · exact hf
def lookR (R : WRow) (t : Int) : Option WPt := (R.find? fun e => decide (e.a = t)).map fun e => (e.b, e.c)
def Asc (R : WRow) : Prop := (R.map (·.a)).Pairwise (· < ·)
def RowIs (R : WRow) (S : Int → WPt → Prop) : Prop := Asc R ∧ ∀ t, IsLeast (S t) (lookR R t)
theorem asc_nodup {R : WRow} (h : Asc R) : (R.map (·.a)).Nodup := h.imp fun {a b} h => by omega
theorem look_mem {R : WRow} (h : Asc R) {e : T3 Int Cst (Tup (Int × Int))} : e ∈ R ↔ lookR R e.a = some (e.b, e.c) := by
  unfold lookR
  induction R with
  | nil => simp
  | cons x r ih =>
    have hr : Asc r := (List.pairwise_cons.mp h).2
    have hx : ∀ y ∈ r, x.a < y.a := fun y hy => (List.pairwise_cons.mp h).1 _ (List.mem_map.mpr ⟨y, hy, rfl⟩)
    by_cases q : x.a = e.a
    · rw [List.find?_cons_of_pos (by simpa using q)]
      constructor
      · intro hm
        rcases List.mem_cons.mp hm with rfl | hm
        · rfl
        · have := hx e hm; omega
      · intro z
        have z' : (x.b, x.c) = (e.b, e.c) := Option.some.inj z
        have : x = e := by
          cases x; cases e
          simp only [Prod.mk.injEq] at z'
          dsimp only at q
          rw [q, z'.1, z'.2]
        rw [this]; exact List.mem_cons_self
    · rw [List.find?_cons_of_neg (by simpa using q)]
      rw [← ih hr]
      constructor
      · intro hm
        rcases List.mem_cons.mp hm with rfl | hm
        · exact absurd rfl q
        · exact hm
      · exact fun hm => List.mem_cons_of_mem _ hm
theorem row_eq {R R' : WRow} (h : Asc R) (h' : Asc R') (e : ∀ t, lookR R t = lookR R' t) : R = R' := by
  have nd : ∀ {Q : WRow}, Asc Q → Q.Nodup := fun {Q} hq => (List.pairwise_map.mp (asc_nodup hq)).imp fun h e => h (by rw [e])
  have hp : R.Perm R' := (List.perm_ext_iff_of_nodup (nd h) (nd h')).mpr fun x => by rw [look_mem h, look_mem h', e]
  have srt : ∀ {Q : WRow}, Asc Q → Q.Pairwise (fun x y => x.a ≤ y.a) := fun {Q} hq => (List.pairwise_map.mp hq).imp fun h => by omega
  refine List.Perm.eq_of_pairwise (le := fun x y => x.a ≤ y.a) (fun a b ha hb h1 h2 => ?_) (srt h) (srt h') hp
  have e1 : a.a = b.a := by omega
  have k1 := (look_mem h).mp ha
  have k2 := (look_mem h').mp hb
  rw [← e, ← e1, k1] at k2
  have := Option.some.inj k2
  simp only [Prod.mk.injEq] at this
  cases a; cases b
  dsimp only at e1 this
  rw [e1, this.1, this.2]
theorem RowIs.uniq {R R' : WRow} {S : Int → WPt → Prop} (h : RowIs R S) (h' : RowIs R' S) : R = R' := row_eq h.1 h'.1 fun t => (h.2 t).uniq (h'.2 t)
theorem RowIs.congr {R : WRow} {S S' : Int → WPt → Prop} (e : ∀ t q, S t q ↔ S' t q) (h : RowIs R S) : RowIs R S' := ⟨h.1, fun t => (h.2 t).congr (e t)⟩
/-! dicts -/
theorem get_fold {α : Type} {kf : α → Int} {vf : α → WPt} : ∀ (xs : List α) (d : Dc Int WPt) (k : Int), (xs.map kf).Nodup → (xs.foldl (fun d x => d.put (kf x) (vf x)) d).get k = match xs.find? (fun x => decide (kf x = k)) with | some x => some (vf x) | none => d.get k
  | [], d, k, _ => rfl
  | x :: xs, d, k, h => by
    have h2 := List.nodup_cons.mp h
    rw [List.foldl_cons, get_fold xs _ k h2.2, get_put]
    by_cases q : kf x = k
    · rw [List.find?_cons_of_pos (by simpa using q)]
      have : xs.find? (fun x => decide (kf x = k)) = none := List.find?_eq_none.mpr fun y hy => by
        have : kf y ≠ k := fun z => h2.1 (List.mem_map.mpr ⟨y, hy, by rw [z, q]⟩)
        simpa using this
      rw [this]
      dsimp only
      rw [if_pos q.symm]
    · rw [List.find?_cons_of_neg (by simpa using q), if_neg fun z => q z.symm]
theorem by_key_get {R : WRow} (h : Asc R) (k : Int) : (m_by_key R).get k = lookR R k := by
  unfold m_by_key Dc.of lookR
  rw [get_fold _ _ _ (asc_nodup h)]
  cases R.find? (fun x => decide (x.a = k)) <;> rfl
theorem has_iff {β : Type} [DecidableEq β] [Dx β] {d : Dc Int β} {k : Int} : d.has k = true ↔ (d.get k).isSome = true := by
  unfold Dc.has Dc.get
  rw [Option.isSome_map, List.find?_isSome, List.any_eq_true]
theorem put_keys {β : Type} [DecidableEq β] [Dx β] {d : Dc Int β} {k : Int} {x : β} : (d.put k x).kvs.map (·.1) = if d.has k = true then d.kvs.map (·.1) else d.kvs.map (·.1) ++ [k] := by
  unfold Dc.put Dc.has
  dsimp only
  split
  · rw [List.map_map]
    refine List.map_congr_left fun p _ => ?_
    dsimp only [Function.comp]
    split <;> rfl
  · rw [List.map_append]; rfl
theorem put_nodup {β : Type} [DecidableEq β] [Dx β] {d : Dc Int β} {k : Int} {x : β} (h : (d.kvs.map (·.1)).Nodup) : ((d.put k x).kvs.map (·.1)).Nodup := by
  rw [put_keys]
  split
  · exact h
  · rename_i q
    refine List.nodup_append.mpr ⟨h, by simp, fun a ha b hb => ?_⟩
    obtain rfl := List.mem_singleton.mp hb
    rintro rfl
    apply q
    unfold Dc.has
    rw [List.any_eq_true]
    obtain ⟨p, hp, e⟩ := List.mem_map.mp ha
    exact ⟨p, hp, by simpa using e⟩
/-! make_row -/
def ext (q : WPt) (m : Mov) (p : Int) : WPt := (m_add_costs q.1 m.d, Tup.mk (q.2.items ++ [(p, m.c)]))
def cand (rows : List WRow) (p : Int) (m : Mov) : Option WPt := (lookR (rows.getD m.a.toNat []) m.b).map fun q => ext q m p
def CandS (rows : List WRow) (p : Int) (ms : List Mov) (t : Int) (q : WPt) : Prop := ∃ m ∈ ms, m.c = t ∧ cand rows p m = some q
structure MrInv (rows : List WRow) (p : Int) (done : List Mov) (st : Dc Int (Dc Int WPt) × Dc Int WPt) : Prop where
  tab : ∀ s d, st.1.get s = some d → d = m_by_key (rows.getD s.toNat [])
  nd : (st.2.kvs.map (·.1)).Nodup
  best : ∀ t, IsLeast (CandS rows p done t) (st.2.get t)
theorem cand_snoc {rows : List WRow} {p : Int} {done : List Mov} {m : Mov} {t : Int} {q : WPt} : CandS rows p (done ++ [m]) t q ↔ CandS rows p done t q ∨ (m.c = t ∧ cand rows p m = some q) := by
  unfold CandS
  constructor
  · rintro ⟨x, hx, h1, h2⟩
    rcases List.mem_append.mp hx with hx | hx
    · exact .inl ⟨x, hx, h1, h2⟩
    · obtain rfl := List.mem_singleton.mp hx
      exact .inr ⟨h1, h2⟩
  · rintro (⟨x, hx, h1, h2⟩ | ⟨h1, h2⟩)
    · exact ⟨x, List.mem_append_left _ hx, h1, h2⟩
    · exact ⟨m, List.mem_append_right _ (List.mem_singleton.mpr rfl), h1, h2⟩
theorem mr_step {rows : List WRow} {p : Int} {done : List Mov} {st : Dc Int (Dc Int WPt) × Dc Int WPt} {m : Mov} (hr : ∀ r ∈ rows, Asc r) (I : MrInv rows p done st) : MrInv rows p (done ++ [m]) (m_make_row_l0 rows p st m) := by
  have hrow : Asc (rows.getD m.a.toNat []) := getD_P (P := Asc) hr (show Asc [] from List.Pairwise.nil) _
  obtain ⟨tables, best⟩ := st
  unfold m_make_row_l0
  dsimp only
  generalize ht : (if (!(Dc.has tables m.a)) = true then Dc.put tables m.a (m_by_key (rows.getD (Int.toNat m.a) [])) else tables) = tb
  have h1 : tb.get m.a = some (m_by_key (rows.getD m.a.toNat [])) := by
    subst ht
    split
    · rw [get_put, if_pos rfl]
    · rename_i q
      have q' : Dc.has tables m.a = true := by simpa using q
      obtain ⟨d, hd⟩ := Option.isSome_iff_exists.mp (has_iff.mp q')
      rw [hd, I.tab _ _ hd]
  have h2 : ∀ s d, tb.get s = some d → d = m_by_key (rows.getD s.toNat []) := by
    subst ht
    intro s d hd
    split at hd
    · rw [get_put] at hd
      by_cases z : s = m.a
      · rw [if_pos z] at hd; rw [z]; exact (Option.some.inj hd).symm
      · rw [if_neg z] at hd; exact I.tab s d hd
    · exact I.tab s d hd
  simp only [h1, Option.getD_some]
  have hb : (m_by_key (rows.getD m.a.toNat [])).get m.b = lookR (rows.getD m.a.toNat []) m.b := by_key_get hrow m.b
  by_cases hk : (m_by_key (rows.getD m.a.toNat [])).has m.b = true
  · rw [if_neg (by simpa using hk)]
    simp only [hb]
    obtain ⟨q0, hq0⟩ := Option.isSome_iff_exists.mp (has_iff.mp hk)
    rw [hb] at hq0
    simp only [hq0, Option.getD_some]
    have hc : cand rows p m = some (ext q0 m p) := by unfold cand; rw [hq0]; rfl
    have ef : ((m_add_costs q0.1 m.d, Tup.mk (Tup.items q0.2 ++ Tup.items (Tup.mk [(p, m.c)]))) : WPt) = ext q0 m p := rfl
    simp only [ef]
    have other : ∀ t, m.c ≠ t → ∀ q, CandS rows p (done ++ [m]) t q ↔ CandS rows p done t q := fun t ht q => by
      rw [cand_snoc]
      exact ⟨fun z => z.elim id fun z => absurd z.1 ht, .inl⟩
    have same : ∀ q, (CandS rows p done m.c q ∨ q = ext q0 m p) ↔ CandS rows p (done ++ [m]) m.c q := fun q => by
      rw [cand_snoc, hc]
      exact ⟨fun z => z.elim .inl fun z => .inr ⟨rfl, by rw [z]⟩, fun z => z.elim .inl fun z => .inr (Option.some.inj z.2).symm⟩
    have keep : ∀ b, best.get m.c = some b → DatumOrd.lt (ext q0 m p) b = false → MrInv rows p (done ++ [m]) (tb, best) := fun b hbt hlt => by
      refine ⟨h2, I.nd, fun t => ?_⟩
      by_cases z : m.c = t
      · subst z
        have := I.best m.c
        dsimp only at this ⊢
        rw [hbt] at this ⊢
        exact (this.keep hlt).congr same
      · exact (I.best t).congr fun q => (other t z q).symm
    have put : (∀ b, best.get m.c = some b → DatumOrd.lt (ext q0 m p) b = true) → MrInv rows p (done ++ [m]) (tb, best.put m.c (ext q0 m p)) := fun hlt => by
      refine ⟨h2, put_nodup I.nd, fun t => ?_⟩
      show IsLeast _ ((best.put m.c (ext q0 m p)).get t)
      rw [get_put]
      by_cases z : t = m.c
      · subst z
        rw [if_pos rfl]
        exact ((I.best _).put hlt).congr same
      · rw [if_neg z]
        exact (I.best t).congr fun q => (other t (fun z' => z z'.symm) q).symm
    cases hbt : best.get m.c with
    | none =>
      have hn : best.has m.c = false := by
        cases z : best.has m.c with
        | false => rfl
        | true => have := has_iff.mp z; rw [hbt] at this; cases this
      simp only [hn, hbt]
      rw [if_neg (by simp), if_pos (by simp)]
      exact put fun b hb' => by rw [hbt] at hb'; cases hb'
    | some b =>
      have hy : best.has m.c = true := has_iff.mpr (by rw [hbt]; rfl)
      simp only [hy, Option.getD_some]
      by_cases c1 : DatumOrd.lt b.1 (m_add_costs q0.1 m.d) = true
      · rw [if_pos (by rw [c1]; rfl)]
        exact keep b hbt (lt_asym (ltW_iff.mpr (.inl c1)))
      · rw [if_neg (by simpa using c1)]
        by_cases c2 : DatumOrd.lt (ext q0 m p) b = true
        · rw [if_pos (by rw [c2]; rfl)]
          exact put fun b' hb' => by rw [hbt] at hb'; cases hb'; exact c2
        · rw [if_neg (by simpa using c2)]
          exact keep b hbt (by simpa using c2)
  · rw [if_pos (by simpa using hk)]
    refine ⟨h2, I.nd, fun t => (I.best t).congr fun q => ?_⟩
    rw [cand_snoc]
    refine ⟨.inl, fun z => z.elim id fun z => ?_⟩
    have hn : lookR (rows.getD m.a.toNat []) m.b = none := by
      rw [← hb]
      cases z : (m_by_key (rows.getD m.a.toNat [])).get m.b with
      | none => rfl
      | some _ => exact absurd (has_iff.mpr (by rw [z]; rfl)) hk
    have := z.2
    unfold cand at this
    rw [hn] at this
    cases this
theorem mr_fold {rows : List WRow} {p : Int} (hr : ∀ r ∈ rows, Asc r) : ∀ (ms done : List Mov) (st : Dc Int (Dc Int WPt) × Dc Int WPt), MrInv rows p done st → MrInv rows p (done ++ ms) (ms.foldl (m_make_row_l0 rows p) st)
  | [], done, st, I => by rw [List.append_nil]; exact I
  | m :: ms, done, st, I => by
    have := mr_fold hr ms (done ++ [m]) _ (mr_step hr I)
    rw [List.append_assoc] at this
    exact this
theorem make_row_is {rows : List WRow} {p : Int} (hr : ∀ r ∈ rows, Asc r) (ms : List Mov) : RowIs (m_make_row rows p ms) (CandS rows p ms) := by
  have I := mr_fold (p := p) hr ms [] (Dc.mk [], Dc.mk []) ⟨fun s d h => (nomatch h), List.nodup_nil, fun t => ⟨fun q h => (nomatch h), fun _ q h => by obtain ⟨m, hm, _⟩ := h; cases hm⟩⟩
  rw [List.nil_append] at I
  unfold m_make_row
  dsimp only
  generalize ms.foldl (m_make_row_l0 rows p) (Dc.mk [], Dc.mk []) = st at I
  obtain ⟨tb, best⟩ := st
  dsimp only
  have pm : (sortI (best.kvs.map (·.1))).Perm (best.kvs.map (·.1)) := List.mergeSort_perm _ _
  have st2 : (sortI (best.kvs.map (·.1))).Pairwise (fun a b => decide (a ≤ b) = true) := List.pairwise_mergeSort (fun a b c h1 h2 => by simp at *; omega) (fun a b => by simp; omega) _
  have nd2 : (sortI (best.kvs.map (·.1))).Nodup := pm.nodup_iff.mpr I.nd
  have mem2 : ∀ t, t ∈ sortI (best.kvs.map (·.1)) ↔ best.has t = true := fun t => by
    rw [pm.mem_iff]
    unfold Dc.has
    rw [List.any_eq_true, List.mem_map]
    exact ⟨fun ⟨p, h1, h2⟩ => ⟨p, h1, by simpa using h2⟩, fun ⟨p, h1, h2⟩ => ⟨p, h1, by simpa using h2⟩⟩
  generalize sortI (best.kvs.map (·.1)) = ks at *
  refine ⟨?_, fun t => ?_⟩
  · unfold Asc
    rw [List.map_map]
    have : (fun c_ : Int => (T3.mk c_ (Option.getD (Dc.get best c_) ((T3.mk 0 0 0), (Tup.mk []))).1 (Option.getD (Dc.get best c_) ((T3.mk 0 0 0), (Tup.mk []))).2 : T3 Int Cst (Tup (Int × Int))).a) = id := rfl
    rw [show ((fun x : T3 Int Cst (Tup (Int × Int)) => x.a) ∘ fun c_ : Int => (T3.mk c_ (Option.getD (Dc.get best c_) ((T3.mk 0 0 0), (Tup.mk []))).1 (Option.getD (Dc.get best c_) ((T3.mk 0 0 0), (Tup.mk []))).2 : T3 Int Cst (Tup (Int × Int)))) = id from rfl, List.map_id]
    exact (st2.and nd2).imp fun {a b} h => by
      have h1 : a ≤ b := by simpa using h.1
      have := h.2
      omega
  · have e : lookR (ks.map fun (c_ : Int) => (T3.mk c_ (Option.getD (Dc.get best c_) ((T3.mk 0 0 0), (Tup.mk []))).1 (Option.getD (Dc.get best c_) ((T3.mk 0 0 0), (Tup.mk []))).2 : T3 Int Cst (Tup (Int × Int)))) t = best.get t := by
      unfold lookR
      rw [List.find?_map, Option.map_map]
      by_cases q : best.has t = true
      · have hm := (mem2 t).mpr q
        obtain ⟨b, hb⟩ := Option.isSome_iff_exists.mp (has_iff.mp q)
        have : ks.find? ((fun e : T3 Int Cst (Tup (Int × Int)) => decide (e.a = t)) ∘ fun (c_ : Int) => (T3.mk c_ (Option.getD (Dc.get best c_) ((T3.mk 0 0 0), (Tup.mk []))).1 (Option.getD (Dc.get best c_) ((T3.mk 0 0 0), (Tup.mk []))).2 : T3 Int Cst (Tup (Int × Int)))) = some t := by
          have e1 : ((fun e : T3 Int Cst (Tup (Int × Int)) => decide (e.a = t)) ∘ fun (c_ : Int) => (T3.mk c_ (Option.getD (Dc.get best c_) ((T3.mk 0 0 0), (Tup.mk []))).1 (Option.getD (Dc.get best c_) ((T3.mk 0 0 0), (Tup.mk []))).2 : T3 Int Cst (Tup (Int × Int)))) = fun c => decide (c = t) := rfl
          rw [e1]
          cases hf : ks.find? (fun c => decide (c = t)) with
          | none => have := List.find?_eq_none.mp hf t hm; simp at this
          | some x => have := List.find?_some hf; simp at this; rw [this]
        rw [this, hb]
        simp [hb]
      · have hn : best.get t = none := by
          cases z : best.get t with
          | none => rfl
          | some _ => exact absurd (has_iff.mpr (by rw [z]; rfl)) q
        rw [hn]
        have : ks.find? ((fun e : T3 Int Cst (Tup (Int × Int)) => decide (e.a = t)) ∘ fun (c_ : Int) => (T3.mk c_ (Option.getD (Dc.get best c_) ((T3.mk 0 0 0), (Tup.mk []))).1 (Option.getD (Dc.get best c_) ((T3.mk 0 0 0), (Tup.mk []))).2 : T3 Int Cst (Tup (Int × Int)))) = none := List.find?_eq_none.mpr fun x hx => by
          intro z
          have : x = t := by simpa using z
          subst this
          exact q ((mem2 x).mp hx)
        rw [this]; rfl
    rw [e]
    exact I.best t
/-! ways -/
inductive Way (mvs : Nat → List Mov) (k0 : Int) : Nat → Int → WPt → Prop
  | start : Way mvs k0 0 k0 (T3.mk 0 0 0, Tup.mk [])
  | step {p : Nat} {m : Mov} {q : WPt} : m ∈ mvs p → 0 ≤ m.a → m.a.toNat < p → Way mvs k0 m.a.toNat m.b q → Way mvs k0 p m.c (ext q m p)
theorem Way.shape {mvs : Nat → List Mov} {k0 : Int} {p : Nat} {t : Int} {q : WPt} (h : Way mvs k0 p t q) : (p = 0 ∧ q.2.items = []) ∨ ∃ u, q.2.items = u ++ [((p : Int), t)] ∧ ∀ x ∈ u, x.1 < (p : Int) := by
  induction h with
  | start => exact .inl ⟨rfl, rfl⟩
  | step hm h0 hl hw ih =>
    rename_i p m q
    refine .inr ⟨q.2.items, rfl, fun x hx => ?_⟩
    rcases ih with ⟨_, e⟩ | ⟨u, e, hu⟩
    · rw [e] at hx; cases hx
    · rw [e] at hx
      rcases List.mem_append.mp hx with hx | hx
      · have := hu x hx; omega
      · obtain rfl := List.mem_singleton.mp hx
        dsimp only
        omega
/-- ways that end at the same stop: none begins with another -/
theorem listLt_snoc : ∀ (u v : List (Int × Int)) (x : Int × Int), PySem.W.listLt u v = true → (∀ r, v = u ++ r → r = []) → PySem.W.listLt (u ++ [x]) (v ++ [x]) = true
  | [], [], x, h, _ => by simp [PySem.W.listLt] at h
  | [], y :: ys, x, _, hp => absurd (hp (y :: ys) rfl) (by simp)
  | a :: as, [], x, h, _ => by simp [PySem.W.listLt] at h
  | a :: as, y :: ys, x, h, hp => by
    rw [PySem.W.listLt] at h
    rw [List.cons_append, List.cons_append, PySem.W.listLt]
    by_cases e : a = y
    · rw [if_pos e] at h ⊢
      subst e
      exact listLt_snoc as ys x h fun r hr => hp r (by rw [hr]; rfl)
    · rw [if_neg e] at h ⊢
      exact h
theorem Way.noprefix {mvs : Nat → List Mov} {k0 : Int} {p : Nat} {t : Int} {q q' : WPt} (h : Way mvs k0 p t q) (h' : Way mvs k0 p t q') {r : List (Int × Int)} (e : q'.2.items = q.2.items ++ r) : r = [] := by
  rcases h.shape with ⟨hp, h1⟩ | ⟨u, h1, hu⟩
  · rcases h'.shape with ⟨_, h2⟩ | ⟨v, h2, hv⟩
    · rw [h1, h2, List.nil_append] at e; exact e.symm
    · subst hp
      cases h' with
      | start => exact absurd h2.symm (by simp)
      | step _ _ hl _ => exact absurd hl (Nat.not_lt_zero _)
  · rcases h'.shape with ⟨hp, h2⟩ | ⟨v, h2, hv⟩
    · rw [h1, h2] at e
      exact absurd e.symm (by simp)
    · rw [h1, h2] at e
      cases hr : r.reverse with
      | nil => exact List.reverse_eq_nil_iff.mp hr
      | cons y ys =>
        have er : r = ys.reverse ++ [y] := by rw [← List.reverse_reverse r, hr, List.reverse_cons]
        rw [er, ← List.append_assoc] at e
        have e1 := (List.append_inj' e rfl).1
        have := hv ((p : Int), t) (by rw [e1]; simp)
        dsimp only at this
        omega
theorem add_lt {c c' d : Cst} (h : DatumOrd.lt c c' = true) : DatumOrd.lt (m_add_costs c d) (m_add_costs c' d) = true := by
  rw [ltC_iff] at h ⊢
  unfold m_add_costs
  dsimp only
  omega
theorem ext_mono {mvs : Nat → List Mov} {k0 : Int} {p : Nat} {t : Int} {q q' : WPt} {m : Mov} {n : Int} (h : Way mvs k0 p t q) (h' : Way mvs k0 p t q') (hlt : DatumOrd.lt q q' = true) : DatumOrd.lt (ext q m n) (ext q' m n) = true := by
  rw [ltW_iff] at hlt ⊢
  rcases hlt with hlt | ⟨e, hlt⟩
  · exact .inl (add_lt hlt)
  · refine .inr ⟨by unfold ext; dsimp only; rw [e], ?_⟩
    exact listLt_snoc _ _ _ hlt fun r hr => h.noprefix h' hr
/-- the rows before tell the least ways: so does the new one -/
theorem row_step {mvs : Nat → List Mov} {k0 : Int} {rows : List WRow} {p : Nat} (hp : 1 ≤ p) (hm : ∀ m ∈ mvs p, 0 ≤ m.a ∧ m.a.toNat < p) (hl : rows.length = p) (hr : ∀ s, s < p → RowIs (rows.getD s []) (fun t q => Way mvs k0 s t q)) :
    RowIs (m_make_row rows (p : Int) (mvs p)) (fun t q => Way mvs k0 p t q) := by
  have ha : ∀ r ∈ rows, Asc r := fun r hr' => by
    obtain ⟨i, hi⟩ := List.mem_iff_getElem?.mp hr'
    have hlt := (List.getElem?_eq_some_iff.mp hi).1
    have := (hr i (by omega)).1
    rw [List.getD_eq_getElem?_getD, hi] at this
    exact this
  have M := make_row_is (p := (p : Int)) ha (mvs p)
  refine ⟨M.1, fun t => ?_⟩
  have L := M.2 t
  have sub : ∀ q, CandS rows (p : Int) (mvs p) t q → Way mvs k0 p t q := fun q ⟨m, h1, h2, h3⟩ => by
    subst h2
    unfold cand at h3
    cases z : lookR (rows.getD m.a.toNat []) m.b with
    | none => rw [z] at h3; cases h3
    | some q0 =>
      rw [z] at h3
      cases h3
      exact .step h1 (hm m h1).1 (hm m h1).2 (((hr _ (hm m h1).2).2 m.b).1 q0 z).1
  have dom : ∀ q, Way mvs k0 p t q → ∃ c, CandS rows (p : Int) (mvs p) t c ∧ DatumOrd.lt q c = false := fun q hq => by
    cases hq with
    | start => omega
    | step h1 h2 h3 h4 =>
      rename_i m q0
      have R := (hr _ h3).2 m.b
      cases z : lookR (rows.getD m.a.toNat []) m.b with
      | none => exact absurd h4 (R.2 z q0)
      | some l0 =>
        have ⟨k1, k2⟩ := R.1 l0 z
        refine ⟨ext l0 m p, ⟨m, h1, rfl, by unfold cand; rw [z]; rfl⟩, ?_⟩
        cases z2 : DatumOrd.lt l0 q0 with
        | true => exact lt_asym (ext_mono k1 h4 z2)
        | false =>
          rw [ltW_tri (k2 q0 h4) z2]
          exact lt_irrefl _
  refine ⟨fun c hc => ⟨sub c (L.1 c hc).1, fun q hq => ?_⟩, fun hn q hq => ?_⟩
  · obtain ⟨c', h1, h2⟩ := dom q hq
    cases z : DatumOrd.lt q c with
    | false => rfl
    | true =>
      have h3 := (L.1 c hc).2 c' h1
      cases z2 : DatumOrd.lt c c' with
      | true => have := lt_trans z z2; rw [h2] at this; cases this
      | false => rw [ltW_tri h3 z2] at h2; rw [h2] at z; cases z
  · obtain ⟨c', h1, _⟩ := dom q hq
    exact L.2 hn c' h1
theorem start_is {mvs : Nat → List Mov} (k0 : Int) : RowIs (m_start_row k0) (fun t q => Way mvs k0 0 t q) := by
  refine ⟨List.pairwise_cons.mpr ⟨fun _ h => (nomatch h), List.Pairwise.nil⟩, fun t => ?_⟩
  unfold m_start_row lookR
  by_cases q : k0 = t
  · subst q
    rw [List.find?_cons_of_pos (by simp)]
    refine ⟨fun p hp => ?_, fun z => by cases z⟩
    cases hp
    refine ⟨.start, fun q hq => ?_⟩
    cases hq with
    | start => exact lt_irrefl _
    | step _ _ hl _ => exact absurd hl (Nat.not_lt_zero _)
  · rw [List.find?_cons_of_neg (by simpa using q)]
    refine ⟨fun p hp => (nomatch hp), fun _ p hp => ?_⟩
    cases hp with
    | start => exact q rfl
    | step _ _ hl _ => exact absurd hl (Nat.not_lt_zero _)

def m_law_moves_l2 (digits_ : (List Int)) (origin_ : Int) (start_key_ : Int) (target_ : Int) (s_ : (List (T4 Int Int Int (T3 Int Int Int)))) (x_ : Int) : (List (T4 Int Int Int (T3 Int Int Int))) :=
  let moves_ : (List (T4 Int Int Int (T3 Int Int Int))) := s_
  let key_ : Int := x_
  let draw_ : Int := (digits_.getD (Int.toNat (((3 : Int) * origin_) + key_)) 0)
  if ((decide ((0 : Int) < (draw_ % (3 : Int)))) && ((decide ((0 : Int) < origin_)) || ((decide (key_ = start_key_)) || (decide ((draw_ % (2 : Int)) = (0 : Int)))))) = true then
    let cost_ : (T3 Int Int Int) := (T3.mk ((draw_ / (3 : Int)) % (2 : Int)) ((draw_ / (6 : Int)) % (4 : Int)) ((draw_ / (24 : Int)) % (4 : Int)))
    let moves_ : (List (T4 Int Int Int (T3 Int Int Int))) := moves_ ++ [(T4.mk origin_ key_ target_ cost_)]
    moves_
  else
    moves_
def m_law_moves_l1 (digits_ : (List Int)) (start_key_ : Int) (target_ : Int) (s_ : (List (T4 Int Int Int (T3 Int Int Int)))) (x_ : Int) : (List (T4 Int Int Int (T3 Int Int Int))) :=
  let moves_ : (List (T4 Int Int Int (T3 Int Int Int))) := s_
  let origin_ : Int := x_
  let r2_ : (List (T4 Int Int Int (T3 Int Int Int))) := loopN (m_law_moves_l2 digits_ origin_ start_key_ target_) (Int.toNat (3 : Int)) (0 : Int) moves_
  let moves_ : (List (T4 Int Int Int (T3 Int Int Int))) := r2_
  moves_
def m_law_moves_l0 (script_ : (List Int)) (position_ : Int) (start_key_ : Int) (s_ : (List (T4 Int Int Int (T3 Int Int Int)))) (x_ : Int) : (List (T4 Int Int Int (T3 Int Int Int))) :=
  let moves_ : (List (T4 Int Int Int (T3 Int Int Int))) := s_
  let target_ : Int := x_
  let digits_ : (List Int) := (m_law_draws (m_law_cell script_ (((3 : Int) * position_) + target_)) (((3 : Int) * position_) + (1 : Int)))
  let r1_ : (List (T4 Int Int Int (T3 Int Int Int))) := loopN (m_law_moves_l1 digits_ start_key_ target_) (Int.toNat position_) (0 : Int) moves_
  let moves_ : (List (T4 Int Int Int (T3 Int Int Int))) := r1_
  moves_
def m_law_moves (script_ : (List Int)) (position_ : Int) (start_key_ : Int) : (List (T4 Int Int Int (T3 Int Int Int))) :=
  let moves_ : (List (T4 Int Int Int (T3 Int Int Int))) := []
  let r0_ : (List (T4 Int Int Int (T3 Int Int Int))) := loopN (m_law_moves_l0 script_ position_ start_key_) (Int.toNat (3 : Int)) (0 : Int) moves_
  let moves_ : (List (T4 Int Int Int (T3 Int Int Int))) := r0_
  let j3_ : (List (T4 Int Int Int (T3 Int Int Int))) := if (decide (((m_law_cell script_ (1 : Int)) % (2 : Int)) = (1 : Int))) = true then
      let moves_ : (List (T4 Int Int Int (T3 Int Int Int))) := (List.reverse moves_)
      moves_
    else
      moves_
  let moves_ : (List (T4 Int Int Int (T3 Int Int Int))) := j3_
  moves_
theorem irng_succ {lo : Int} {n : Nat} : irng lo (n + 1) = lo :: irng (lo + 1) n := by
  unfold irng
  rw [List.range_succ_eq_map, List.map_cons, List.map_map]
  congr 1
  · simp
  · refine List.map_congr_left fun i _ => ?_
    dsimp only [Function.comp]
    omega
theorem loopN_flat {β : Type} {f : List β → Int → List β} {g : Int → List β} (h : ∀ s k, f s k = s ++ g k) : ∀ (n : Nat) (lo : Int) (s : List β), loopN f n lo s = s ++ (irng lo n).flatMap g
  | 0, lo, s => by simp [loopN, irng]
  | n + 1, lo, s => by
    rw [loopN, h, loopN_flat h n, irng_succ, List.flatMap_cons, List.append_assoc]
def mvOne (digits : List Int) (o sk t k : Int) : List (T4 Int Int Int (T3 Int Int Int)) :=
  if ((decide ((0 : Int) < ((digits.getD (Int.toNat (((3 : Int) * o) + k)) 0) % (3 : Int)))) && ((decide ((0 : Int) < o)) || ((decide (k = sk)) || (decide (((digits.getD (Int.toNat (((3 : Int) * o) + k)) 0) % (2 : Int)) = (0 : Int)))))) = true then
    [T4.mk o k t (T3.mk (((digits.getD (Int.toNat (((3 : Int) * o) + k)) 0) / (3 : Int)) % (2 : Int)) (((digits.getD (Int.toNat (((3 : Int) * o) + k)) 0) / (6 : Int)) % (4 : Int)) (((digits.getD (Int.toNat (((3 : Int) * o) + k)) 0) / (24 : Int)) % (4 : Int)))] else []
theorem mv2_eq (digits : List Int) (o sk t : Int) (n : Nat) (lo : Int) (s : List (T4 Int Int Int (T3 Int Int Int))) : loopN (m_law_moves_l2 digits o sk t) n lo s = s ++ (irng lo n).flatMap (mvOne digits o sk t) :=
  loopN_flat (fun s k => by
    unfold m_law_moves_l2 mvOne
    dsimp only
    split
    · rfl
    · rw [List.append_nil]) n lo s
theorem mv1_eq (digits : List Int) (sk t : Int) (n : Nat) (lo : Int) (s : List (T4 Int Int Int (T3 Int Int Int))) : loopN (m_law_moves_l1 digits sk t) n lo s = s ++ (irng lo n).flatMap fun o => (irng 0 3).flatMap (mvOne digits o sk t) :=
  loopN_flat (fun s k => by
    unfold m_law_moves_l1
    dsimp only
    rw [mv2_eq]
    rfl) n lo s
def mvAll (ns : List Int) (p sk : Int) : List (T4 Int Int Int (T3 Int Int Int)) := (irng 0 3).flatMap fun t => (irng 0 p.toNat).flatMap fun o => (irng 0 3).flatMap (mvOne (m_law_draws (m_law_cell ns (((3 : Int) * p) + t)) (((3 : Int) * p) + (1 : Int))) o sk t)
theorem mv0_eq (ns : List Int) (p sk : Int) : m_law_moves ns p sk = if (decide (((m_law_cell ns (1 : Int)) % (2 : Int)) = (1 : Int))) = true then (mvAll ns p sk).reverse else mvAll ns p sk := by
  unfold m_law_moves
  dsimp only
  rw [loopN_flat (f := m_law_moves_l0 ns p sk) (g := fun t => (irng 0 p.toNat).flatMap fun o => (irng 0 3).flatMap (mvOne (m_law_draws (m_law_cell ns (((3 : Int) * p) + t)) (((3 : Int) * p) + (1 : Int))) o sk t)) (fun s k => by
    unfold m_law_moves_l0
    dsimp only
    rw [mv1_eq])]
  rfl
theorem mvOne_len (digits : List Int) (o sk t k : Int) : (mvOne digits o sk t k).length ≤ 1 := by unfold mvOne; split <;> simp
theorem mv2_b {digits : List Int} {o sk t : Int} {L L' : List (T4 Int Int Int (T3 Int Int Int))} {n n' : Nat} {lo lo' : Int} (he : loopN (m_law_moves_l2 digits o sk t) n lo L = loopN (m_law_moves_l2 digits o sk t) n' lo' L') : L'.length ≤ L.length + n := by
  rw [mv2_eq, mv2_eq] at he
  have := congrArg List.length he
  rw [List.length_append, List.length_append] at this
  have h2 := flat_le (f := mvOne digits o sk t) (irng lo n) fun x _ => mvOne_len _ _ _ _ x
  rw [irng_len] at h2
  omega
theorem mv1_b {digits : List Int} {sk t : Int} {L L' : List (T4 Int Int Int (T3 Int Int Int))} {n n' : Nat} {lo lo' : Int} (he : loopN (m_law_moves_l1 digits sk t) n lo L = loopN (m_law_moves_l1 digits sk t) n' lo' L') : L'.length ≤ L.length + 3 * n := by
  rw [mv1_eq, mv1_eq] at he
  have := congrArg List.length he
  rw [List.length_append, List.length_append] at this
  have h2 := flat_le (n := 3) (f := fun o => (irng 0 3).flatMap (mvOne digits o sk t)) (irng lo n) fun x _ => Nat.le_trans (flat_le (f := mvOne digits x sk t) (irng 0 3) fun y _ => mvOne_len _ _ _ _ y) (by rw [irng_len]; decide)
  rw [irng_len] at h2
  omega
theorem mv1_e {digits : List Int} {sk t : Int} {L L' : List (T4 Int Int Int (T3 Int Int Int))} {n : Nat} {lo : Int} (he : loopN (m_law_moves_l1 digits sk t) n lo L = L') : L'.length ≤ L.length + 3 * n := by
  refine mv1_b (n' := 0) (lo' := 0) (he.trans ?_)
  rfl
theorem irng_mem {lo x : Int} {n : Nat} : x ∈ irng lo n ↔ lo ≤ x ∧ x < lo + n := by
  unfold irng
  rw [List.mem_map]
  constructor
  · rintro ⟨i, hi, rfl⟩
    have := List.mem_range.mp hi
    omega
  · rintro ⟨h1, h2⟩
    exact ⟨(x - lo).toNat, List.mem_range.mpr (by omega), by omega⟩
theorem irng_nodup {lo : Int} {n : Nat} : (irng lo n).Nodup := by
  unfold irng
  exact List.pairwise_map.mpr (List.nodup_range.imp fun {a b} h z => h (by omega))
theorem flat_one {β : Type} {f : Int → List β} {c : Int} {n : Nat} : ∀ (L : List Int), L.Nodup → (∀ x ∈ L, x ≠ c → f x = []) → (∀ x ∈ L, (f x).length ≤ n) → (L.flatMap f).length ≤ n
  | [], _, _, _ => by simp
  | x :: L, nd, h0, h1 => by
    have nd2 := List.nodup_cons.mp nd
    rw [List.flatMap_cons, List.length_append]
    by_cases q : x = c
    · have : L.flatMap f = [] := List.flatMap_eq_nil_iff.mpr fun y hy => h0 y (List.mem_cons_of_mem _ hy) fun z => nd2.1 (by rw [q, ← z]; exact hy)
      rw [this]
      have := h1 x List.mem_cons_self
      simp only [List.length_nil]
      omega
    · rw [h0 x List.mem_cons_self q]
      have := flat_one L nd2.2 (fun y hy => h0 y (List.mem_cons_of_mem _ hy)) fun y hy => h1 y (List.mem_cons_of_mem _ hy)
      simp only [List.length_nil]
      omega
theorem mvAll_um (ns : List Int) (p sk : Int) : Um (mvAll ns p sk) := fun a b => by
  unfold mvAll
  rw [List.filter_flatMap]
  refine Nat.le_trans (flat_le (n := 1) (irng 0 3) fun t _ => ?_) (by rw [irng_len]; decide)
  rw [List.filter_flatMap]
  refine flat_one (c := a) _ irng_nodup (fun o _ ho => ?_) fun o _ => ?_
  · rw [List.filter_flatMap]
    refine List.flatMap_eq_nil_iff.mpr fun k _ => ?_
    unfold mvOne
    split
    · rw [List.filter_cons_of_neg (by simp [ho])]; rfl
    · rfl
  · rw [List.filter_flatMap]
    refine flat_one (c := b) _ irng_nodup (fun k _ hk => ?_) fun k _ => Nat.le_trans (List.length_filter_le _ _) (mvOne_len _ _ _ _ _)
    unfold mvOne
    split
    · rw [List.filter_cons_of_neg (by simp [hk])]; rfl
    · rfl
theorem moves_um (ns : List Int) (p sk : Int) : Um (m_law_moves ns p sk) := fun a b => by
  rw [mv0_eq]
  split
  · rw [List.filter_reverse, List.length_reverse]; exact mvAll_um ns p sk a b
  · exact mvAll_um ns p sk a b
theorem moves_in {ns : List Int} {p sk : Int} {m : T4 Int Int Int (T3 Int Int Int)} (h : m ∈ m_law_moves ns p sk) : 0 ≤ m.a ∧ m.a < p ∧ 0 ≤ m.b ∧ m.b ≤ 2 ∧ 0 ≤ m.c ∧ m.c ≤ 2 := by
  have h2 : m ∈ mvAll ns p sk := by
    rw [mv0_eq] at h
    split at h
    · exact List.mem_reverse.mp h
    · exact h
  unfold mvAll at h2
  obtain ⟨t, ht, h2⟩ := List.mem_flatMap.mp h2
  obtain ⟨o, ho, h2⟩ := List.mem_flatMap.mp h2
  obtain ⟨k, hk, h2⟩ := List.mem_flatMap.mp h2
  rw [irng_mem] at ht ho hk
  unfold mvOne at h2
  split at h2
  · obtain rfl := List.mem_singleton.mp h2
    dsimp only
    omega
  · cases h2
theorem moves_len {ns : List Int} {p sk : Int} (hp : p ≤ 4) : (m_law_moves ns p sk).length ≤ 36 := by
  have : (mvAll ns p sk).length ≤ 36 := by
    unfold mvAll
    refine Nat.le_trans (flat_le (n := 12) (irng 0 3) fun t _ => ?_) (by rw [irng_len]; decide)
    refine Nat.le_trans (flat_le (n := 3) (irng 0 p.toNat) fun t _ => ?_) (by rw [irng_len]; omega)
    exact Nat.le_trans (flat_le (n := 1) (irng 0 3) fun y _ => mvOne_len _ _ _ _ y) (by rw [irng_len]; decide)
  rw [mv0_eq]
  split
  · rw [List.length_reverse]; exact this
  · exact this

abbrev s_law_moves : Stmt := (topS 9)
theorem sc_law_moves : FnScope ["script", "position", "start_key", "moves", "target", "digits", "origin", "key", "draw", "cost"] ["script", "position", "start_key"] (defScope s_law_moves) := ⟨rfl, rfl, rfl, by decide +kernel, rfl, by decide +kernel, by decide +kernel⟩
abbrev sp_law_moves (K : PySem.W.Frag) : Sp := PrD K (fun c : (List Int) × Int × Int => [Dx.toX c.1, Dx.toX c.2.1, Dx.toX c.2.2]) (fun c => 1 ≤ c.2.1 ∧ c.2.1 ≤ 4) (fun c => (m_law_moves c.1 c.2.1 c.2.2 : (List (T4 Int Int Int (T3 Int Int Int)))))
theorem ok_law_moves (T : Txt K mg) : FnOk P w K mg base CX0 2 T.f_law_moves T.d_law_moves ["script", "position", "start_key"] (sp_law_moves K) := by
  refine T.u_law_moves.ok sc_law_moves (fun vs H Q E h => ?_) (fun cdv A outer s H vs Q E hr h => ?_)
  · obtain ⟨Mc, c, mok, da, pre, q⟩ := h
    exact (dpa_len da)
  · obtain ⟨Mc, c, mok, da, pre, q⟩ := h
    obtain ⟨script_, position_, start_key_⟩ := c
    dsimp only at da pre q
    obtain ⟨v0, w0, rfl, d0, da0⟩ := dpa_inv da
    obtain ⟨v1, w1, rfl, d1, da1⟩ := dpa_inv da0
    obtain ⟨v2, w2, rfl, d2, da2⟩ := dpa_inv da1
    cases dpa_inv0 da2
    cases (Dt.int d1)
    cases (Dt.int d2)
    have s0 : Sg K Mc H H [(v0, Dx.toX script_)] [] := Sg.enter mok ⟨d0, True.intro⟩
    refine ⟨_, (pss_cons (ps_set (i := 3) sc_law_moves.nd rfl (.inl rfl) (pe_lst pa_nil)) (pss_cons (ps_for PassesOwn.never rfl (pi_range1 (by rfl) T.n_range (pa_cons pe_int pa_nil)) (pg_name (i := 4) sc_law_moves.nd rfl (.inl rfl)) (pss_cons (ps_set (i := 5) sc_law_moves.nd rfl (.inl rfl) (pe_call (ok_law_draws T) hr (by rfl) T.g_law_draws T.u_law_draws.kp T.b_law_draws .nil pass0 (pa_cons (pe_call (ok_law_cell T) hr (by rfl) T.g_law_cell T.u_law_cell.kp T.b_law_cell .nil pass0 (pa_cons (pv 0) (pa_cons (pe_op op_add (pe_op op_mul pe_int (pv 1)) (pv 4)) pa_nil))) (pa_cons (pe_op op_add (pe_op op_mul pe_int (pv 1)) pe_int) pa_nil)))) (pss_cons (ps_for PassesOwn.never rfl (pi_range1 (by rfl) T.n_range (pa_cons (pv 1) pa_nil)) (pg_name (i := 6) sc_law_moves.nd rfl (.inl rfl)) (pss_cons (ps_for PassesOwn.never rfl (pi_range1 (by rfl) T.n_range (pa_cons pe_int pa_nil)) (pg_name (i := 7) sc_law_moves.nd rfl (.inl rfl)) (pss_cons (ps_set (i := 8) sc_law_moves.nd rfl (.inl rfl) (pe_ix ix_list (pv 5) (pe_op op_add (pe_op op_mul pe_int (pv 6)) (pv 7)) (fun _ _ => rfl))) (pss_cons (ps_if (PW.pt (pw_and (pt_cmpR op_gt (pe_op op_mod (pv 8) pe_int) pe_int (nomark _)) (pw_and1 (PW.pt (pw_or (pt_cmpR op_gt (pv 6) pe_int (nomark _)) (pw_or (pt_cmpR op_eq (pv 7) (pv 2) (nomark _)) (pw_or1 (pt_cmpR op_eq (pe_op op_mod (pv 8) pe_int) pe_int (nomark _))))))))) (pss_cons (ps_set (i := 9) sc_law_moves.nd rfl (.inl rfl) (pe_tup (pa_cons (pe_op op_mod (pe_op op_fdivW (pv 8) pe_int) pe_int) (pa_cons (pe_op op_mod (pe_op op_fdivW (pv 8) pe_int) pe_int) (pa_cons (pe_op op_mod (pe_op op_fdivW (pv 8) pe_int) pe_int) pa_nil))))) (pss_cons (ps_expr (pe_bm PySem.F.plainAttrs_list PySem.F.slot_list_append PySem.F.type_list_append mt_append (pv 3) (pa_cons (pe_tup (pa_cons (pv 6) (pa_cons (pv 7) (pa_cons (pv 4) (pa_cons (pv 9) pa_nil))))) pa_nil))) pss_nil)) pss_nil) pss_nil))) pss_nil)) pss_nil))) (pss_cut (ps_if (pt_cmpR op_eq (pe_op op_mod (pe_call (ok_law_cell T) hr (by rfl) T.g_law_cell T.u_law_cell.kp T.b_law_cell .nil pass0 (pa_cons (pv 0) (pa_cons pe_int pa_nil))) pe_int) pe_int (nomark _)) (pss_cons (ps_set (i := 3) sc_law_moves.nd rfl (.inl rfl) (pe_revL (pv 3))) pss_nil) pss_nil) (pss_cons (ps_ret (pv 3)) pss_nil)))), ?_⟩
    refine z_nilG (T4 Int Int Int (T3 Int Int Int)) s0 fun moves_2 hmoves_2 ps1 Hs1 s1 => ?_
    have lmoves_2 : moves_2.length = 0 := by rw [hmoves_2]; rfl
    refine zq_forR1G s1 (hv_int 3) (by first | omega | decide +kernel | (simp only [List.length_cons, List.length_nil]; omega)) (fun i σ' H' => ∃ (moves_3 : (List (T4 Int Int Int (T3 Int Int Int)))) (o4 : Option V) (o5 : Option V) (o6 : Option V) (o7 : Option V) (o8 : Option V) (o9 : Option V), (loopN (m_law_moves_l0 script_ position_ start_key_) (Int.toNat (3 : Int)) (0 : Int) moves_2 : (List (T4 Int Int Int (T3 Int Int Int)))) = (loopN (m_law_moves_l0 script_ position_ start_key_) ((Int.toNat (3 : Int)) - i) ((0 : Int) + (i : Int)) moves_3 : (List (T4 Int Int Int (T3 Int Int Int)))) ∧ (moves_3.length ≤ 12 * (i)) ∧ σ' = [some v0, some (V.int position_), some (V.int start_key_), some (.ref ps1), o4, o5, o6, o7, o8, o9] ∧ Sg K Mc H H' [(v0, Dx.toX script_)] [(ps1, .lst (List.map Dx.toX moves_3))]) (fun Hs10 s10 => ⟨moves_2, _, _, _, _, _, _, (by simp), (by first | trivial | omega | (simp; done) | simp_all), rfl, s10.keep fun _ h => ⟨h.1, True.intro⟩⟩) (fun i14 x15 σ' Hs13 hx16 hi17 hP => ?_) (fun σ' Hs13 hP => ?_)
    · obtain ⟨moves_3, o4, o5, o6, o7, o8, o9, he11, hg12, rfl, s13⟩ := hP
      have hgV := hg12
      refine z_asgG s13 (hv_call ((m_law_cell script_ (((3 : Int) * position_) + x15)), (((3 : Int) * position_) + (1 : Int))) (hd_cons (hv_call (script_, (((3 : Int) * position_) + x15)) (hd_cons (hv_var (x := script_) rfl s13.im.1) (hd_cons (hv_add (hv_mul (hv_int 3) (hv_vI rfl) (by first | exact Or.inr ⟨by omega, by omega⟩ | exact Or.inl ⟨by omega, by omega⟩ | (dsimp only; first | exact Or.inr ⟨by omega, by omega⟩ | exact Or.inl ⟨by omega, by omega⟩))) (hv_vI rfl)) hd_nil)) (by first | omega | (dsimp only; omega) | (subst_vars; omega) | decide +kernel)) (hd_cons (hv_add (hv_mul (hv_int 3) (hv_vI rfl) (by first | exact Or.inr ⟨by omega, by omega⟩ | exact Or.inl ⟨by omega, by omega⟩ | (dsimp only; first | exact Or.inr ⟨by omega, by omega⟩ | exact Or.inl ⟨by omega, by omega⟩))) (hv_int 1)) hd_nil)) (by first | omega | (dsimp only; omega) | (subst_vars; omega) | decide +kernel)) fun digits_20 hdigits_20 vdigits_20 Hs19 s19 => ?_
      try dsimp only at hdigits_20
      have f21 := draws_len (m_law_cell script_ (((3 : Int) * position_) + x15)) (((3 : Int) * position_) + (1 : Int))
      rw [← hdigits_20] at f21
      refine zq_forR1G s19 (hv_vI rfl) (by first | omega | decide +kernel | (simp only [List.length_cons, List.length_nil]; omega)) (fun i σ' H' => ∃ (moves_22 : (List (T4 Int Int Int (T3 Int Int Int)))) (o23 : Option V) (o24 : Option V) (o25 : Option V) (o26 : Option V), (loopN (m_law_moves_l1 digits_20 start_key_ x15) (Int.toNat position_) (0 : Int) moves_3 : (List (T4 Int Int Int (T3 Int Int Int)))) = (loopN (m_law_moves_l1 digits_20 start_key_ x15) ((Int.toNat position_) - i) ((0 : Int) + (i : Int)) moves_22 : (List (T4 Int Int Int (T3 Int Int Int)))) ∧ True ∧ σ' = [some v0, some (V.int position_), some (V.int start_key_), some (.ref ps1), some (V.int x15), some vdigits_20, o23, o24, o25, o26] ∧ Sg K Mc H H' [(vdigits_20, Dx.toX digits_20), (v0, Dx.toX script_)] [(ps1, .lst (List.map Dx.toX moves_22))]) (fun Hs27 s27 => ⟨moves_3, _, _, _, _, (by simp), (by first | trivial | omega | (simp; done) | simp_all), rfl, s27.keep fun _ h => ⟨h.1, ⟨h.2.1, True.intro⟩⟩⟩) (fun i31 x32 σ' Hs30 hx33 hi34 hP => ?_) (fun σ' Hs30 hP => ?_)
      · obtain ⟨moves_22, o23, o24, o25, o26, he28, hg29, rfl, s30⟩ := hP
        have b1 := mv1_b he28
        refine zq_forR1G s30 (hv_int 3) (by first | omega | decide +kernel | (simp only [List.length_cons, List.length_nil]; omega)) (fun i σ' H' => ∃ (moves_36 : (List (T4 Int Int Int (T3 Int Int Int)))) (o37 : Option V) (o38 : Option V) (o39 : Option V), (loopN (m_law_moves_l2 digits_20 x32 start_key_ x15) (Int.toNat (3 : Int)) (0 : Int) moves_22 : (List (T4 Int Int Int (T3 Int Int Int)))) = (loopN (m_law_moves_l2 digits_20 x32 start_key_ x15) ((Int.toNat (3 : Int)) - i) ((0 : Int) + (i : Int)) moves_36 : (List (T4 Int Int Int (T3 Int Int Int)))) ∧ True ∧ σ' = [some v0, some (V.int position_), some (V.int start_key_), some (.ref ps1), some (V.int x15), some vdigits_20, some (V.int x32), o37, o38, o39] ∧ Sg K Mc H H' [(vdigits_20, Dx.toX digits_20), (v0, Dx.toX script_)] [(ps1, .lst (List.map Dx.toX moves_36))]) (fun Hs40 s40 => ⟨moves_22, _, _, _, (by simp), (by first | trivial | omega | (simp; done) | simp_all), rfl, s40.keep fun _ h => ⟨h.1, ⟨h.2.1, True.intro⟩⟩⟩) (fun i44 x45 σ' Hs43 hx46 hi47 hP => ?_) (fun σ' Hs43 hP => ?_)
        · obtain ⟨moves_36, o37, o38, o39, he41, hg42, rfl, s43⟩ := hP
          have b2 := mv2_b he41
          refine z_asgIG s43 (hv_at 0 (hs_of (hv_var (x := digits_20) rfl s43.im.1)) (hv_add (hv_mul (hv_int 3) (hv_vI rfl) (by first | exact Or.inr ⟨by omega, by omega⟩ | exact Or.inl ⟨by omega, by omega⟩ | (dsimp only; first | exact Or.inr ⟨by omega, by omega⟩ | exact Or.inl ⟨by omega, by omega⟩))) (hv_vI rfl)) (by first | omega | decide +kernel | (simp only [List.length_cons, List.length_nil]; omega)) (by first | omega | decide +kernel | (simp only [List.length_cons, List.length_nil]; omega))) fun draw_50 hdraw_50 Hs49 s49 => ?_
          try dsimp only at hdraw_50
          refine z_ifx (b := ((decide ((0 : Int) < (draw_50 % (3 : Int)))) && ((decide ((0 : Int) < x32)) || ((decide (x45 = start_key_)) || (decide ((draw_50 % (2 : Int)) = (0 : Int))))))) s49 (ht_and (ht_val (K := K) (hv_gt (hv_mod (hv_vI rfl) (hv_int 3) (by first | omega | decide +kernel | (simp only [List.length_cons, List.length_nil]; omega))) (hv_int 0))) (fun hb0 => (ht_or (ht_val (K := K) (hv_gt (hv_vI rfl) (hv_int 0))) (fun hb0 => (ht_or (ht_val (K := K) (hv_eqI (hv_vI rfl) (hv_vI rfl))) (fun hb1 => (ht_val (K := K) (hv_eqI (hv_mod (hv_vI rfl) (hv_int 2) (by first | omega | decide +kernel | (simp only [List.length_cons, List.length_nil]; omega))) (hv_int 0))))))))) (fun hb51 Hs52 s52 => ?_) (fun hb51 Hs53 s53 => ?_)
          · have hb51P := hb51
            try simp only [decide_eq_true_eq, decide_eq_false_iff_not, Bool.not_eq_true', Bool.not_eq_false', Bool.and_eq_true, Bool.or_eq_true, Bool.or_eq_false_iff] at hb51P
            refine z_asgG s52 (hv_tup3 (hv_mod (hv_div (hv_vI rfl) (hv_int 3) (by first | exact ⟨by decide +kernel, by decide +kernel⟩ | (refine log_small ?_ ?_ <;> omega))) (hv_int 2) (by first | omega | decide +kernel | (simp only [List.length_cons, List.length_nil]; omega))) (hv_mod (hv_div (hv_vI rfl) (hv_int 6) (by first | exact ⟨by decide +kernel, by decide +kernel⟩ | (refine log_small ?_ ?_ <;> omega))) (hv_int 4) (by first | omega | decide +kernel | (simp only [List.length_cons, List.length_nil]; omega))) (hv_mod (hv_div (hv_vI rfl) (hv_int 24) (by first | exact ⟨by decide +kernel, by decide +kernel⟩ | (refine log_small ?_ ?_ <;> omega))) (hv_int 4) (by first | omega | decide +kernel | (simp only [List.length_cons, List.length_nil]; omega)))) fun cost_55 hcost_55 vcost_55 Hs54 s54 => ?_
            try dsimp only at hcost_55
            refine zq_appG s54 (kk := 0) rfl (ev_var rfl) (hv_tup4 (hv_vI rfl) (hv_vI rfl) (hv_vI rfl) (hv_var (x := cost_55) rfl s54.im.1)) (by first | omega | decide +kernel | (simp only [List.length_cons, List.length_nil]; omega)) fun moves_57 hmoves_57 Hs56 s56 => ?_
            have lmoves_57 : moves_57.length = moves_36.length + 1 := by rw [hmoves_57, List.length_append]; rfl
            have s56 : Sg K Mc _ _ _ [(ps1, .lst (List.map Dx.toX moves_57))] := s56
            have hf58 : (m_law_moves_l2 digits_20 x32 start_key_ x15) moves_36 x45 = moves_57 := (by subst hmoves_57; subst hcost_55; subst hdraw_50; subst hdigits_20; subst hmoves_2; first | (simp only [m_law_moves_l2, hb51, if_true, if_false, Bool.false_eq_true, decide_true, decide_false, Option.getD_some, Option.isNone_none, Option.isNone_some, Bool.not_true, Bool.not_false, ↓reduceIte]; done) | (rfl; done) | ((unfold m_law_moves_l2); (dsimp only); (first | rw [ifT hb51] | rw [ifF hb51] | skip); (try dsimp only); first | done | rfl) | (exfalso; simp at hb51; done))
            exact ⟨moves_57, _, _, _, he41.trans ((loopN_step hi47).trans (by rw [← hx46, hf58])), (by first | trivial | omega | (simp_all; done) | (simp_all; omega)), rfl, s56.keep fun _ h => ⟨h.2.1, ⟨h.2.2.1, True.intro⟩⟩⟩
          · have hb51P := hb51
            try simp only [decide_eq_true_eq, decide_eq_false_iff_not, Bool.not_eq_true', Bool.not_eq_false', Bool.and_eq_true, Bool.or_eq_true, Bool.or_eq_false_iff] at hb51P
            have hf59 : (m_law_moves_l2 digits_20 x32 start_key_ x15) moves_36 x45 = moves_36 := (by subst hdraw_50; subst hdigits_20; subst hmoves_2; first | (simp only [m_law_moves_l2, hb51, if_true, if_false, Bool.false_eq_true, decide_true, decide_false, Option.getD_some, Option.isNone_none, Option.isNone_some, Bool.not_true, Bool.not_false, ↓reduceIte]; done) | (rfl; done) | ((unfold m_law_moves_l2); (dsimp only); (first | rw [ifT hb51] | rw [ifF hb51] | skip); (try dsimp only); first | done | rfl) | (exfalso; simp at hb51; done))
            exact ⟨moves_36, _, _, _, he41.trans ((loopN_step hi47).trans (by rw [← hx46, hf59])), (by first | trivial | omega | (simp_all; done) | (simp_all; omega)), rfl, s53.keep fun _ h => ⟨h.1, ⟨h.2.1, True.intro⟩⟩⟩
        · obtain ⟨moves_60, o61, o62, o63, he65, hg66, rfl, s64⟩ := hP
          rw [loopN_end] at he65
          have hf67 : (m_law_moves_l1 digits_20 start_key_ x15) moves_22 x32 = moves_60 := (by subst hdigits_20; subst hmoves_2; first | (simp only [m_law_moves_l1, he65, if_true, if_false, Bool.false_eq_true, decide_true, decide_false, Option.getD_some, Option.isNone_none, Option.isNone_some, Bool.not_true, Bool.not_false, ↓reduceIte]; done) | (rfl; done) | ((unfold m_law_moves_l1); (dsimp only); (first | rw [he65] | skip); (try dsimp only); first | done | rfl))
          exact ⟨moves_60, _, _, _, _, he28.trans ((loopN_step hi34).trans (by rw [← hx33, hf67])), (by first | trivial | omega | (simp_all; done) | (simp_all; omega)), rfl, s64.keep fun _ h => ⟨h.1, ⟨h.2.1, True.intro⟩⟩⟩
      · obtain ⟨moves_68, o69, o70, o71, o72, he74, hg75, rfl, s73⟩ := hP
        rw [loopN_end] at he74
        have c1 := mv1_e he74
        have hf76 : (m_law_moves_l0 script_ position_ start_key_) moves_3 x15 = moves_68 := (by subst hdigits_20; subst hmoves_2; first | (simp only [m_law_moves_l0, he74, if_true, if_false, Bool.false_eq_true, decide_true, decide_false, Option.getD_some, Option.isNone_none, Option.isNone_some, Bool.not_true, Bool.not_false, ↓reduceIte]; done) | (rfl; done) | ((unfold m_law_moves_l0); (dsimp only); (first | rw [he74] | skip); (try dsimp only); first | done | rfl))
        exact ⟨moves_68, _, _, _, _, _, _, he11.trans ((loopN_step hi17).trans (by rw [← hx16, hf76])), (by first | trivial | omega | (simp_all; done) | (simp_all; omega)), rfl, s73.keep fun _ h => ⟨h.2.1, True.intro⟩⟩
    · obtain ⟨moves_77, o78, o79, o80, o81, o82, o83, he85, hg86, rfl, s84⟩ := hP
      rw [loopN_end] at he85
      have s87 := Sg.frz (xs := moves_77) s84
      refine z_ifj (fun σ' H' => ∃ (moves_91 : (List (T4 Int Int Int (T3 Int Int Int)))) (vmoves_91 : V) (o94 : Option V) (o95 : Option V) (o96 : Option V) (o97 : Option V) (o98 : Option V) (o99 : Option V), moves_91 = (if (decide (((m_law_cell script_ (1 : Int)) % (2 : Int)) = (1 : Int))) = true then
        let moves_ : (List (T4 Int Int Int (T3 Int Int Int))) := (List.reverse moves_77)
        moves_
      else
        moves_77) ∧ σ' = [some v0, some (V.int position_), some (V.int start_key_), some vmoves_91, o94, o95, o96, o97, o98, o99] ∧ Sg K Mc H H' [(vmoves_91, Dx.toX moves_91), (v0, Dx.toX script_)] []) s87 (ht_val (K := K) (hv_eqI (hv_mod (hv_call (script_, (1 : Int)) (hd_cons (hv_var (x := script_) rfl s87.im.2.1) (hd_cons (hv_int 1) hd_nil)) (by first | omega | (dsimp only; omega) | (subst_vars; omega) | decide +kernel)) (hv_int 2) (by first | omega | decide +kernel | (simp only [List.length_cons, List.length_nil]; omega))) (hv_int 1))) (fun hb88 Hs89 s89 => ?_) (fun hb88 Hs90 s90 => ?_) (fun σ' Hs93 hN => ?_)
      · have hb88P := hb88
        try simp only [decide_eq_true_eq, decide_eq_false_iff_not, Bool.not_eq_true', Bool.not_eq_false', Bool.and_eq_true, Bool.or_eq_true, Bool.or_eq_false_iff] at hb88P
        refine z_asgG s89 (hv_revL (hs_of (hv_var (x := moves_77) rfl s89.im.1))) fun moves_101 hmoves_101 vmoves_101 Hs100 s100 => ?_
        try dsimp only at hmoves_101
        exact ⟨moves_101, vmoves_101, _, _, _, _, _, _, (by subst hmoves_101; subst hmoves_2; first | (simp only [he85, hb88, if_true, if_false, Bool.false_eq_true, decide_true, decide_false, Option.getD_some, Option.isNone_none, Option.isNone_some, Bool.not_true, Bool.not_false, ↓reduceIte]; done) | (rfl; done) | ((skip); (dsimp only); (first | rw [he85] | skip); (try dsimp only); (first | rw [ifT hb88] | rw [ifF hb88] | skip); (try dsimp only); first | done | rfl) | (exfalso; simp at hb88; done)), rfl, s100.keep fun _ h => ⟨h.1, ⟨h.2.2.1, True.intro⟩⟩⟩
      · have hb88P := hb88
        try simp only [decide_eq_true_eq, decide_eq_false_iff_not, Bool.not_eq_true', Bool.not_eq_false', Bool.and_eq_true, Bool.or_eq_true, Bool.or_eq_false_iff] at hb88P
        exact ⟨moves_77, (V.ref ps1), _, _, _, _, _, _, (by subst hmoves_2; first | (simp only [he85, hb88, if_true, if_false, Bool.false_eq_true, decide_true, decide_false, Option.getD_some, Option.isNone_none, Option.isNone_some, Bool.not_true, Bool.not_false, ↓reduceIte]; done) | (rfl; done) | ((skip); (dsimp only); (first | rw [he85] | skip); (try dsimp only); (first | rw [ifT hb88] | rw [ifF hb88] | skip); (try dsimp only); first | done | rfl) | (exfalso; simp at hb88; done)), rfl, s90.keep fun _ h => ⟨h.1, ⟨h.2.1, True.intro⟩⟩⟩
      · obtain ⟨moves_91, vmoves_91, o94, o95, o96, o97, o98, o99, hj92, rfl, s93⟩ := hN
        try dsimp only at hj92
        have hF102 : m_law_moves script_ position_ start_key_ = moves_91 := (by subst hmoves_2; first | (simp only [m_law_moves, he85, hj92, if_true, if_false, Bool.false_eq_true, decide_true, decide_false, Option.getD_some, Option.isNone_none, Option.isNone_some, Bool.not_true, Bool.not_false, ↓reduceIte]; done) | (simp only [m_law_moves, he85, ← hj92, if_true, if_false, Bool.false_eq_true, decide_true, decide_false, Option.getD_some, Option.isNone_none, Option.isNone_some, Bool.not_true, Bool.not_false, ↓reduceIte]; done) | (rfl; done) | ((unfold m_law_moves); (dsimp only); (first | rw [he85] | skip); (try dsimp only); (first | rw [← hj92] | rw [hj92] | skip); (try dsimp only); first | done | rfl))
        exact zq_ret s93 (hv_var (x := moves_91) rfl s93.im.1) fun v H' e d => q v H' e (by rw [hF102]; exact d)
def m_law_same_l1  (s_ : Unit) (x_ : (Int × Int)) : Lp Bool (Unit) :=
  let stop_ : (Int × Int) := x_
  Lp.nxt ()
def m_law_same_l0 (actual_ : (List (T3 Int (T3 Int Int Int) (Tup (Int × Int))))) (expected_ : (List (T3 Int (T3 Int Int Int) (Tup (Int × Int))))) (s_ : Unit) (x_ : Int) : Lp Bool (Unit) :=
  let k_ : Int := x_
  let entry_ : (T3 Int (T3 Int Int Int) (Tup (Int × Int))) := (actual_.getD (Int.toNat k_) (T3.mk 0 (T3.mk 0 0 0) (Tup.mk [])))
  if (!(m_law_is_integer entry_.a)) = true then
    Lp.ret false
  else
    if (!decide (entry_ = (expected_.getD (Int.toNat k_) (T3.mk 0 (T3.mk 0 0 0) (Tup.mk []))))) = true then
      Lp.ret false
    else
      match (loopL m_law_same_l1 (PySem.W.Tup.items entry_.c) () : Bool ⊕ (Unit)) with
      | .inl rr_ => Lp.ret rr_
      | .inr r1_ =>
        Lp.nxt ()
def m_law_same (actual_ : (List (T3 Int (T3 Int Int Int) (Tup (Int × Int))))) (expected_ : (List (T3 Int (T3 Int Int Int) (Tup (Int × Int))))) : Bool :=
  if (!decide (((actual_).length : Int) = ((expected_).length : Int))) = true then
    false
  else
    match (loopNR (m_law_same_l0 actual_ expected_) (Int.toNat ((expected_).length : Int)) (0 : Int) () : Bool ⊕ (Unit)) with
    | .inl rr_ => rr_
    | .inr r0_ =>
      true
abbrev s_law_same : Stmt := (topS 12)
theorem sc_law_same : FnScope ["actual", "expected", "k", "entry", "stop"] ["actual", "expected"] (defScope s_law_same) := ⟨rfl, rfl, rfl, by decide +kernel, rfl, by decide +kernel, by decide +kernel⟩
abbrev sp_law_same (K : PySem.W.Frag) : Sp := PrD K (fun c : (List (T3 Int (T3 Int Int Int) (Tup (Int × Int)))) × (List (T3 Int (T3 Int Int Int) (Tup (Int × Int)))) => [Dx.toX c.1, Dx.toX c.2]) (fun c => c.2.length ≤ 1000) (fun c => (m_law_same c.1 c.2 : Bool))
theorem ok_law_same (T : Txt K mg) : FnOk P w K mg base CX0 2 T.f_law_same T.d_law_same ["actual", "expected"] (sp_law_same K) := by
  refine T.u_law_same.ok sc_law_same (fun vs H Q E h => ?_) (fun cdv A outer s H vs Q E hr h => ?_)
  · obtain ⟨Mc, c, mok, da, pre, q⟩ := h
    exact (dpa_len da)
  · obtain ⟨Mc, c, mok, da, pre, q⟩ := h
    obtain ⟨actual_, expected_⟩ := c
    dsimp only at da pre q
    obtain ⟨v0, w0, rfl, d0, da0⟩ := dpa_inv da
    obtain ⟨v1, w1, rfl, d1, da1⟩ := dpa_inv da0
    cases dpa_inv0 da1
    have s0 : Sg K Mc H H [(v0, Dx.toX actual_), (v1, Dx.toX expected_)] [] := Sg.enter mok ⟨d0, ⟨d1, True.intro⟩⟩
    refine ⟨_, (pss_cons (ps_if (PW.pt (pw_or (pt_not (pt_val (pe_callB call_isi (by rfl) T.n_isinstance (by decide +kernel) (pa_cons (pv 0) (pa_cons (pe_bltn (v := .ty "list") (by rfl) T.n_list (by decide +kernel) rfl) pa_nil))))) (pw_or1 (pt_cmpR op_ne (pe_callB call_len (by rfl) T.n_len (by decide +kernel) (pa_cons (pv 0) pa_nil)) (pe_callB call_len (by rfl) T.n_len (by decide +kernel) (pa_cons (pv 1) pa_nil)) (nomark _))))) (pss_cons (ps_ret pe_bl) pss_nil) pss_nil) (pss_cons (ps_for PassesOwn.never rfl (pi_range1 (by rfl) T.n_range (pa_cons (pe_callB call_len (by rfl) T.n_len (by decide +kernel) (pa_cons (pv 1) pa_nil)) pa_nil)) (pg_name (i := 2) sc_law_same.nd rfl (.inl rfl)) (pss_cons (ps_set (i := 3) sc_law_same.nd rfl (.inl rfl) (pe_ix ix_list (pv 0) (pv 2) (fun _ _ => rfl))) (pss_cons (ps_if (PW.pt (pw_or (pt_not (pt_val (pe_callB call_isi (by rfl) T.n_isinstance (by decide +kernel) (pa_cons (pv 3) (pa_cons (pe_bltn (v := .ty "tuple") (by rfl) T.n_tuple (by decide +kernel) rfl) pa_nil))))) (pw_or (pt_cmpR op_ne (pe_callB call_len (by rfl) T.n_len (by decide +kernel) (pa_cons (pv 3) pa_nil)) pe_int (nomark _)) (pw_or1 (pt_not (pt_val (pe_call (ok_law_is_integer T) hr (by rfl) T.g_law_is_integer T.u_law_is_integer.kp T.b_law_is_integer .nil pass0 (pa_cons (pe_ix ix_tup (pv 3) pe_int (fun _ _ => rfl)) pa_nil)))))))) (pss_cons (ps_ret pe_bl) pss_nil) pss_nil) (pss_cons (ps_if (PW.pt (pw_or (pt_not (pt_val (pe_callB call_isi (by rfl) T.n_isinstance (by decide +kernel) (pa_cons (pe_ix ix_tup (pv 3) pe_int (fun _ _ => rfl)) (pa_cons (pe_bltn (v := .ty "tuple") (by rfl) T.n_tuple (by decide +kernel) rfl) pa_nil))))) (pw_or (pt_not (pt_val (pe_callB call_isi (by rfl) T.n_isinstance (by decide +kernel) (pa_cons (pe_ix ix_tup (pv 3) pe_int (fun _ _ => rfl)) (pa_cons (pe_bltn (v := .ty "tuple") (by rfl) T.n_tuple (by decide +kernel) rfl) pa_nil))))) (pw_or1 (pt_cmpR (op_neT (α := (T3 Int (T3 Int Int Int) (Tup (Int × Int)))) (hud hr (by decide +kernel))) (pv 3) (pe_ix ix_list (pv 1) (pv 2) (fun _ _ => rfl)) (nomark _)))))) (pss_cons (ps_ret pe_bl) pss_nil) pss_nil) (pss_cons (ps_for PassesOwn.never rfl (pi_tup (pe_ix ix_tup (pv 3) pe_int (fun _ _ => rfl))) (pg_name (i := 4) sc_law_same.nd rfl (.inl rfl)) (pss_cons (ps_if (pt_not (pt_val (pe_callB call_isi (by rfl) T.n_isinstance (by decide +kernel) (pa_cons (pv 4) (pa_cons (pe_bltn (v := .ty "tuple") (by rfl) T.n_tuple (by decide +kernel) rfl) pa_nil))))) (pss_cons (ps_ret pe_bl) pss_nil) pss_nil) pss_nil)) pss_nil))))) (pss_cons (ps_ret pe_bl) pss_nil))), ?_⟩
    refine z_ifx (b := (!decide (((actual_).length : Int) = ((expected_).length : Int)))) s0 (HT.is (ht_or (HT.is (ht_not (ht_B (K := K) (hv_isi (b := true) (hv_var (x := actual_) rfl s0.im.1) (by decide +kernel)))) (show _ = false by first | rfl | decide | simp)) (fun hb0 => (ht_val (K := K) (hv_neI (hv_len (hs_of (hv_var (x := actual_) rfl s0.im.1))) (hv_len (hs_of (hv_var (x := expected_) rfl s0.im.2.1))))))) (show _ = (!decide (((actual_).length : Int) = ((expected_).length : Int))) by first | rfl | decide | simp)) (fun hb1 Hs2 s2 => ?_) (fun hb1 Hs3 s3 => ?_)
    · have hb1P := hb1
      try simp only [decide_eq_true_eq, decide_eq_false_iff_not, Bool.not_eq_true', Bool.not_eq_false', Bool.and_eq_true, Bool.or_eq_true, Bool.or_eq_false_iff] at hb1P
      have hF4 : m_law_same actual_ expected_ = false := (by  first | (simp only [m_law_same, hb1, if_true, if_false, Bool.false_eq_true, decide_true, decide_false, Option.getD_some, Option.isNone_none, Option.isNone_some, Bool.not_true, Bool.not_false, ↓reduceIte]; done) | (rfl; done) | ((unfold m_law_same); (dsimp only); (first | rw [ifT hb1] | rw [ifF hb1] | skip); (try dsimp only); first | done | rfl) | (exfalso; simp at hb1; done))
      exact zq_ret s2 (hv_bl false) fun v H' e d => q v H' e (by rw [hF4]; exact d)
    · have hb1P := hb1
      try simp only [decide_eq_true_eq, decide_eq_false_iff_not, Bool.not_eq_true', Bool.not_eq_false', Bool.and_eq_true, Bool.or_eq_true, Bool.or_eq_false_iff] at hb1P
      refine zq_forR1G s3 (hv_len (hs_of (hv_var (x := expected_) rfl s3.im.2.1))) (by first | omega | decide +kernel | (simp only [List.length_cons, List.length_nil]; omega)) (fun i σ' H' => ∃ (o5 : Option V) (o6 : Option V) (o7 : Option V), (loopNR (m_law_same_l0 actual_ expected_) (Int.toNat ((expected_).length : Int)) (0 : Int) () : Bool ⊕ (Unit)) = (loopNR (m_law_same_l0 actual_ expected_) ((Int.toNat ((expected_).length : Int)) - i) ((0 : Int) + (i : Int)) () : Bool ⊕ (Unit)) ∧ True ∧ σ' = [some v0, some v1, o5, o6, o7] ∧ Sg K Mc H H' [(v0, Dx.toX actual_), (v1, Dx.toX expected_)] []) (fun Hs8 s8 => ⟨_, _, _, (by simp), (by first | trivial | omega | (simp; done) | simp_all), rfl, s8.keep fun _ h => ⟨h.1, ⟨h.2.1, True.intro⟩⟩⟩) (fun i12 x13 σ' Hs11 hx14 hi15 hP => ?_) (fun σ' Hs11 hP => ?_)
      · obtain ⟨o5, o6, o7, he9, hg10, rfl, s11⟩ := hP
        refine z_asgG s11 (hv_at (T3.mk 0 (T3.mk 0 0 0) (Tup.mk [])) (hs_of (hv_var (x := actual_) rfl s11.im.1)) (hv_vI rfl) (by first | omega | decide +kernel | (simp only [List.length_cons, List.length_nil]; omega)) (by first | omega | decide +kernel | (simp only [List.length_cons, List.length_nil]; omega))) fun entry_18 hentry_18 ventry_18 Hs17 s17 => ?_
        try dsimp only at hentry_18
        refine z_ifx (b := (!(m_law_is_integer entry_18.a))) s17 (HT.is (ht_or (HT.is (ht_not (ht_B (K := K) (hv_isi (b := true) (hv_var (x := entry_18) rfl s17.im.1) (by decide +kernel)))) (show _ = false by first | rfl | decide | simp)) (fun hb0 => (ht_or (HT.is (ht_val (K := K) (hv_neI (hv_len3 (hv_var (x := entry_18) rfl s17.im.1)) (hv_int 3))) (show _ = false by first | rfl | decide | simp)) (fun hb1 => (ht_not (ht_B (K := K) (hv_call entry_18.a (hd_cons (hv_t30 (p := entry_18) (hv_var (x := entry_18) rfl s17.im.1)) hd_nil) True.intro))))))) (show _ = (!(m_law_is_integer entry_18.a)) by first | rfl | decide | simp)) (fun hb19 Hs20 s20 => ?_) (fun hb19 Hs21 s21 => ?_)
        · have hb19P := hb19
          try simp only [decide_eq_true_eq, decide_eq_false_iff_not, Bool.not_eq_true', Bool.not_eq_false', Bool.and_eq_true, Bool.or_eq_true, Bool.or_eq_false_iff] at hb19P
          have hf22 : (m_law_same_l0 actual_ expected_) () x13 = Lp.ret false := (by subst hentry_18; first | (simp only [m_law_same_l0, hb1, hb19, if_true, if_false, Bool.false_eq_true, decide_true, decide_false, Option.getD_some, Option.isNone_none, Option.isNone_some, Bool.not_true, Bool.not_false, ↓reduceIte]; done) | (rfl; done) | ((unfold m_law_same_l0); (dsimp only); (first | rw [ifT hb1] | rw [ifF hb1] | skip); (try dsimp only); (first | rw [ifT hb19] | rw [ifF hb19] | skip); (try dsimp only); first | done | rfl) | (exfalso; simp at hb19; done) | (exfalso; simp at hb1; done))
          have hl23 := he9.trans (loopNR_ret hi15 (by (try dsimp only); rw [← hx14]; exact hf22))
          have hF24 : m_law_same actual_ expected_ = false := (by subst hentry_18; first | (simp only [m_law_same, hb1, hb19, hl23, if_true, if_false, Bool.false_eq_true, decide_true, decide_false, Option.getD_some, Option.isNone_none, Option.isNone_some, Bool.not_true, Bool.not_false, ↓reduceIte]; done) | (rfl; done) | ((unfold m_law_same); (dsimp only); (first | rw [ifT hb1] | rw [ifF hb1] | skip); (try dsimp only); (first | rw [ifT hb19] | rw [ifF hb19] | skip); (try dsimp only); (first | rw [hl23] | skip); (try dsimp only); first | done | rfl) | (exfalso; simp at hb19; done) | (exfalso; simp at hb1; done))
          exact zq_ret s20 (hv_bl false) fun v H' e d => q v H' e (by rw [hF24]; exact d)
        · have hb19P := hb19
          try simp only [decide_eq_true_eq, decide_eq_false_iff_not, Bool.not_eq_true', Bool.not_eq_false', Bool.and_eq_true, Bool.or_eq_true, Bool.or_eq_false_iff] at hb19P
          refine z_ifx (b := (!decide (entry_18 = (expected_.getD (Int.toNat x13) (T3.mk 0 (T3.mk 0 0 0) (Tup.mk [])))))) s21 (HT.is (ht_or (HT.is (ht_not (ht_B (K := K) (hv_isi (b := true) (hv_t31 (p := entry_18) (hv_var (x := entry_18) rfl s21.im.1)) (by decide +kernel)))) (show _ = false by first | rfl | decide | simp)) (fun hb0 => (ht_or (HT.is (ht_not (ht_B (K := K) (hv_isi (b := true) (hv_t32 (p := entry_18) (hv_var (x := entry_18) rfl s21.im.1)) (by decide +kernel)))) (show _ = false by first | rfl | decide | simp)) (fun hb1 => (ht_val (K := K) (hv_neT (hv_whole s21 (hv_var (x := entry_18) rfl s21.im.1)) (hv_whole s21 (hv_at (T3.mk 0 (T3.mk 0 0 0) (Tup.mk [])) (hs_of (hv_var (x := expected_) rfl s21.im.2.2.1)) (hv_vI rfl) (by first | omega | decide +kernel | (simp only [List.length_cons, List.length_nil]; omega)) (by first | omega | decide +kernel | (simp only [List.length_cons, List.length_nil]; omega)))))))))) (show _ = (!decide (entry_18 = (expected_.getD (Int.toNat x13) (T3.mk 0 (T3.mk 0 0 0) (Tup.mk []))))) by first | rfl | decide | simp)) (fun hb25 Hs26 s26 => ?_) (fun hb25 Hs27 s27 => ?_)
          · have hb25P := hb25
            try simp only [decide_eq_true_eq, decide_eq_false_iff_not, Bool.not_eq_true', Bool.not_eq_false', Bool.and_eq_true, Bool.or_eq_true, Bool.or_eq_false_iff] at hb25P
            have hf28 : (m_law_same_l0 actual_ expected_) () x13 = Lp.ret false := (by subst hentry_18; first | (simp only [m_law_same_l0, hb1, hb19, hb25, if_true, if_false, Bool.false_eq_true, decide_true, decide_false, Option.getD_some, Option.isNone_none, Option.isNone_some, Bool.not_true, Bool.not_false, ↓reduceIte]; done) | (rfl; done) | ((unfold m_law_same_l0); (dsimp only); (first | rw [ifT hb1] | rw [ifF hb1] | skip); (try dsimp only); (first | rw [ifT hb19] | rw [ifF hb19] | skip); (try dsimp only); (first | rw [ifT hb25] | rw [ifF hb25] | skip); (try dsimp only); first | done | rfl) | (exfalso; simp at hb25; done) | (exfalso; simp at hb19; done) | (exfalso; simp at hb1; done))
            have hl29 := he9.trans (loopNR_ret hi15 (by (try dsimp only); rw [← hx14]; exact hf28))
            have hF30 : m_law_same actual_ expected_ = false := (by subst hentry_18; first | (simp only [m_law_same, hb1, hb19, hb25, hl29, if_true, if_false, Bool.false_eq_true, decide_true, decide_false, Option.getD_some, Option.isNone_none, Option.isNone_some, Bool.not_true, Bool.not_false, ↓reduceIte]; done) | (rfl; done) | ((unfold m_law_same); (dsimp only); (first | rw [ifT hb1] | rw [ifF hb1] | skip); (try dsimp only); (first | rw [ifT hb19] | rw [ifF hb19] | skip); (try dsimp only); (first | rw [ifT hb25] | rw [ifF hb25] | skip); (try dsimp only); (first | rw [hl29] | skip); (try dsimp only); first | done | rfl) | (exfalso; simp at hb25; done) | (exfalso; simp at hb19; done) | (exfalso; simp at hb1; done))
            exact zq_ret s26 (hv_bl false) fun v H' e d => q v H' e (by rw [hF30]; exact d)
          · have hb25P := hb25
            try simp only [decide_eq_true_eq, decide_eq_false_iff_not, Bool.not_eq_true', Bool.not_eq_false', Bool.and_eq_true, Bool.or_eq_true, Bool.or_eq_false_iff] at hb25P
            refine zq_forV s27 (hv_t32 (p := entry_18) (hv_var (x := entry_18) rfl s27.im.1)) (fun vsrc1 i σ' H' => ∃ (o31 : Option V), (loopL m_law_same_l1 (PySem.W.Tup.items entry_18.c) () : Bool ⊕ (Unit)) = (loopL m_law_same_l1 (List.drop i (PySem.W.Tup.items entry_18.c)) () : Bool ⊕ (Unit)) ∧ True ∧ σ' = [some v0, some v1, some (V.int x13), some ventry_18, o31] ∧ Sg K Mc H H' [(vsrc1, Dx.toX entry_18.c), (ventry_18, Dx.toX entry_18), (v0, Dx.toX actual_), (v1, Dx.toX expected_)] []) (fun vsrc1 Hs32 s32 => ⟨_, rfl, (by first | trivial | omega | (simp; done) | simp_all), rfl, s32.keep fun _ h => ⟨h.1, ⟨h.2.1, ⟨h.2.2.1, ⟨h.2.2.2.1, True.intro⟩⟩⟩⟩⟩) (fun vsrc1 i σ' H' hP => by obtain ⟨o31, he, hg, hs, hS⟩ := hP; exact hS.im.1) (fun vsrc1 i36 x37 wx37 σ' Hs35 hi39 hP hx38 => ?_) (fun vsrc1 σ' Hs35 hP => ?_)
            · obtain ⟨o31, he33, hg34, rfl, s35⟩ := hP
              have qx37 := (List.getElem?_eq_some_iff.mp hi39).1
              have s41 := s35.put hx38
              refine z_ifx (b := false) s41 (HT.is (ht_not (ht_B (K := K) (hv_isi (b := true) (hv_var (x := x37) rfl s41.im.1) (by decide +kernel)))) (show _ = false by first | rfl | decide | simp)) (fun hb => absurd hb Bool.false_ne_true) (fun _ Hs42 s42 => ?_)
              have hf43 : m_law_same_l1 () x37 = Lp.nxt () := (by subst hentry_18; first | (simp only [m_law_same_l1, hb1, hb19, hb25, if_true, if_false, Bool.false_eq_true, decide_true, decide_false, Option.getD_some, Option.isNone_none, Option.isNone_some, Bool.not_true, Bool.not_false, ↓reduceIte]; done) | (rfl; done) | ((unfold m_law_same_l1); (dsimp only); (first | rw [ifT hb1] | rw [ifF hb1] | skip); (try dsimp only); (first | rw [ifT hb19] | rw [ifF hb19] | skip); (try dsimp only); (first | rw [ifT hb25] | rw [ifF hb25] | skip); (try dsimp only); first | done | rfl) | (exfalso; simp at hb25; done) | (exfalso; simp at hb19; done) | (exfalso; simp at hb1; done))
              exact ⟨_, he33.trans (loopL_nxt hi39 hf43), (by first | trivial | omega | (simp_all; done) | (simp_all; omega)), rfl, s42.keep fun _ h => ⟨h.2.1, ⟨h.2.2.1, ⟨h.2.2.2.1, ⟨h.2.2.2.2.1, True.intro⟩⟩⟩⟩⟩
            · obtain ⟨o44, he46, hg47, rfl, s45⟩ := hP
              rw [loopL_end] at he46
              have hf48 : (m_law_same_l0 actual_ expected_) () x13 = Lp.nxt () := (by subst hentry_18; first | (simp only [m_law_same_l0, hb1, hb19, hb25, he46, if_true, if_false, Bool.false_eq_true, decide_true, decide_false, Option.getD_some, Option.isNone_none, Option.isNone_some, Bool.not_true, Bool.not_false, ↓reduceIte]; done) | (rfl; done) | ((unfold m_law_same_l0); (dsimp only); (first | rw [ifT hb1] | rw [ifF hb1] | skip); (try dsimp only); (first | rw [ifT hb19] | rw [ifF hb19] | skip); (try dsimp only); (first | rw [ifT hb25] | rw [ifF hb25] | skip); (try dsimp only); (first | rw [he46] | skip); (try dsimp only); first | done | rfl) | (exfalso; simp at hb25; done) | (exfalso; simp at hb19; done) | (exfalso; simp at hb1; done))
              exact ⟨_, _, _, he9.trans (loopNR_nxt hi15 (by rw [← hx14]; exact hf48)), (by first | trivial | omega | (simp_all; done) | (simp_all; omega)), rfl, s45.keep fun _ h => ⟨h.2.2.1, ⟨h.2.2.2.1, True.intro⟩⟩⟩
      · obtain ⟨o49, o50, o51, he53, hg54, rfl, s52⟩ := hP
        rw [loopNR_end] at he53
        have hF55 : m_law_same actual_ expected_ = true := (by  first | (simp only [m_law_same, hb1, he53, if_true, if_false, Bool.false_eq_true, decide_true, decide_false, Option.getD_some, Option.isNone_none, Option.isNone_some, Bool.not_true, Bool.not_false, ↓reduceIte]; done) | (rfl; done) | ((unfold m_law_same); (dsimp only); (first | rw [ifT hb1] | rw [ifF hb1] | skip); (try dsimp only); (first | rw [he53] | skip); (try dsimp only); first | done | rfl) | (exfalso; simp at hb1; done))
        exact zq_ret s52 (hv_bl true) fun v H' e d => q v H' e (by rw [hF55]; exact d)
theorem getD_snoc {α : Type} {L : List α} {x d : α} {n : Nat} (h : L.length = n) : (L ++ [x]).getD n d = x := by
  rw [List.getD_eq_getElem?_getD, List.getElem?_append_right (by omega), h, Nat.sub_self]; rfl
def mvsOf (mo : List (List Mov)) (p : Nat) : List Mov := mo.getD (p - 1) []
def rowsOf (mo : List (List Mov)) (sk : Int) : Nat → List WRow
  | 0 => [m_start_row sk]
  | i + 1 => rowsOf mo sk i ++ [m_make_row (rowsOf mo sk i) ((i : Int) + 1) (mo.getD i [])]
structure MoOk (mo : List (List Mov)) : Prop where
  len : mo.length ≤ 4
  mv : ∀ i, i < mo.length → ∀ m ∈ mo.getD i [], 0 ≤ m.a ∧ m.a ≤ (i : Int) ∧ 0 ≤ m.c ∧ m.c ≤ 2
  ml : ∀ i, i < mo.length → (mo.getD i []).length ≤ 36
  um : ∀ m ∈ mo, Um m
theorem mo_ok (ns : List Int) {n sk : Int} (hn : 1 ≤ n ∧ n ≤ 4) : MoOk (List.map (fun (c_ : Int) => (m_law_moves ns (c_ + (1 : Int)) sk)) (irng (0 : Int) (Int.toNat n))) ∧ (List.map (fun (c_ : Int) => (m_law_moves ns (c_ + (1 : Int)) sk)) (irng (0 : Int) (Int.toNat n))).length = n.toNat := by
  have hl : (List.map (fun (c_ : Int) => (m_law_moves ns (c_ + (1 : Int)) sk)) (irng (0 : Int) (Int.toNat n))).length = n.toNat := by rw [List.length_map, irng_len]
  have at_ : ∀ i, i < n.toNat → (List.map (fun (c_ : Int) => (m_law_moves ns (c_ + (1 : Int)) sk)) (irng (0 : Int) (Int.toNat n))).getD i [] = m_law_moves ns ((i : Int) + 1) sk := fun i hi => by
    rw [List.getD_eq_getElem?_getD, List.getElem?_map, irng_get hi]
    show m_law_moves ns (0 + (i : Int) + 1) sk = _
    rw [Int.zero_add]
  refine ⟨⟨by omega, fun i hi m hm => ?_, fun i hi => ?_, fun m hm => ?_⟩, hl⟩
  · rw [at_ i (by omega)] at hm
    have := moves_in hm
    omega
  · rw [at_ i (by omega)]
    exact moves_len (by omega)
  · obtain ⟨x, _, rfl⟩ := List.mem_map.mp hm
    exact moves_um _ _ _
theorem way_small {mo : List (List Mov)} (h : MoOk mo) {sk : Int} (hs : 0 ≤ sk ∧ sk ≤ 2) {p : Nat} {t : Int} {q : WPt} (w : Way (mvsOf mo) sk p t q) : p ≤ mo.length → (0 ≤ t ∧ t ≤ 2) ∧ q.2.items.length ≤ p := by
  induction w with
  | start => exact fun _ => ⟨hs, Nat.le_refl _⟩
  | step hm h0 hl hw ih =>
    rename_i p m q
    intro hp
    have := h.mv (p - 1) (by omega) m hm
    refine ⟨by omega, ?_⟩
    show (q.2.items ++ [_]).length ≤ p
    rw [List.length_append, List.length_singleton]
    have := (ih (by omega)).2
    omega
theorem rows_len {mo : List (List Mov)} {sk : Int} : ∀ i, (rowsOf mo sk i).length = i + 1
  | 0 => rfl
  | i + 1 => by rw [rowsOf, List.length_append, rows_len i]; rfl
theorem rows_is {mo : List (List Mov)} (h : MoOk mo) {sk : Int} : ∀ i, i ≤ mo.length → ∀ s, s ≤ i → RowIs ((rowsOf mo sk i).getD s []) (fun t q => Way (mvsOf mo) sk s t q)
  | 0, _, s, hs => by
    obtain rfl : s = 0 := by omega
    exact start_is sk
  | i + 1, hi, s, hs => by
    have ih := rows_is h (sk := sk) i (by omega)
    rw [rowsOf]
    by_cases q : s ≤ i
    · rw [List.getD_eq_getElem?_getD, List.getElem?_append_left (by rw [rows_len]; omega), ← List.getD_eq_getElem?_getD]
      exact ih s q
    · obtain rfl : s = i + 1 := by omega
      rw [List.getD_eq_getElem?_getD, List.getElem?_append_right (by rw [rows_len]; exact Nat.le_refl _), rows_len, Nat.sub_self]
      have := row_step (mvs := mvsOf mo) (k0 := sk) (rows := rowsOf mo sk i) (p := i + 1) (by omega) (fun m hm => by
        have := h.mv i (by omega) m hm
        omega) (rows_len i) (fun s hs => ih s (by omega))
      rw [show ((i + 1 : Nat) : Int) = (i : Int) + 1 by omega] at this
      exact this
theorem asc_len : ∀ (L : List Int) (lo hi : Int), L.Pairwise (· < ·) → (∀ x ∈ L, lo ≤ x ∧ x ≤ hi) → (L.length : Int) ≤ max 0 (hi - lo + 1)
  | [], lo, hi, _, _ => by simp; omega
  | x :: L, lo, hi, h, b => by
    have h2 := List.pairwise_cons.mp h
    have := asc_len L (x + 1) hi h2.2 (fun y hy => ⟨by have := h2.1 y hy; omega, (b y (List.mem_cons_of_mem _ hy)).2⟩)
    have hx := b x List.mem_cons_self
    rw [List.length_cons]
    omega
theorem row_small {mo : List (List Mov)} (h : MoOk mo) {sk : Int} (hs : 0 ≤ sk ∧ sk ≤ 2) {p : Nat} (hp : p ≤ mo.length) {r : WRow} (hr : RowIs r (fun t q => Way (mvsOf mo) sk p t q)) : r.length ≤ 1000 ∧ ∀ x ∈ r, x.c.items.length ≤ 1000 := by
  have el : ∀ x ∈ r, Way (mvsOf mo) sk p x.a (x.b, x.c) := fun x hx => ((hr.2 x.a).1 _ ((look_mem hr.1).mp hx)).1
  have hl := h.len
  refine ⟨?_, fun x hx => by have := (way_small h hs (el x hx) hp).2; dsimp only at this; omega⟩
  have := asc_len (r.map fun x : T3 Int Cst (Tup (Int × Int)) => x.a) 0 2 (show Asc r from hr.1) (fun y hy => by
    obtain ⟨x, hx, rfl⟩ := List.mem_map.mp hy
    exact (way_small h hs (el x hx) hp).1)
  rw [List.length_map] at this
  omega
theorem rows_small {mo : List (List Mov)} (h : MoOk mo) {sk : Int} (hs : 0 ≤ sk ∧ sk ≤ 2) {i : Nat} (hi : i ≤ mo.length) : ∀ r ∈ rowsOf mo sk i, r.length ≤ 1000 ∧ ∀ x ∈ r, x.c.items.length ≤ 1000 := fun r hr => by
  obtain ⟨s, hs2⟩ := List.mem_iff_getElem?.mp hr
  have hl := (List.getElem?_eq_some_iff.mp hs2).1
  rw [rows_len] at hl
  have := rows_is h (sk := sk) i hi s (by omega)
  rw [List.getD_eq_getElem?_getD, hs2] at this
  exact row_small h hs (show s ≤ mo.length by omega) this
theorem mr_pre {mo : List (List Mov)} (h : MoOk mo) {sk x : Int} (hs : 0 ≤ sk ∧ sk ≤ 2) {i : Nat} (hi : i < mo.length) {rows : List WRow} (e : rows = rowsOf mo sk i) (hx : x = 1 + (i : Int)) {ms : List Mov} (hm : ms = mo.getD (x - 1).toNat []) :
    ms.length ≤ 60 ∧ (∀ r ∈ rows, r.length ≤ 1000 ∧ ∀ x ∈ r, x.c.items.length ≤ 1000) ∧ ∀ m ∈ ms, 0 ≤ m.a ∧ m.a < (rows.length : Int) := by
  subst e hx hm
  rw [show (1 + (i : Int) - 1).toNat = i by omega, rows_len]
  have := h.ml i hi
  refine ⟨by omega, rows_small h hs (by omega), fun m hm => ?_⟩
  have := h.mv i hi m hm
  omega
theorem rows_next {mo : List (List Mov)} {sk x : Int} {i : Nat} {rows rows' : List WRow} {row : WRow} {ms : List Mov} (e : rows = rowsOf mo sk i) (hx : x = 1 + (i : Int)) (hm : ms = mo.getD (x - 1).toNat []) (hr : row = m_make_row rows x ms) (hy : rows' = rows ++ [row]) : rows' = rowsOf mo sk (i + 1) := by
  subst e hx hm
  rw [rowsOf, hy, hr, show (1 + (i : Int) - 1).toNat = i by omega, Int.add_comm]
/-! all ways -/
theorem foldl_ind {α S : Type} {f : S → α → S} (P : Nat → S → Prop) : ∀ (xs : List α) (i : Nat) (s : S), P i s → (∀ j x s, xs[j]? = some x → P (i + j) s → P (i + j + 1) (f s x)) → P (i + xs.length) (xs.foldl f s)
  | [], i, s, h0, _ => h0
  | x :: xs, i, s, h0, h => by
    rw [List.foldl_cons, List.length_cons, show i + (xs.length + 1) = (i + 1) + xs.length by omega]
    exact foldl_ind P xs (i + 1) _ (h 0 x s rfl h0) fun j y s' hj hp => by
      rw [show i + 1 + j = i + (j + 1) by omega] at hp ⊢
      exact h (j + 1) y s' (by simpa using hj) hp
structure AwI (mo : List (List Mov)) (sk : Int) (i : Nat) (s : List (T4 Int Int Cst (Tup (Int × Int))) × Int) : Prop where
  pos : s.2 = 1 + (i : Int)
  len : s.1.length ≤ 4 ^ i
  all : ∀ w : T4 Int Int Cst (Tup (Int × Int)), w ∈ s.1 ↔ 0 ≤ w.a ∧ w.a ≤ (i : Int) ∧ Way (mvsOf mo) sk w.a.toNat w.b (w.c, w.d)
theorem aw_all {mo : List (List Mov)} (h : MoOk mo) (sk : Int) : ∃ po, AwI mo sk mo.length (m_law_all_ways sk mo, po) := by
  have key := foldl_ind (f := m_law_all_ways_l0) (AwI mo sk) mo 0 ([T4.mk (0 : Int) sk (T3.mk (0 : Int) (0 : Int) (0 : Int)) (Tup.mk [])], 1) ⟨rfl, Nat.le_refl _, fun w => by
    constructor
    · intro hw
      obtain rfl := List.mem_singleton.mp hw
      exact ⟨Int.le_refl _, Int.le_refl _, .start⟩
    · rintro ⟨h0, h1, hw⟩
      obtain ⟨a, b, c, d⟩ := w
      dsimp only at h0 h1 hw
      obtain rfl : a = 0 := by omega
      rw [show (0 : Int).toNat = 0 from rfl] at hw
      generalize hp : (0 : Nat) = p at hw
      generalize hq : ((c, d) : WPt) = q at hw
      cases hw with
      | start =>
        simp only [Prod.mk.injEq] at hq
        rw [hq.1, hq.2]
        exact List.mem_singleton.mpr rfl
      | step _ _ hl _ => omega⟩ (fun j ms s hj I => by
    rw [Nat.zero_add] at I ⊢
    obtain ⟨ws, po⟩ := s
    obtain ⟨I1, I2, I3⟩ := I
    dsimp only at I1 I2 I3
    subst I1
    have hjl := (List.getElem?_eq_some_iff.mp hj).1
    have um := h.um ms (List.mem_of_getElem? hj)
    have eg : mo.getD j [] = ms := by rw [List.getD_eq_getElem?_getD, hj]; rfl
    have mv := h.mv j hjl
    rw [eg] at mv
    have e0 : m_law_all_ways_l0 (ws, 1 + (j : Int)) ms = (ws ++ ws.flatMap (awOne ms (1 + (j : Int))), 1 + (j : Int) + 1) := by
      unfold m_law_all_ways_l0
      dsimp only
      rw [aw1_eq]
      rfl
    rw [e0]
    refine ⟨by dsimp only; omega, ?_, fun w => ?_⟩
    · dsimp only
      rw [List.length_append, Nat.pow_succ]
      have := flat_le (f := awOne ms (1 + (j : Int))) ws fun x _ => awOne_len um _ x
      omega
    · dsimp only
      rw [List.mem_append]
      constructor
      · rintro (hw | hw)
        · have := (I3 w).mp hw
          exact ⟨this.1, by omega, this.2.2⟩
        · obtain ⟨y, hy, hw⟩ := List.mem_flatMap.mp hw
          unfold awOne at hw
          obtain ⟨m, hm, rfl⟩ := List.mem_map.mp hw
          obtain ⟨hm1, hm2⟩ := List.mem_filter.mp hm
          simp only [Bool.and_eq_true, decide_eq_true_eq] at hm2
          have hy3 := (I3 y).mp hy
          have hmv := mv m hm1
          refine ⟨by dsimp only; omega, by dsimp only; omega, ?_⟩
          dsimp only
          have ep : (1 + (j : Int)).toNat = j + 1 := by omega
          rw [ep]
          have st := Way.step (mvs := mvsOf mo) (k0 := sk) (p := j + 1) (m := m) (q := (y.c, y.d)) (by unfold mvsOf; rw [Nat.add_sub_cancel, eg]; exact hm1) hmv.1 (by omega) (by rw [hm2.1, hm2.2]; exact hy3.2.2)
          unfold ext m_add_costs at st
          dsimp only at st
          rw [show ((j + 1 : Nat) : Int) = 1 + (j : Int) by omega] at st
          exact st
      · rintro ⟨h0, h1, hw⟩
        by_cases q : w.a ≤ (j : Int)
        · exact .inl ((I3 w).mpr ⟨h0, q, hw⟩)
        · refine .inr ?_
          have ea : w.a = 1 + (j : Int) := by omega
          obtain ⟨a, b, c, d⟩ := w
          dsimp only at h0 h1 hw q ea
          subst ea
          rw [show (1 + (j : Int)).toNat = j + 1 by omega] at hw
          generalize hp : j + 1 = p at hw
          generalize hq : ((c, d) : WPt) = qq at hw
          cases hw with
          | start => omega
          | step hm m0 hl hw2 =>
            rename_i m q0
            subst hp
            unfold mvsOf at hm
            rw [Nat.add_sub_cancel, eg] at hm
            have hmv := mv m hm
            refine List.mem_flatMap.mpr ⟨T4.mk m.a m.b q0.1 q0.2, (I3 _).mpr ⟨m0, hmv.2.1, hw2⟩, ?_⟩
            unfold awOne
            refine List.mem_map.mpr ⟨m, List.mem_filter.mpr ⟨hm, by simp⟩, ?_⟩
            unfold ext m_add_costs at hq
            simp only [Prod.mk.injEq] at hq
            rw [hq.1, hq.2, show ((j + 1 : Nat) : Int) = 1 + (j : Int) by omega])
  rw [Nat.zero_add] at key
  exact ⟨_, key⟩
theorem aw_small {mo : List (List Mov)} (h : MoOk mo) {sk : Int} (hs : 0 ≤ sk ∧ sk ≤ 2) : (m_law_all_ways sk mo).length ≤ 1000 ∧ ∀ x ∈ m_law_all_ways sk mo, x.d.items.length ≤ 1000 := by
  obtain ⟨po, I⟩ := aw_all h sk
  have := I.len
  have p4 := pow4 h.len
  have hl := h.len
  dsimp only at this
  refine ⟨by omega, fun x hx => ?_⟩
  have k := (I.all x).mp hx
  have := (way_small h hs k.2.2 (by omega)).2
  dsimp only at this
  omega
def enR (k : Int) : Option WPt → WRow
  | none => []
  | some b => [T3.mk k b.1 b.2]
def bestW (ways : List (T4 Int Int Cst (Tup (Int × Int)))) (p k : Int) : Option WPt := List.foldl (m_law_expected_l1 p k) none ways
theorem exp_eq (ways : List (T4 Int Int Cst (Tup (Int × Int)))) (p : Int) : m_law_expected ways p = enR 0 (bestW ways p 0) ++ enR 1 (bestW ways p 1) ++ enR 2 (bestW ways p 2) := by
  have one : ∀ (s : WRow) (k : Int), m_law_expected_l0 ways p s k = s ++ enR k (bestW ways p k) := fun s k => by
    unfold m_law_expected_l0
    show (if (!(Option.isNone (bestW ways p k))) = true then s ++ [T3.mk k (Option.getD (bestW ways p k) ((T3.mk 0 0 0), (Tup.mk []))).1 (Option.getD (bestW ways p k) ((T3.mk 0 0 0), (Tup.mk []))).2] else s) = _
    cases bestW ways p k with
    | none => simp [enR]
    | some b => simp [enR]
  show m_law_expected_l0 ways p (m_law_expected_l0 ways p (m_law_expected_l0 ways p [] 0) (0 + 1)) (0 + 1 + 1) = _
  rw [one, one, one]
  rfl
theorem enR_len (k : Int) (o : Option WPt) : (enR k o).length ≤ 1 := by cases o <;> simp [enR]
theorem exp_len (ways : List (T4 Int Int Cst (Tup (Int × Int)))) (p : Int) : (m_law_expected ways p).length ≤ 3 := by
  rw [exp_eq, List.length_append, List.length_append]
  have h0 := enR_len 0 (bestW ways p 0)
  have h1 := enR_len 1 (bestW ways p 1)
  have h2 := enR_len 2 (bestW ways p 2)
  omega
theorem best_is (p k : Int) : ∀ (ws done : List (T4 Int Int Cst (Tup (Int × Int)))) (o : Option WPt), IsLeast (fun q => ∃ w ∈ done, w.a = p ∧ w.b = k ∧ (w.c, w.d) = q) o → IsLeast (fun q => ∃ w ∈ done ++ ws, w.a = p ∧ w.b = k ∧ (w.c, w.d) = q) (List.foldl (m_law_expected_l1 p k) o ws)
  | [], done, o, h => by rw [List.append_nil]; exact h
  | w :: ws, done, o, h => by
    rw [List.foldl_cons]
    have := best_is p k ws (done ++ [w]) (m_law_expected_l1 p k o w) ?_
    · rw [List.append_assoc] at this; exact this
    · unfold m_law_expected_l1
      dsimp only
      by_cases c : (decide (w.a = p) && decide (w.b = k)) = true
      · rw [if_pos c]
        simp only [Bool.and_eq_true, decide_eq_true_eq] at c
        have same : ∀ q, ((∃ x ∈ done, x.a = p ∧ x.b = k ∧ (x.c, x.d) = q) ∨ q = (w.c, w.d)) ↔ ∃ x ∈ done ++ [w], x.a = p ∧ x.b = k ∧ (x.c, x.d) = q := fun q => by
          constructor
          · rintro (⟨x, hx, h⟩ | rfl)
            · exact ⟨x, List.mem_append_left _ hx, h⟩
            · exact ⟨w, List.mem_append_right _ (List.mem_singleton.mpr rfl), c.1, c.2, rfl⟩
          · rintro ⟨x, hx, h⟩
            rcases List.mem_append.mp hx with hx | hx
            · exact .inl ⟨x, hx, h⟩
            · obtain rfl := List.mem_singleton.mp hx
              exact .inr h.2.2.symm
        cases o with
        | none =>
          rw [if_pos (by rfl)]
          exact (h.put fun p hp => nomatch hp).congr same
        | some b =>
          by_cases c2 : DatumOrd.lt (w.c, w.d) b = true
          · rw [if_pos (by simp [c2])]
            exact (h.put fun p hp => by cases hp; exact c2).congr same
          · rw [if_neg (by simp [c2])]
            exact (h.keep (by simpa using c2)).congr same
      · rw [if_neg c]
        refine h.congr fun q => ⟨fun ⟨x, hx, h⟩ => ⟨x, List.mem_append_left _ hx, h⟩, fun ⟨x, hx, h⟩ => ?_⟩
        rcases List.mem_append.mp hx with hx | hx
        · exact ⟨x, hx, h⟩
        · obtain rfl := List.mem_singleton.mp hx
          exact absurd (by simp [h.1, h.2.1]) c
theorem exp_is {ways : List (T4 Int Int Cst (Tup (Int × Int)))} {p : Int} (hk : ∀ w ∈ ways, w.a = p → 0 ≤ w.b ∧ w.b ≤ 2) : RowIs (m_law_expected ways p) (fun t q => ∃ w ∈ ways, w.a = p ∧ w.b = t ∧ (w.c, w.d) = q) := by
  have b : ∀ k, IsLeast (fun q => ∃ w ∈ ways, w.a = p ∧ w.b = k ∧ (w.c, w.d) = q) (bestW ways p k) := fun k => by
    have := best_is p k ways [] none ⟨fun p hp => (nomatch hp), fun _ q h => by obtain ⟨w, hw, _⟩ := h; cases hw⟩
    exact this
  rw [exp_eq]
  refine ⟨?_, fun t => ?_⟩
  · unfold Asc
    cases bestW ways p 0 <;> cases bestW ways p 1 <;> cases bestW ways p 2 <;> simp [enR]
  · have e : lookR (enR 0 (bestW ways p 0) ++ enR 1 (bestW ways p 1) ++ enR 2 (bestW ways p 2)) t = if t = 0 then bestW ways p 0 else if t = 1 then bestW ways p 1 else if t = 2 then bestW ways p 2 else none := by
      unfold lookR
      by_cases h0 : t = 0
      · subst h0
        cases bestW ways p 0 <;> cases bestW ways p 1 <;> cases bestW ways p 2 <;> simp [enR]
      · by_cases h1 : t = 1
        · subst h1
          cases bestW ways p 0 <;> cases bestW ways p 1 <;> cases bestW ways p 2 <;> simp [enR]
        · by_cases h2 : t = 2
          · subst h2
            cases bestW ways p 0 <;> cases bestW ways p 1 <;> cases bestW ways p 2 <;> simp [enR]
          · rw [if_neg h0, if_neg h1, if_neg h2]
            have k0 : ¬ (0 : Int) = t := fun z => h0 z.symm
            have k1 : ¬ (1 : Int) = t := fun z => h1 z.symm
            have k2 : ¬ (2 : Int) = t := fun z => h2 z.symm
            cases bestW ways p 0 <;> cases bestW ways p 1 <;> cases bestW ways p 2 <;> simp [enR, k0, k1, k2]
    rw [e]
    by_cases h0 : t = 0
    · subst h0; rw [if_pos rfl]; exact b 0
    · by_cases h1 : t = 1
      · subst h1; exact b 1
      · by_cases h2 : t = 2
        · subst h2; exact b 2
        · rw [if_neg h0, if_neg h1, if_neg h2]
          refine ⟨fun p hp => (nomatch hp), fun _ q ⟨w, hw, h3, h4, _⟩ => ?_⟩
          have := hk w hw h3
          omega

def m_law_l0 (moves_of_ : (List (List (T4 Int Int Int (T3 Int Int Int))))) (ways_ : (List (T4 Int Int (T3 Int Int Int) (Tup (Int × Int))))) (s_ : (List (List (T3 Int (T3 Int Int Int) (Tup (Int × Int)))))) (x_ : Int) : Lp Bool ((List (List (T3 Int (T3 Int Int Int) (Tup (Int × Int)))))) :=
  let rows_ : (List (List (T3 Int (T3 Int Int Int) (Tup (Int × Int))))) := s_
  let position_ : Int := x_
  let moves_ : (List (T4 Int Int Int (T3 Int Int Int))) := (moves_of_.getD (Int.toNat (position_ - (1 : Int))) [])
  let kept_ : (List (List (T3 Int (T3 Int Int Int) (Tup (Int × Int))))) := (List.map (fun (c_ : (List (T3 Int (T3 Int Int Int) (Tup (Int × Int))))) => c_) rows_)
  let row_ : (List (T3 Int (T3 Int Int Int) (Tup (Int × Int)))) := (m_make_row rows_ position_ moves_)
  if ((!decide (moves_ = (moves_of_.getD (Int.toNat (position_ - (1 : Int))) []))) || (!decide ((List.map (fun (c_ : (List (T3 Int (T3 Int Int Int) (Tup (Int × Int))))) => c_) rows_) = kept_))) = true then
    Lp.ret false
  else
    if (!(m_law_same row_ (m_law_expected ways_ position_))) = true then
      Lp.ret false
    else
      let rows_ : (List (List (T3 Int (T3 Int Int Int) (Tup (Int × Int))))) := rows_ ++ [row_]
      Lp.nxt rows_
def m_law (script_ : (List Int)) : Bool :=
  let count_ : Int := ((1 : Int) + ((m_law_cell script_ (0 : Int)) % (4 : Int)))
  let start_key_ : Int := ((m_law_cell script_ (2 : Int)) % (3 : Int))
  let moves_of_ : (List (List (T4 Int Int Int (T3 Int Int Int)))) := (List.map (fun (c_ : Int) => (m_law_moves script_ (c_ + (1 : Int)) start_key_)) (irng (0 : Int) (Int.toNat count_)))
  let ways_ : (List (T4 Int Int (T3 Int Int Int) (Tup (Int × Int)))) := (m_law_all_ways start_key_ moves_of_)
  let rows_ : (List (List (T3 Int (T3 Int Int Int) (Tup (Int × Int))))) := [(m_start_row start_key_)]
  if (!(m_law_same (rows_.getD (Int.toNat (0 : Int)) []) [(T3.mk start_key_ (T3.mk (0 : Int) (0 : Int) (0 : Int)) (Tup.mk []))])) = true then
    false
  else
    match (loopNR (m_law_l0 moves_of_ ways_) (Int.toNat ((count_ + (1 : Int)) - (1 : Int))) (1 : Int) rows_ : Bool ⊕ ((List (List (T3 Int (T3 Int Int Int) (Tup (Int × Int))))))) with
    | .inl rr_ => rr_
    | .inr r0_ =>
      let rows_ : (List (List (T3 Int (T3 Int Int Int) (Tup (Int × Int))))) := r0_
      true
abbrev s_law : Stmt := (topS 13)
theorem sc_law : FnScope ["script", "count", "start_key", "moves_of", "k", "ways", "rows", "position", "moves", "kept", "row", "each"] ["script"] (defScope s_law) := ⟨rfl, rfl, rfl, by decide +kernel, rfl, by decide +kernel, by decide +kernel⟩
abbrev sp_law (K : PySem.W.Frag) : Sp := PrD K (fun c : (List Int) => [Dx.toX c]) (fun c => True) (fun c => (m_law c : Bool))
theorem ok_law (T : Txt K mg) : FnOk P w K mg base CX0 3 T.f_law T.d_law ["script"] (sp_law K) := by
  refine T.u_law.ok sc_law (fun vs H Q E h => ?_) (fun cdv A outer s H vs Q E hr h => ?_)
  · obtain ⟨Mc, c, mok, da, pre, q⟩ := h
    exact (dpa_len da)
  · obtain ⟨Mc, c, mok, da, pre, q⟩ := h
    obtain ⟨script_, rfl⟩ : ∃ z, z = c := ⟨c, rfl⟩
    dsimp only at da pre q
    obtain ⟨v0, w0, rfl, d0, da0⟩ := dpa_inv da
    cases dpa_inv0 da0
    have s0 : Sg K Mc H H [(v0, Dx.toX script_)] [] := Sg.enter mok ⟨d0, True.intro⟩
    refine ⟨_, (pss_cons (ps_set (i := 1) sc_law.nd rfl (.inl rfl) (pe_op op_add pe_int (pe_op op_mod (pe_call (ok_law_cell T) (hr.mono (by decide)) (by rfl) T.g_law_cell T.u_law_cell.kp T.b_law_cell .nil pass0 (pa_cons (pv 0) (pa_cons pe_int pa_nil))) pe_int))) (pss_cons (ps_set (i := 2) sc_law.nd rfl (.inr rfl) (pe_op op_mod (pe_call (ok_law_cell T) (hr.mono (by decide)) (by rfl) T.g_law_cell T.u_law_cell.kp T.b_law_cell .nil pass0 (pa_cons (pv 0) (pa_cons pe_int pa_nil))) pe_int)) (pss_cons (ps_setLc (i := 3) rfl sc_law.nd rfl rfl (sw_true rfl rfl rfl (by decide +kernel)) (own := [("k", 4)]) (g := gName 4) (pi_range1 (by rfl) T.n_range (pa_cons (pv 1) pa_nil)) (blkOk_by (own := [("k", 4)]) (N := ["script", "count", "start_key", "moves_of", "k", "ways", "rows", "position", "moves", "kept", "row", "each"]) (sc := defScope s_law) (by decide +kernel)) (fun _ _ _ _ _ => (pg_name (i := 4) sc_law.nd rfl (Or.inl rfl) (.inr (by rfl)))) (fun _ _ _ _ _ => pts_nil) (fun _ _ _ _ _ => (pe_call (ok_law_moves T) hr (by rfl) T.g_law_moves T.u_law_moves.kp T.b_law_moves .nil pass0 (pa_cons (pv 0) (pa_cons (pe_op op_add (pv 4) pe_int) (pa_cons (pv 2) pa_nil)))))) (pss_cons (ps_set (i := 5) sc_law.nd rfl (.inl rfl) (pe_call (ok_law_all_ways T) (hr.mono (by decide)) (by rfl) T.g_law_all_ways T.u_law_all_ways.kp T.b_law_all_ways .nil pass0 (pa_cons (pv 2) (pa_cons (pv 3) pa_nil)))) (pss_cons (ps_set (i := 6) sc_law.nd rfl (.inl rfl) (pe_lst (pa_cons (pe_call (ok_start_row T) (hr.mono (by decide)) (by rfl) T.g_start_row T.u_start_row.kp T.b_start_row .nil pass0 (pa_cons (pv 2) pa_nil)) pa_nil))) (pss_cons (ps_if (pt_not (pt_val (pe_call (ok_law_same T) hr (by rfl) T.g_law_same T.u_law_same.kp T.b_law_same .nil pass0 (pa_cons (pe_ix ix_list (pv 6) pe_int (fun _ _ => rfl)) (pa_cons (pe_lst (pa_cons (pe_tup (pa_cons (pv 2) (pa_cons (pe_tup (pa_cons pe_int (pa_cons pe_int (pa_cons pe_int pa_nil)))) (pa_cons (pe_tup pa_nil) pa_nil)))) pa_nil)) pa_nil))))) (pss_cons (ps_ret pe_bl) pss_nil) pss_nil) (pss_cons (ps_for PassesOwn.never rfl (pi_range2 (by rfl) T.n_range (pa_cons pe_int (pa_cons (pe_op op_add (pv 1) pe_int) pa_nil))) (pg_name (i := 7) sc_law.nd rfl (.inl rfl)) (pss_cons (ps_set (i := 8) sc_law.nd rfl (.inl rfl) (pe_callTy call_list_of (by rfl) T.n_list (by decide +kernel) (pa_cons (pe_ix ix_list (pv 3) (pe_op op_sub (pv 7) pe_int) (fun _ _ => rfl)) pa_nil))) (pss_cons (ps_setLc (i := 9) rfl sc_law.nd rfl rfl (sw_true rfl rfl rfl (by decide +kernel)) (own := [("row", 10)]) (g := gName 10) (pi_list (pv 6)) (blkOk_by (own := [("row", 10)]) (N := ["script", "count", "start_key", "moves_of", "k", "ways", "rows", "position", "moves", "kept", "row", "each"]) (sc := defScope s_law) (by decide +kernel)) (fun _ _ _ _ _ => (pg_name (i := 10) sc_law.nd rfl (Or.inl rfl) (.inr (by rfl)))) (fun _ _ _ _ _ => pts_nil) (fun _ _ _ _ _ => (pe_callTy (show CallR _ (Value.type "list") (fun xs H Q => ∃ p ys, xs = [.ref p] ∧ (SqL K H p ys ∨ SqT K H p ys) ∧ ∀ l, H l = none → Q (.ref l) (upd H l (.lst ys))) from call_list_of) (by rfl) T.n_list (by decide +kernel) (pa_cons (pv 10) pa_nil)))) (pss_cons (ps_set (i := 10) sc_law.nd rfl (.inl rfl) (pe_call (ok_make_row T) hr (by rfl) T.g_make_row T.u_make_row.kp T.b_make_row .nil pass0 (pa_cons (pv 6) (pa_cons (pv 7) (pa_cons (pv 8) pa_nil))))) (pss_cons (ps_if (PW.pt (pw_or (pt_cmpR (op_neT (α := (List (T4 Int Int Int (T3 Int Int Int)))) (hud hr (by decide +kernel))) (pv 8) (pe_ix ix_list (pv 3) (pe_op op_sub (pv 7) pe_int) (fun _ _ => rfl)) (nomark _)) (pw_or1 (pt_cmpR (op_neT (α := (List (List (T3 Int (T3 Int Int Int) (Tup (Int × Int)))))) (hud hr (by decide +kernel))) (pe_lc (own := [("each", 11)]) (g := gName 11) rfl sc_law.nd (pi_list (pv 6)) (blkOk_by (own := [("each", 11)]) (N := ["script", "count", "start_key", "moves_of", "k", "ways", "rows", "position", "moves", "kept", "row", "each"]) (sc := defScope s_law) (by decide +kernel)) (fun _ _ _ _ _ => (pg_name (i := 11) sc_law.nd rfl (Or.inl rfl) (.inr (by rfl)))) (fun _ _ _ _ _ => pts_nil) (fun _ _ _ _ _ => (pe_callTy (show CallR _ (Value.type "list") (fun xs H Q => ∃ p ys, xs = [.ref p] ∧ (SqL K H p ys ∨ SqT K H p ys) ∧ ∀ l, H l = none → Q (.ref l) (upd H l (.lst ys))) from call_list_of) (by rfl) T.n_list (by decide +kernel) (pa_cons (pv 11) pa_nil)))) (pv 9) (nomark _))))) (pss_cons (ps_ret pe_bl) pss_nil) pss_nil) (pss_cons (ps_if (pt_not (pt_val (pe_call (ok_law_same T) hr (by rfl) T.g_law_same T.u_law_same.kp T.b_law_same .nil pass0 (pa_cons (pv 10) (pa_cons (pe_call (ok_law_expected T) (hr.mono (by decide)) (by rfl) T.g_law_expected T.u_law_expected.kp T.b_law_expected .nil pass0 (pa_cons (pv 5) (pa_cons (pv 7) pa_nil))) pa_nil))))) (pss_cons (ps_ret pe_bl) pss_nil) pss_nil) (pss_cons (ps_expr (pe_bm PySem.F.plainAttrs_list PySem.F.slot_list_append PySem.F.type_list_append mt_append (pv 6) (pa_cons (pv 10) pa_nil))) pss_nil))))))) (pss_cons (ps_ret pe_bl) pss_nil)))))))), ?_⟩
    refine z_asgIG s0 (hv_add (hv_int 1) (hv_mod (hv_call (script_, (0 : Int)) (hd_cons (hv_var (x := script_) rfl s0.im.1) (hd_cons (hv_int 0) hd_nil)) (by first | omega | (dsimp only; omega) | (subst_vars; omega) | decide +kernel)) (hv_int 4) (by first | omega | decide +kernel | (simp only [List.length_cons, List.length_nil]; omega)))) fun count_2 hcount_2 Hs1 s1 => ?_
    try dsimp only at hcount_2
    refine z_asgIG s1 (hv_mod (hv_call (script_, (2 : Int)) (hd_cons (hv_var (x := script_) rfl s1.im.1) (hd_cons (hv_int 2) hd_nil)) (by first | omega | (dsimp only; omega) | (subst_vars; omega) | decide +kernel)) (hv_int 3) (by first | omega | decide +kernel | (simp only [List.length_cons, List.length_nil]; omega))) fun start_key_4 hstart_key_4 Hs3 s3 => ?_
    try dsimp only at hstart_key_4
    refine z_asgG s3 (hv_lcR0 s3 (fun (c_ : Int) => (m_law_moves script_ (c_ + (1 : Int)) start_key_4)) (hv_vI rfl) (by first | omega | decide +kernel | (simp only [List.length_cons, List.length_nil]; omega)) (fun D8 c9 ys11 Hs7 s7 hx13 Q k => by exact k _ rfl (hv_call (script_, (c9 + (1 : Int)), start_key_4) (hd_cons (hv_var (x := script_) rfl s7.im.1) (hd_cons (hv_add (hv_vI rfl) (hv_int 1)) (hd_cons (hv_vI rfl) hd_nil))) (by first | omega | (dsimp only; omega) | (subst_vars; omega) | decide +kernel)))) fun moves_of_6 hmoves_of_6 vmoves_of_6 Hs5 s5 => ?_
    try dsimp only at hmoves_of_6
    have mok := mo_ok script_ (n := count_2) (sk := start_key_4) (by omega)
    rw [← hmoves_of_6] at mok
    have ml9 := mok.2
    refine z_asgG s5 (hv_call (start_key_4, moves_of_6) (hd_cons (hv_vI rfl) (hd_cons (hv_var (x := moves_of_6) rfl s5.im.1) hd_nil)) (by exact ⟨mok.1.len, mok.1.um⟩)) fun ways_16 hways_16 vways_16 Hs15 s15 => ?_
    try dsimp only at hways_16
    have wok := aw_small mok.1 (sk := start_key_4) (by omega)
    rw [← hways_16] at wok
    refine z_freshG s15 (hf_lst (has_cons (hv_call start_key_4 (hd_cons (hv_vI rfl) hd_nil) True.intro) has_nil) (Nat.le_of_ble_eq_true rfl)) fun rows_18 hrows_18 ps17 Hs17 s17 => ?_
    try dsimp only at hrows_18
    have lrows_18 := congrArg List.length hrows_18
    try simp only [List.length_map, irng_len, List.length_flatten, List.map_replicate, List.sum_replicate_nat, List.length_cons, List.length_nil] at lrows_18
    refine z_ifx (b := (!(m_law_same (rows_18.getD (Int.toNat (0 : Int)) []) [(T3.mk start_key_4 (T3.mk (0 : Int) (0 : Int) (0 : Int)) (Tup.mk []))]))) s17 (ht_not (ht_B (K := K) (hv_lendB (hv_call ((rows_18.getD (Int.toNat (0 : Int)) []), [(T3.mk start_key_4 (T3.mk (0 : Int) (0 : Int) (0 : Int)) (Tup.mk []))]) (hd_cons (hv_at [] (hs_of (hv_var (x := rows_18) rfl (Sg.frz (xs := rows_18) s17).im.1)) (hv_int 0) (by first | omega | decide +kernel | (simp only [List.length_cons, List.length_nil]; omega)) (by first | omega | decide +kernel | (simp only [List.length_cons, List.length_nil]; omega))) (hd_cons (show Hv K _ _ _ _ ([(T3.mk start_key_4 (T3.mk (0 : Int) (0 : Int) (0 : Int)) (Tup.mk []))] : (List (T3 Int (T3 Int Int Int) (Tup (Int × Int))))) from (hv_lst (has_cons (hv_tup3 (hv_vI rfl) (hv_tup3 (hv_int 0) (hv_int 0) (hv_int 0)) (hv_tupv has_nil (Nat.le_of_ble_eq_true rfl))) has_nil) (Nat.le_of_ble_eq_true rfl))) hd_nil)) (by first | exact Nat.le_of_ble_eq_true rfl | exact Nat.le_trans (exp_len _ _) (by decide))) (by intro a ha; first | exact List.mem_cons_of_mem _ ha | (simp only [muA, List.map_cons, List.map_nil, List.cons_append, List.nil_append, List.mem_cons] at ha ⊢; first | exact ha | exact Or.inr ha | (rcases ha with h | h <;> simp [h])))))) (fun hb19 Hs20 s20 => ?_) (fun hb19 Hs21 s21 => ?_)
    · have hb19P := hb19
      try simp only [decide_eq_true_eq, decide_eq_false_iff_not, Bool.not_eq_true', Bool.not_eq_false', Bool.and_eq_true, Bool.or_eq_true, Bool.or_eq_false_iff] at hb19P
      have hF22 : m_law script_ = false := (by subst hrows_18; subst hways_16; subst hmoves_of_6; subst hstart_key_4; subst hcount_2; first | (simp only [m_law, hb19, if_true, if_false, Bool.false_eq_true, decide_true, decide_false, Option.getD_some, Option.isNone_none, Option.isNone_some, Bool.not_true, Bool.not_false, ↓reduceIte]; done) | (rfl; done) | ((unfold m_law); (dsimp only); (first | rw [ifT hb19] | rw [ifF hb19] | skip); (try dsimp only); first | done | rfl) | (exfalso; simp at hb19; done))
      exact zq_ret s20 (hv_bl false) fun v H' e d => q v H' e (by rw [hF22]; exact d)
    · have hb19P := hb19
      try simp only [decide_eq_true_eq, decide_eq_false_iff_not, Bool.not_eq_true', Bool.not_eq_false', Bool.and_eq_true, Bool.or_eq_true, Bool.or_eq_false_iff] at hb19P
      refine zq_forR2G s21 (hv_int 1) (hv_add (hv_vI rfl) (hv_int 1)) (by first | omega | decide +kernel | (simp only [List.length_cons, List.length_nil]; omega)) (fun i σ' H' => ∃ (rows_23 : (List (List (T3 Int (T3 Int Int Int) (Tup (Int × Int)))))) (o24 : Option V) (o25 : Option V) (o26 : Option V) (o27 : Option V) (o28 : Option V) (o29 : Option V), (loopNR (m_law_l0 moves_of_6 ways_16) (Int.toNat ((count_2 + (1 : Int)) - (1 : Int))) (1 : Int) rows_18 : Bool ⊕ ((List (List (T3 Int (T3 Int Int Int) (Tup (Int × Int))))))) = (loopNR (m_law_l0 moves_of_6 ways_16) ((Int.toNat ((count_2 + (1 : Int)) - (1 : Int))) - i) ((1 : Int) + (i : Int)) rows_23 : Bool ⊕ ((List (List (T3 Int (T3 Int Int Int) (Tup (Int × Int))))))) ∧ (rows_23 = rowsOf moves_of_6 start_key_4 (i) ∧ rows_23.length = (i) + 1) ∧ σ' = [some v0, some (V.int count_2), some (V.int start_key_4), some vmoves_of_6, o24, some vways_16, some (.ref ps17), o25, o26, o27, o28, o29] ∧ Sg K Mc H H' [(vways_16, Dx.toX ways_16), (vmoves_of_6, Dx.toX moves_of_6), (v0, Dx.toX script_)] [(ps17, .lst (List.map Dx.toX rows_23))]) (fun Hs30 s30 => ⟨rows_18, _, _, _, _, _, _, (by simp), (by subst_vars; exact ⟨rfl, rfl⟩), rfl, s30.keep fun _ h => ⟨h.1, ⟨h.2.1, ⟨h.2.2.1, True.intro⟩⟩⟩⟩) (fun i34 x35 σ' Hs33 hx36 hi37 hP => ?_) (fun σ' Hs33 hP => ?_)
      · obtain ⟨rows_23, o24, o25, o26, o27, o28, o29, he31, hg32, rfl, s33⟩ := hP
        have hg32q0 := hg32.1
        have hg32q1 := hg32.2
        have hgR := hg32
        have hx9 : x35 = 1 + (_ : Int) := hx36
        refine z_asgG s33 (hv_listOf (hs_of (hv_at [] (hs_of (hv_var (x := moves_of_6) rfl s33.im.2.1)) (hv_sub (hv_vI rfl) (hv_int 1)) (by first | omega | decide +kernel | (simp only [List.length_cons, List.length_nil]; omega)) (by first | omega | decide +kernel | (simp only [List.length_cons, List.length_nil]; omega))))) fun moves_40 hmoves_40 vmoves_40 Hs39 s39 => ?_
        try dsimp only at hmoves_40
        have hm9 := hmoves_40
        refine z_asgG s39 (hv_hf (hf_lcS0 s39 (fun (c_ : (List (T3 Int (T3 Int Int Int) (Tup (Int × Int))))) => c_) (hs_mut s39 (k := 0) rfl rfl) (by first | omega | decide +kernel | (simp only [List.length_cons, List.length_nil]; omega)) (fun D44 c45 w46 ys47 Hs43 s43 hx49 Q k => by exact k _ rfl (hv_listOf (hs_of (hv_var (x := c45) rfl s43.im.1)))))) fun kept_42 hkept_42 vkept_42 Hs41 s41 => ?_
        try dsimp only at hkept_42
        refine z_asgG s41 (hv_callB (rows_23, x35, moves_40) (hb_bo (hs_mut s41 (k := 0) rfl rfl) (hb_im (hv_vI rfl) (hb_bo (hs_of (hv_var (x := moves_40) rfl s41.im.2.1)) hb_nil))) (by exact mr_pre mok.1 (by omega) (by omega) hgR.1 hx9 hm9)) fun row_52 hrow_52 vrow_52 Hs51 s51 => ?_
        try dsimp only at hrow_52
        have hr9 := hrow_52
        refine z_ifx (b := ((!decide (moves_40 = (moves_of_6.getD (Int.toNat (x35 - (1 : Int))) []))) || (!decide ((List.map (fun (c_ : (List (T3 Int (T3 Int Int Int) (Tup (Int × Int))))) => c_) rows_23) = kept_42)))) s51 (ht_or (ht_val (K := K) (hv_neT (hv_whole s51 (hv_var (x := moves_40) rfl s51.im.2.2.1)) (hv_whole s51 (hv_at [] (hs_of (hv_var (x := moves_of_6) rfl s51.im.2.2.2.2.1)) (hv_sub (hv_vI rfl) (hv_int 1)) (by first | omega | decide +kernel | (simp only [List.length_cons, List.length_nil]; omega)) (by first | omega | decide +kernel | (simp only [List.length_cons, List.length_nil]; omega)))))) (fun hb0 => (ht_val (K := K) (hv_neT (hv_whole s51 (hv_hf (hf_lcS0 s51 (fun (c_ : (List (T3 Int (T3 Int Int Int) (Tup (Int × Int))))) => c_) (hs_mut s51 (k := 0) rfl rfl) (by first | omega | decide +kernel | (simp only [List.length_cons, List.length_nil]; omega)) (fun D57 c58 w59 ys60 Hs56 s56 hx62 Q k => by exact k _ rfl (hv_listOf (hs_of (hv_var (x := c58) rfl s56.im.1))))))) (hv_whole s51 (hv_var (x := kept_42) rfl s51.im.2.1)))))) (fun hb53 Hs54 s54 => ?_) (fun hb53 Hs55 s55 => ?_)
        · have hb53P := hb53
          try simp only [decide_eq_true_eq, decide_eq_false_iff_not, Bool.not_eq_true', Bool.not_eq_false', Bool.and_eq_true, Bool.or_eq_true, Bool.or_eq_false_iff] at hb53P
          have hf64 : (m_law_l0 moves_of_6 ways_16) rows_23 x35 = Lp.ret false := (by subst hrow_52; subst hkept_42; subst hmoves_40; subst hrows_18; subst hways_16; subst hmoves_of_6; subst hstart_key_4; subst hcount_2; first | (simp only [m_law_l0, hb19, hb53, if_true, if_false, Bool.false_eq_true, decide_true, decide_false, Option.getD_some, Option.isNone_none, Option.isNone_some, Bool.not_true, Bool.not_false, ↓reduceIte]; done) | (rfl; done) | ((unfold m_law_l0); (dsimp only); (first | rw [ifT hb19] | rw [ifF hb19] | skip); (try dsimp only); (first | rw [ifT hb53] | rw [ifF hb53] | skip); (try dsimp only); first | done | rfl) | (exfalso; simp at hb53; done) | (exfalso; simp at hb19; done))
          have hl65 := he31.trans (loopNR_ret hi37 (by (try dsimp only); rw [← hx36]; exact hf64))
          have hF66 : m_law script_ = false := (by subst hrow_52; subst hkept_42; subst hmoves_40; subst hrows_18; subst hways_16; subst hmoves_of_6; subst hstart_key_4; subst hcount_2; first | (simp only [m_law, hb19, hb53, hl65, if_true, if_false, Bool.false_eq_true, decide_true, decide_false, Option.getD_some, Option.isNone_none, Option.isNone_some, Bool.not_true, Bool.not_false, ↓reduceIte]; done) | (rfl; done) | ((unfold m_law); (dsimp only); (first | rw [ifT hb19] | rw [ifF hb19] | skip); (try dsimp only); (first | rw [ifT hb53] | rw [ifF hb53] | skip); (try dsimp only); (first | rw [hl65] | skip); (try dsimp only); first | done | rfl) | (exfalso; simp at hb53; done) | (exfalso; simp at hb19; done))
          exact zq_ret s54 (hv_bl false) fun v H' e d => q v H' e (by rw [hF66]; exact d)
        · have hb53P := hb53
          try simp only [decide_eq_true_eq, decide_eq_false_iff_not, Bool.not_eq_true', Bool.not_eq_false', Bool.and_eq_true, Bool.or_eq_true, Bool.or_eq_false_iff] at hb53P
          refine z_ifx (b := (!(m_law_same row_52 (m_law_expected ways_16 x35)))) s55 (ht_not (ht_B (K := K) (hv_call (row_52, (m_law_expected ways_16 x35)) (hd_cons (hv_var (x := row_52) rfl s55.im.1) (hd_cons (hv_call (ways_16, x35) (hd_cons (hv_var (x := ways_16) rfl s55.im.2.2.2.1) (hd_cons (hv_vI rfl) hd_nil)) (by exact wok)) hd_nil)) (by first | exact Nat.le_of_ble_eq_true rfl | exact Nat.le_trans (exp_len _ _) (by decide))))) (fun hb67 Hs68 s68 => ?_) (fun hb67 Hs69 s69 => ?_)
          · have hb67P := hb67
            try simp only [decide_eq_true_eq, decide_eq_false_iff_not, Bool.not_eq_true', Bool.not_eq_false', Bool.and_eq_true, Bool.or_eq_true, Bool.or_eq_false_iff] at hb67P
            have hf70 : (m_law_l0 moves_of_6 ways_16) rows_23 x35 = Lp.ret false := (by subst hrow_52; subst hkept_42; subst hmoves_40; subst hrows_18; subst hways_16; subst hmoves_of_6; subst hstart_key_4; subst hcount_2; first | (simp only [m_law_l0, hb19, hb53, hb67, if_true, if_false, Bool.false_eq_true, decide_true, decide_false, Option.getD_some, Option.isNone_none, Option.isNone_some, Bool.not_true, Bool.not_false, ↓reduceIte]; done) | (rfl; done) | ((unfold m_law_l0); (dsimp only); (first | rw [ifT hb19] | rw [ifF hb19] | skip); (try dsimp only); (first | rw [ifT hb53] | rw [ifF hb53] | skip); (try dsimp only); (first | rw [ifT hb67] | rw [ifF hb67] | skip); (try dsimp only); first | done | rfl) | (exfalso; simp at hb67; done) | (exfalso; simp at hb53; done) | (exfalso; simp at hb19; done))
            have hl71 := he31.trans (loopNR_ret hi37 (by (try dsimp only); rw [← hx36]; exact hf70))
            have hF72 : m_law script_ = false := (by subst hrow_52; subst hkept_42; subst hmoves_40; subst hrows_18; subst hways_16; subst hmoves_of_6; subst hstart_key_4; subst hcount_2; first | (simp only [m_law, hb19, hb53, hb67, hl71, if_true, if_false, Bool.false_eq_true, decide_true, decide_false, Option.getD_some, Option.isNone_none, Option.isNone_some, Bool.not_true, Bool.not_false, ↓reduceIte]; done) | (rfl; done) | ((unfold m_law); (dsimp only); (first | rw [ifT hb19] | rw [ifF hb19] | skip); (try dsimp only); (first | rw [ifT hb53] | rw [ifF hb53] | skip); (try dsimp only); (first | rw [ifT hb67] | rw [ifF hb67] | skip); (try dsimp only); (first | rw [hl71] | skip); (try dsimp only); first | done | rfl) | (exfalso; simp at hb67; done) | (exfalso; simp at hb53; done) | (exfalso; simp at hb19; done))
            exact zq_ret s68 (hv_bl false) fun v H' e d => q v H' e (by rw [hF72]; exact d)
          · have hb67P := hb67
            try simp only [decide_eq_true_eq, decide_eq_false_iff_not, Bool.not_eq_true', Bool.not_eq_false', Bool.and_eq_true, Bool.or_eq_true, Bool.or_eq_false_iff] at hb67P
            refine zq_appG s69 (kk := 0) rfl (ev_var rfl) (hv_var (x := row_52) rfl s69.im.1) (by first | omega | decide +kernel | (simp only [List.length_cons, List.length_nil]; omega)) fun rows_74 hrows_74 Hs73 s73 => ?_
            have lrows_74 : rows_74.length = rows_23.length + 1 := by rw [hrows_74, List.length_append]; rfl
            have s73 : Sg K Mc _ _ _ [(ps17, .lst (List.map Dx.toX rows_74))] := s73
            have hf75 : (m_law_l0 moves_of_6 ways_16) rows_23 x35 = Lp.nxt rows_74 := (by subst hrows_74; subst hrow_52; subst hkept_42; subst hmoves_40; subst hrows_18; subst hways_16; subst hmoves_of_6; subst hstart_key_4; subst hcount_2; first | (simp only [m_law_l0, hb19, hb53, hb67, if_true, if_false, Bool.false_eq_true, decide_true, decide_false, Option.getD_some, Option.isNone_none, Option.isNone_some, Bool.not_true, Bool.not_false, ↓reduceIte]; done) | (rfl; done) | ((unfold m_law_l0); (dsimp only); (first | rw [ifT hb19] | rw [ifF hb19] | skip); (try dsimp only); (first | rw [ifT hb53] | rw [ifF hb53] | skip); (try dsimp only); (first | rw [ifT hb67] | rw [ifF hb67] | skip); (try dsimp only); first | done | rfl) | (exfalso; simp at hb67; done) | (exfalso; simp at hb53; done) | (exfalso; simp at hb19; done))
            exact ⟨rows_74, _, _, _, _, _, _, he31.trans (loopNR_nxt hi37 (by rw [← hx36]; exact hf75)), (by exact ⟨rows_next hgR.1 hx9 hm9 hr9 ‹_ = _ ++ [_]›, by omega⟩), rfl, s73.keep fun _ h => ⟨h.2.2.2.1, ⟨h.2.2.2.2.1, ⟨h.2.2.2.2.2.1, True.intro⟩⟩⟩⟩
      · obtain ⟨rows_76, o77, o78, o79, o80, o81, o82, he84, hg85, rfl, s83⟩ := hP
        have hg85q0 := hg85.1
        have hg85q1 := hg85.2
        rw [loopNR_end] at he84
        have s86 := Sg.frz (xs := rows_76) s83
        have hF87 : m_law script_ = true := (by subst hrows_18; subst hways_16; subst hmoves_of_6; subst hstart_key_4; subst hcount_2; first | (simp only [m_law, hb19, he84, if_true, if_false, Bool.false_eq_true, decide_true, decide_false, Option.getD_some, Option.isNone_none, Option.isNone_some, Bool.not_true, Bool.not_false, ↓reduceIte]; done) | (rfl; done) | ((unfold m_law); (dsimp only); (first | rw [ifT hb19] | rw [ifF hb19] | skip); (try dsimp only); (first | rw [he84] | skip); (try dsimp only); first | done | rfl) | (exfalso; simp at hb19; done))
        exact zq_ret s86 (hv_bl true) fun v H' e d => q v H' e (by rw [hF87]; exact d)
end
/-- MATH -/
theorem same_self (r : WRow) : m_law_same r r = true := by
  unfold m_law_same
  rw [if_neg (by simp)]
  rw [loopNR_all' (s := ()) _ _ (fun i hi => by
    unfold m_law_same_l0
    dsimp only
    rw [if_neg (by simp [m_law_is_integer]), if_neg (by simp)]
    rw [loopL_all' (s := ()) _ (fun x _ => rfl)])]
theorem law_true (ns : List Int) (hl : ns.length ≤ 63) : m_law ns = true := by
  unfold m_law
  dsimp only
  generalize hn : (1 : Int) + (m_law_cell ns 0) % 4 = n
  generalize hk : (m_law_cell ns 2) % 3 = sk
  have hn2 : 1 ≤ n ∧ n ≤ 4 := by omega
  have hk2 : 0 ≤ sk ∧ sk ≤ 2 := by omega
  obtain ⟨mok, ml⟩ := mo_ok ns (n := n) (sk := sk) hn2
  generalize List.map (fun (c_ : Int) => (m_law_moves ns (c_ + (1 : Int)) sk)) (irng (0 : Int) (Int.toNat n)) = mo at mok ml
  rw [if_neg (by
    show ¬ (!(m_law_same (m_start_row sk) (m_start_row sk))) = true
    rw [same_self]; simp)]
  obtain ⟨po, I⟩ := aw_all mok sk
  have step : ∀ i, i < (n + 1 - 1).toNat → m_law_l0 mo (m_law_all_ways sk mo) (rowsOf mo sk i) (1 + (i : Int)) = .nxt (rowsOf mo sk (i + 1)) := fun i hi => by
    have hi2 : i < mo.length := by omega
    unfold m_law_l0
    dsimp only
    rw [if_neg (by simp)]
    have e1 : m_make_row (rowsOf mo sk i) (1 + (i : Int)) (mo.getD (1 + (i : Int) - 1).toNat []) = (rowsOf mo sk (i + 1)).getD (i + 1) [] := by
      rw [rowsOf, getD_snoc (rows_len i), show (1 + (i : Int) - 1).toNat = i by omega, Int.add_comm]
    have R := rows_is mok (sk := sk) (i + 1) hi2 (i + 1) (Nat.le_refl _)
    have X := exp_is (ways := m_law_all_ways sk mo) (p := 1 + (i : Int)) (fun w hw ha => by
      have k := (I.all w).mp hw
      exact (way_small mok hk2 k.2.2 (by omega)).1)
    have e2 : m_law_expected (m_law_all_ways sk mo) (1 + (i : Int)) = (rowsOf mo sk (i + 1)).getD (i + 1) [] := X.uniq (R.congr fun t q => by
      constructor
      · intro hw
        refine ⟨T4.mk (1 + (i : Int)) t q.1 q.2, (I.all _).mpr ⟨by dsimp only; omega, by dsimp only; omega, ?_⟩, rfl, rfl, rfl⟩
        dsimp only
        rw [show (1 + (i : Int)).toNat = i + 1 by omega]
        exact hw
      · rintro ⟨w, hw, ha, rfl, rfl⟩
        have k := (I.all w).mp hw
        rw [ha, show (1 + (i : Int)).toNat = i + 1 by omega] at k
        exact k.2.2)
    rw [e1, e2, same_self]
    rw [if_neg (by simp), rowsOf, getD_snoc (rows_len i)]
  have seq := loopNR_seq (f := m_law_l0 mo (m_law_all_ways sk mo)) (rowsOf mo sk) 1 (n + 1 - 1).toNat step
  have e0 : rowsOf mo sk 0 = [m_start_row sk] := rfl
  rw [e0] at seq
  rw [seq]

theorem all_mk {w : World} {K : PySem.W.Frag} {h : Heap} {mg : Str → Option Value} {fa : Addr} (X : K.In h) (G : h.Ns mainGlobals mg) (hfa : mg "law" = some (.ref fa))
    {f_add_costs : Addr} {od_add_costs an_add_costs : Option Addr} {sl_add_costs : Array (Option Value)} {oc_add_costs kV_add_costs dc_add_costs pm_add_costs cd_add_costs ct_add_costs : Value}
    (a_add_costs : PySem.W.nsIn K mainGlobals "add_costs" = some (some (.ref f_add_costs))) (l_add_costs : K.lookup f_add_costs = some ⟨oc_add_costs, od_add_costs, .func (PySem.W.fnOf "add_costs" "add_costs" (defArgs (topS 1)) (defBody (topS 1)) (defScope (topS 1)) .none kV_add_costs dc_add_costs pm_add_costs an_add_costs cd_add_costs ct_add_costs), sl_add_costs⟩) (c_add_costs : PySem.W.codeIn K cd_add_costs "add_costs" = true) (k_add_costs : PySem.W.keepIn K (.ref f_add_costs) = true)
    {f_start_row : Addr} {od_start_row an_start_row : Option Addr} {sl_start_row : Array (Option Value)} {oc_start_row kV_start_row dc_start_row pm_start_row cd_start_row ct_start_row : Value}
    (a_start_row : PySem.W.nsIn K mainGlobals "start_row" = some (some (.ref f_start_row))) (l_start_row : K.lookup f_start_row = some ⟨oc_start_row, od_start_row, .func (PySem.W.fnOf "start_row" "start_row" (defArgs (topS 2)) (defBody (topS 2)) (defScope (topS 2)) .none kV_start_row dc_start_row pm_start_row an_start_row cd_start_row ct_start_row), sl_start_row⟩) (c_start_row : PySem.W.codeIn K cd_start_row "start_row" = true) (k_start_row : PySem.W.keepIn K (.ref f_start_row) = true)
    {f_make_row : Addr} {od_make_row an_make_row : Option Addr} {sl_make_row : Array (Option Value)} {oc_make_row kV_make_row dc_make_row pm_make_row cd_make_row ct_make_row : Value}
    (a_make_row : PySem.W.nsIn K mainGlobals "make_row" = some (some (.ref f_make_row))) (l_make_row : K.lookup f_make_row = some ⟨oc_make_row, od_make_row, .func (PySem.W.fnOf "make_row" "make_row" (defArgs (topS 3)) (defBody (topS 3)) (defScope (topS 3)) .none kV_make_row dc_make_row pm_make_row an_make_row cd_make_row ct_make_row), sl_make_row⟩) (c_make_row : PySem.W.codeIn K cd_make_row "make_row" = true) (k_make_row : PySem.W.keepIn K (.ref f_make_row) = true)
    {f_by_key : Addr} {od_by_key an_by_key : Option Addr} {sl_by_key : Array (Option Value)} {oc_by_key kV_by_key dc_by_key pm_by_key cd_by_key ct_by_key : Value}
    (a_by_key : PySem.W.nsIn K mainGlobals "by_key" = some (some (.ref f_by_key))) (l_by_key : K.lookup f_by_key = some ⟨oc_by_key, od_by_key, .func (PySem.W.fnOf "by_key" "by_key" (defArgs (topS 4)) (defBody (topS 4)) (defScope (topS 4)) .none kV_by_key dc_by_key pm_by_key an_by_key cd_by_key ct_by_key), sl_by_key⟩) (c_by_key : PySem.W.codeIn K cd_by_key "by_key" = true) (k_by_key : PySem.W.keepIn K (.ref f_by_key) = true)
    {f_law_cell : Addr} {od_law_cell an_law_cell : Option Addr} {sl_law_cell : Array (Option Value)} {oc_law_cell kV_law_cell dc_law_cell pm_law_cell cd_law_cell ct_law_cell : Value}
    (a_law_cell : PySem.W.nsIn K mainGlobals "_law_cell" = some (some (.ref f_law_cell))) (l_law_cell : K.lookup f_law_cell = some ⟨oc_law_cell, od_law_cell, .func (PySem.W.fnOf "_law_cell" "_law_cell" (defArgs (topS 6)) (defBody (topS 6)) (defScope (topS 6)) .none kV_law_cell dc_law_cell pm_law_cell an_law_cell cd_law_cell ct_law_cell), sl_law_cell⟩) (c_law_cell : PySem.W.codeIn K cd_law_cell "_law_cell" = true) (k_law_cell : PySem.W.keepIn K (.ref f_law_cell) = true)
    {f_law_draws : Addr} {od_law_draws an_law_draws : Option Addr} {sl_law_draws : Array (Option Value)} {oc_law_draws kV_law_draws dc_law_draws pm_law_draws cd_law_draws ct_law_draws : Value}
    (a_law_draws : PySem.W.nsIn K mainGlobals "_law_draws" = some (some (.ref f_law_draws))) (l_law_draws : K.lookup f_law_draws = some ⟨oc_law_draws, od_law_draws, .func (PySem.W.fnOf "_law_draws" "_law_draws" (defArgs (topS 7)) (defBody (topS 7)) (defScope (topS 7)) .none kV_law_draws dc_law_draws pm_law_draws an_law_draws cd_law_draws ct_law_draws), sl_law_draws⟩) (c_law_draws : PySem.W.codeIn K cd_law_draws "_law_draws" = true) (k_law_draws : PySem.W.keepIn K (.ref f_law_draws) = true)
    {f_law_is_integer : Addr} {od_law_is_integer an_law_is_integer : Option Addr} {sl_law_is_integer : Array (Option Value)} {oc_law_is_integer kV_law_is_integer dc_law_is_integer pm_law_is_integer cd_law_is_integer ct_law_is_integer : Value}
    (a_law_is_integer : PySem.W.nsIn K mainGlobals "_law_is_integer" = some (some (.ref f_law_is_integer))) (l_law_is_integer : K.lookup f_law_is_integer = some ⟨oc_law_is_integer, od_law_is_integer, .func (PySem.W.fnOf "_law_is_integer" "_law_is_integer" (defArgs (topS 8)) (defBody (topS 8)) (defScope (topS 8)) .none kV_law_is_integer dc_law_is_integer pm_law_is_integer an_law_is_integer cd_law_is_integer ct_law_is_integer), sl_law_is_integer⟩) (c_law_is_integer : PySem.W.codeIn K cd_law_is_integer "_law_is_integer" = true) (k_law_is_integer : PySem.W.keepIn K (.ref f_law_is_integer) = true)
    {f_law_moves : Addr} {od_law_moves an_law_moves : Option Addr} {sl_law_moves : Array (Option Value)} {oc_law_moves kV_law_moves dc_law_moves pm_law_moves cd_law_moves ct_law_moves : Value}
    (a_law_moves : PySem.W.nsIn K mainGlobals "_law_moves" = some (some (.ref f_law_moves))) (l_law_moves : K.lookup f_law_moves = some ⟨oc_law_moves, od_law_moves, .func (PySem.W.fnOf "_law_moves" "_law_moves" (defArgs (topS 9)) (defBody (topS 9)) (defScope (topS 9)) .none kV_law_moves dc_law_moves pm_law_moves an_law_moves cd_law_moves ct_law_moves), sl_law_moves⟩) (c_law_moves : PySem.W.codeIn K cd_law_moves "_law_moves" = true) (k_law_moves : PySem.W.keepIn K (.ref f_law_moves) = true)
    {f_law_all_ways : Addr} {od_law_all_ways an_law_all_ways : Option Addr} {sl_law_all_ways : Array (Option Value)} {oc_law_all_ways kV_law_all_ways dc_law_all_ways pm_law_all_ways cd_law_all_ways ct_law_all_ways : Value}
    (a_law_all_ways : PySem.W.nsIn K mainGlobals "_law_all_ways" = some (some (.ref f_law_all_ways))) (l_law_all_ways : K.lookup f_law_all_ways = some ⟨oc_law_all_ways, od_law_all_ways, .func (PySem.W.fnOf "_law_all_ways" "_law_all_ways" (defArgs (topS 10)) (defBody (topS 10)) (defScope (topS 10)) .none kV_law_all_ways dc_law_all_ways pm_law_all_ways an_law_all_ways cd_law_all_ways ct_law_all_ways), sl_law_all_ways⟩) (c_law_all_ways : PySem.W.codeIn K cd_law_all_ways "_law_all_ways" = true) (k_law_all_ways : PySem.W.keepIn K (.ref f_law_all_ways) = true)
    {f_law_expected : Addr} {od_law_expected an_law_expected : Option Addr} {sl_law_expected : Array (Option Value)} {oc_law_expected kV_law_expected dc_law_expected pm_law_expected cd_law_expected ct_law_expected : Value}
    (a_law_expected : PySem.W.nsIn K mainGlobals "_law_expected" = some (some (.ref f_law_expected))) (l_law_expected : K.lookup f_law_expected = some ⟨oc_law_expected, od_law_expected, .func (PySem.W.fnOf "_law_expected" "_law_expected" (defArgs (topS 11)) (defBody (topS 11)) (defScope (topS 11)) .none kV_law_expected dc_law_expected pm_law_expected an_law_expected cd_law_expected ct_law_expected), sl_law_expected⟩) (c_law_expected : PySem.W.codeIn K cd_law_expected "_law_expected" = true) (k_law_expected : PySem.W.keepIn K (.ref f_law_expected) = true)
    {f_law_same : Addr} {od_law_same an_law_same : Option Addr} {sl_law_same : Array (Option Value)} {oc_law_same kV_law_same dc_law_same pm_law_same cd_law_same ct_law_same : Value}
    (a_law_same : PySem.W.nsIn K mainGlobals "_law_same" = some (some (.ref f_law_same))) (l_law_same : K.lookup f_law_same = some ⟨oc_law_same, od_law_same, .func (PySem.W.fnOf "_law_same" "_law_same" (defArgs (topS 12)) (defBody (topS 12)) (defScope (topS 12)) .none kV_law_same dc_law_same pm_law_same an_law_same cd_law_same ct_law_same), sl_law_same⟩) (c_law_same : PySem.W.codeIn K cd_law_same "_law_same" = true) (k_law_same : PySem.W.keepIn K (.ref f_law_same) = true)
    {f_law : Addr} {od_law an_law : Option Addr} {sl_law : Array (Option Value)} {oc_law kV_law dc_law pm_law cd_law ct_law : Value}
    (a_law : PySem.W.nsIn K mainGlobals "law" = some (some (.ref f_law))) (l_law : K.lookup f_law = some ⟨oc_law, od_law, .func (PySem.W.fnOf "law" "law" (defArgs (topS 13)) (defBody (topS 13)) (defScope (topS 13)) .none kV_law dc_law pm_law an_law cd_law ct_law), sl_law⟩) (c_law : PySem.W.codeIn K cd_law "law" = true) (k_law : PySem.W.keepIn K (.ref f_law) = true)
    (z_bool : PySem.W.nsIn K mainGlobals "bool" = some none)
    (z_int : PySem.W.nsIn K mainGlobals "int" = some none)
    (z_isinstance : PySem.W.nsIn K mainGlobals "isinstance" = some none)
    (z_len : PySem.W.nsIn K mainGlobals "len" = some none)
    (z_list : PySem.W.nsIn K mainGlobals "list" = some none)
    (z_range : PySem.W.nsIn K mainGlobals "range" = some none)
    (z_sorted : PySem.W.nsIn K mainGlobals "sorted" = some none)
    (z_tuple : PySem.W.nsIn K mainGlobals "tuple" = some none) :
    ∃ fd : FuncData, (∀ (s : Shared) (v : Value), BindsTo s fd ⟨[v], []⟩ [("script", v)]) ∧ ∀ base : Heap, K.In base → base.Ns mainGlobals mg → FnOk PySem.Challenge.rw_folio_k01_rows_of_ways.prog w K mg base CX0 3 fa fd ["script"] (sp_law K) := by
  have e := hfa.symm.trans (PySem.W.mg_of X G a_law)
  cases e
  have F_add_costs := fun_mk (st := (topS 1)) l_add_costs c_add_costs k_add_costs
  have B_add_costs := F_add_costs.binds (ps := ["one", "other"]) fun _ _ _ _ _ _ us hl => match us, hl with | [_, _], _ => rfl
  have F_start_row := fun_mk (st := (topS 2)) l_start_row c_start_row k_start_row
  have B_start_row := F_start_row.binds (ps := ["key"]) fun _ _ _ _ _ _ us hl => match us, hl with | [_], _ => rfl
  have F_make_row := fun_mk (st := (topS 3)) l_make_row c_make_row k_make_row
  have B_make_row := F_make_row.binds (ps := ["rows", "position", "moves"]) fun _ _ _ _ _ _ us hl => match us, hl with | [_, _, _], _ => rfl
  have F_by_key := fun_mk (st := (topS 4)) l_by_key c_by_key k_by_key
  have B_by_key := F_by_key.binds (ps := ["row"]) fun _ _ _ _ _ _ us hl => match us, hl with | [_], _ => rfl
  have F_law_cell := fun_mk (st := (topS 6)) l_law_cell c_law_cell k_law_cell
  have B_law_cell := F_law_cell.binds (ps := ["script", "k"]) fun _ _ _ _ _ _ us hl => match us, hl with | [_, _], _ => rfl
  have F_law_draws := fun_mk (st := (topS 7)) l_law_draws c_law_draws k_law_draws
  have B_law_draws := F_law_draws.binds (ps := ["cell", "count"]) fun _ _ _ _ _ _ us hl => match us, hl with | [_, _], _ => rfl
  have F_law_is_integer := fun_mk (st := (topS 8)) l_law_is_integer c_law_is_integer k_law_is_integer
  have B_law_is_integer := F_law_is_integer.binds (ps := ["actual"]) fun _ _ _ _ _ _ us hl => match us, hl with | [_], _ => rfl
  have F_law_moves := fun_mk (st := (topS 9)) l_law_moves c_law_moves k_law_moves
  have B_law_moves := F_law_moves.binds (ps := ["script", "position", "start_key"]) fun _ _ _ _ _ _ us hl => match us, hl with | [_, _, _], _ => rfl
  have F_law_all_ways := fun_mk (st := (topS 10)) l_law_all_ways c_law_all_ways k_law_all_ways
  have B_law_all_ways := F_law_all_ways.binds (ps := ["start_key", "moves_of"]) fun _ _ _ _ _ _ us hl => match us, hl with | [_, _], _ => rfl
  have F_law_expected := fun_mk (st := (topS 11)) l_law_expected c_law_expected k_law_expected
  have B_law_expected := F_law_expected.binds (ps := ["ways", "position"]) fun _ _ _ _ _ _ us hl => match us, hl with | [_, _], _ => rfl
  have F_law_same := fun_mk (st := (topS 12)) l_law_same c_law_same k_law_same
  have B_law_same := F_law_same.binds (ps := ["actual", "expected"]) fun _ _ _ _ _ _ us hl => match us, hl with | [_, _], _ => rfl
  have F_law := fun_mk (st := (topS 13)) l_law c_law k_law
  have B_law := F_law.binds (ps := ["script"]) fun _ _ _ _ _ _ us hl => match us, hl with | [_], _ => rfl
  refine ⟨PySem.W.fnOf "law" "law" (defArgs (topS 13)) (defBody (topS 13)) (defScope (topS 13)) .none kV_law dc_law pm_law an_law cd_law ct_law, fun s v => .of_eq rfl, fun base _ _ => ?_⟩
  exact ok_law ⟨_, _, F_add_costs, B_add_costs, PySem.W.mg_of X G a_add_costs, _, _, F_start_row, B_start_row, PySem.W.mg_of X G a_start_row, _, _, F_make_row, B_make_row, PySem.W.mg_of X G a_make_row, _, _, F_by_key, B_by_key, PySem.W.mg_of X G a_by_key, _, _, F_law_cell, B_law_cell, PySem.W.mg_of X G a_law_cell, _, _, F_law_draws, B_law_draws, PySem.W.mg_of X G a_law_draws, _, _, F_law_is_integer, B_law_is_integer, PySem.W.mg_of X G a_law_is_integer, _, _, F_law_moves, B_law_moves, PySem.W.mg_of X G a_law_moves, _, _, F_law_all_ways, B_law_all_ways, PySem.W.mg_of X G a_law_all_ways, _, _, F_law_expected, B_law_expected, PySem.W.mg_of X G a_law_expected, _, _, F_law_same, B_law_same, PySem.W.mg_of X G a_law_same, _, _, F_law, B_law, PySem.W.mg_of X G a_law, PySem.W.mg_none_of X G z_bool, PySem.W.mg_none_of X G z_int, PySem.W.mg_none_of X G z_isinstance, PySem.W.mg_none_of X G z_len, PySem.W.mg_none_of X G z_list, PySem.W.mg_none_of X G z_range, PySem.W.mg_none_of X G z_sorted, PySem.W.mg_none_of X G z_tuple⟩
end My
open PySem PySem.W PyProof.Rows
set_option maxHeartbeats 0 in
theorem PySem.Challenge.cw_folio_k01_rows_of_ways_holds : PySem.Challenge.rw_folio_k01_rows_of_ways.Holds := by
  w_on; o_law; k_head; (case hw => w_witness2)
  k_fill
  refine L2.walk_of (l := PySem.Challenge.rw_folio_k01_rows_of_ways) (n := 63) (k := 3) (x := "script") (CX := fun _ => L2.CX0) (sp := fun w => My.sp_law _) rfl (by decide) rfl ⟨rfl, by decide, by decide⟩ (fun w h Y => PySem.W.kIn_of Y) ?F (fun _ _ a ns hl _ hS => Ly.law_sp hS True.intro (My.law_true ns hl)) (fun _ _ _ _ _ h => h)
  case F =>
    intro w mg fa h KX G hmg
    refine' My.all_mk KX G hmg ?a_add_costs ?l_add_costs ?c_add_costs ?k_add_costs ?a_start_row ?l_start_row ?c_start_row ?k_start_row ?a_make_row ?l_make_row ?c_make_row ?k_make_row ?a_by_key ?l_by_key ?c_by_key ?k_by_key ?a_law_cell ?l_law_cell ?c_law_cell ?k_law_cell ?a_law_draws ?l_law_draws ?c_law_draws ?k_law_draws ?a_law_is_integer ?l_law_is_integer ?c_law_is_integer ?k_law_is_integer ?a_law_moves ?l_law_moves ?c_law_moves ?k_law_moves ?a_law_all_ways ?l_law_all_ways ?c_law_all_ways ?k_law_all_ways ?a_law_expected ?l_law_expected ?c_law_expected ?k_law_expected ?a_law_same ?l_law_same ?c_law_same ?k_law_same ?a_law ?l_law ?c_law ?k_law ?z_bool ?z_int ?z_isinstance ?z_len ?z_list ?z_range ?z_sorted ?z_tuple
    (case a_add_costs => k_is); (case l_add_costs => k_is); (case c_add_costs => k_is); (case k_add_costs => k_is); (case a_start_row => k_is); (case l_start_row => k_is); (case c_start_row => k_is); (case k_start_row => k_is); (case a_make_row => k_is); (case l_make_row => k_is); (case c_make_row => k_is); (case k_make_row => k_is); (case a_by_key => k_is); (case l_by_key => k_is); (case c_by_key => k_is); (case k_by_key => k_is); (case a_law_cell => k_is); (case l_law_cell => k_is); (case c_law_cell => k_is); (case k_law_cell => k_is); (case a_law_draws => k_is); (case l_law_draws => k_is); (case c_law_draws => k_is); (case k_law_draws => k_is); (case a_law_is_integer => k_is); (case l_law_is_integer => k_is); (case c_law_is_integer => k_is); (case k_law_is_integer => k_is); (case a_law_moves => k_is); (case l_law_moves => k_is); (case c_law_moves => k_is); (case k_law_moves => k_is); (case a_law_all_ways => k_is); (case l_law_all_ways => k_is); (case c_law_all_ways => k_is); (case k_law_all_ways => k_is); (case a_law_expected => k_is); (case l_law_expected => k_is); (case c_law_expected => k_is); (case k_law_expected => k_is); (case a_law_same => k_is); (case l_law_same => k_is); (case c_law_same => k_is); (case k_law_same => k_is); (case a_law => k_is); (case l_law => k_is); (case c_law => k_is); (case k_law => k_is); (case z_bool => k_is); (case z_int => k_is); (case z_isinstance => k_is); (case z_len => k_is); (case z_list => k_is); (case z_range => k_is); (case z_sorted => k_is); (case z_tuple => k_is)
