import PyProof.Rows.All
import Wide.All
import OpenK.AllK
import Wide.FinOn
import HandS.ForMost
import HandS.Evl
import HandS.IsInst
import HandS.EndBits
import HandS.Wide
import KE.DatumMoreOrd
import HandS.Walk
import HandS.StrMore
import PyProof.StrLawsFrom
import KE.IntTextLaws
import PyProof.Rows.RegStrFacts
import PyProof.Rows.StrCase
import HandS.Replace
import HandS.ReplaceLit
import HandS.ReplaceDef
import HandS.Words
import PyProof.Rows.StrStrike
import HandS.Dict
import HandS.DictComp
import HandS.More
import HandS.TupAny
import HandS.Star
import HandS.Zip
import HandS.RevRange
import HandS.Style
import HandS.MakeKwOnly
import HandS.Defaults
import KE.GoesZip
import KE.GoesEnum
import KE.GoesMore
import HandS.Nested
import HandS.ExcInit
import HandS.FStr
import HandS.WordsExc
import HandS.ExcIs
import HandS.ExcField
import HandS.ExcCtx
import HandS.HotCalls
import KE.KExcSuper
import KE.KExcIs
import PySem.Challenge.RW_folio_k38_demands_outside
set_option Elab.async false
set_option linter.all false
set_option maxRecDepth 100000
set_option maxHeartbeats 4000000
set_option Elab.async false
namespace Ly
open PySem PySem.Spec PyProof.Rows L2 Evl
open PySem.W (Datum DatumOrd Tup T3 T4)

/-! ### data that is held -/
/-- the data of this layer: plain ones, dicts with plain keys, objects by their fields -/
inductive Xd where
  | none
  | bool (b : Bool)
  | int (i : Int)
  | str (x : Str)
  | list (ds : List Xd)
  | tuple (ds : List Xd)
  | dict (ks : List Key) (ds : List Xd)
  | obj (c : Str) (ns : List Str) (ds : List Xd)
  | ptr (a : Addr)
  | exd (ns : List Str) (ds : List Xd)
mutual
inductive Xp (K : PySem.W.Frag) (H : Hp) : V → Xd → Prop
  | non : Xp K H .non .none
  | bl (b : Bool) : Xp K H (.bl b) (.bool b)
  | int (i : Int) : Xp K H (.int i) (.int i)
  | str (x : Str) : Xp K H (.str x) (.str x)
  | lst {a : Addr} {xs : List V} {ds : List Xd} : SqL K H a xs → XpAll K H xs ds → Xp K H (.ref a) (.list ds)
  | tup {a : Addr} {xs : List V} {ds : List Xd} : SqT K H a xs → XpAll K H xs ds → Xp K H (.ref a) (.tuple ds)
  | dic {a : Addr} {kvs : List (Key × V)} {vs : List V} {ks : List Key} {ds : List Xd} : Rd H a (.dK kvs) → kvs.map (·.1) = ks → kvs.map (·.2) = vs → XpAll K H vs ds → Xp K H (.ref a) (.dict ks ds)
  | obj {a C dx : Addr} {fs : List (Str × V)} {c : Str} {vs : List V} {ns : List Str} {ds : List Xd} : PySem.W.nsIn K mainGlobals c = some (some (.ref C)) → H a = some (.ins C dx fs) → fs.map (·.1) = ns → fs.map (·.2) = vs → XpAll K H vs ds → Xp K H (.ref a) (.obj c ns ds)
  | ptr (a : Addr) : Xp K H (.ref a) (.ptr a)
  | exd {a : Addr} {fs : List (Str × V)} {vs : List V} {ns : List Str} {ds : List Xd} : H a = some (.xd fs) → fs.map (·.1) = ns → fs.map (·.2) = vs → XpAll K H vs ds → Xp K H (.ref a) (.exd ns ds)
inductive XpAll (K : PySem.W.Frag) (H : Hp) : List V → List Xd → Prop
  | nil : XpAll K H [] []
  | cons {v : V} {vs : List V} {d : Xd} {ds : List Xd} : Xp K H v d → XpAll K H vs ds → XpAll K H (v :: vs) (d :: ds)
end
theorem ex_rd {H H' : Hp} (e : Ex H H') {a : Addr} {u : HO} (h : Rd H a u) : Rd H' a u := by
  rcases h with h | ⟨o, h⟩
  · exact .inl (e _ _ h)
  · exact .inr ⟨o, e _ _ h⟩
mutual
theorem dp_mono {K : PySem.W.Frag} {H H' : Hp} (e : Ex H H') : ∀ {v : V} {d : Xd}, Xp K H v d → Xp K H' v d
  | _, _, .non => .non
  | _, _, .bl b => .bl b
  | _, _, .int i => .int i
  | _, _, .str x => .str x
  | _, _, .lst h a => .lst (ex_l e h) (dpa_mono e a)
  | _, _, .tup h a => .tup (ex_t e h) (dpa_mono e a)
  | _, _, .dic h k v a => .dic (ex_rd e h) k v (dpa_mono e a)
  | _, _, .obj c h k v a => .obj c (e _ _ h) k v (dpa_mono e a)
  | _, _, .ptr a => .ptr a
  | _, _, .exd h k v a => .exd (e _ _ h) k v (dpa_mono e a)
theorem dpa_mono {K : PySem.W.Frag} {H H' : Hp} (e : Ex H H') : ∀ {vs : List V} {ds : List Xd}, XpAll K H vs ds → XpAll K H' vs ds
  | _, _, .nil => .nil
  | _, _, .cons a b => .cons (dp_mono e a) (dpa_mono e b)
end
/-- a Lean type whose things are data -/
class Dx (α : Type) [DecidableEq α] where
  toX : α → Xd
section
variable {α β γ δ : Type} [DecidableEq α] [Dx α] [DecidableEq β] [Dx β] [DecidableEq γ] [Dx γ] [DecidableEq δ] [Dx δ]
instance : Dx Int := ⟨.int⟩
instance : Dx Bool := ⟨.bool⟩
instance : Dx Str := ⟨.str⟩
instance : Dx Unit := ⟨fun _ => .none⟩
instance : Dx (List α) := ⟨fun xs => .list (xs.map Dx.toX)⟩
instance : Dx (Tup α) := ⟨fun xs => .tuple (xs.items.map Dx.toX)⟩
instance : Dx (α × β) := ⟨fun p => .tuple [Dx.toX p.1, Dx.toX p.2]⟩
instance : Dx (T3 α β γ) := ⟨fun p => .tuple [Dx.toX p.a, Dx.toX p.b, Dx.toX p.c]⟩
instance : Dx (T4 α β γ δ) := ⟨fun p => .tuple [Dx.toX p.a, Dx.toX p.b, Dx.toX p.c, Dx.toX p.d]⟩
instance : Dx (Option α) := ⟨fun p => match p with | none => .none | some x => Dx.toX x⟩
/-- no None among them -/
class SomeX (α : Type) [DecidableEq α] [Dx α] : Prop where
  some : ∀ x : α, Dx.toX x ≠ Xd.none
instance : SomeX Int := ⟨fun _ e => by cases e⟩
instance : SomeX Bool := ⟨fun _ e => by cases e⟩
instance : SomeX Str := ⟨fun _ e => by cases e⟩
instance : SomeX (List α) := ⟨fun _ e => by cases e⟩
instance : SomeX (Tup α) := ⟨fun _ e => by cases e⟩
instance : SomeX (α × β) := ⟨fun _ e => by cases e⟩
instance : SomeX (T3 α β γ) := ⟨fun _ e => by cases e⟩
instance : SomeX (T4 α β γ δ) := ⟨fun _ e => by cases e⟩
end
/-- data of the library's own kind: what == and < lean on -/
class DxD (α : Type) [DecidableEq α] [Dx α] [Datum α] : Prop where
  link : ∀ {K : PySem.W.Frag} {H : Hp} {v : V} {x : α}, Xp K H v (Dx.toX x) → Dp K H v (Datum.toD x)
section
variable {α β γ δ : Type} [DecidableEq α] [Dx α] [Datum α] [DxD α] [DecidableEq β] [Dx β] [Datum β] [DxD β] [DecidableEq γ] [Dx γ] [Datum γ] [DxD γ] [DecidableEq δ] [Dx δ] [Datum δ] [DxD δ]
theorem link_all {K : PySem.W.Frag} {H : Hp} : ∀ {xs : List α} {vs : List V}, XpAll K H vs (xs.map Dx.toX) → DpAll K H vs (xs.map Datum.toD)
  | [], _, h => by cases h; exact .nil
  | x :: xs, _, h => by
    cases h with
    | cons a b => exact .cons (DxD.link a) (link_all b)
instance : DxD Int := ⟨fun h => by cases h; exact .int _⟩
instance : DxD Bool := ⟨fun h => by cases h; exact .bl _⟩
instance : DxD Str := ⟨fun h => by cases h; exact .str _⟩
instance : DxD (List α) := ⟨fun h => by cases h with | lst s a => exact .lst s (link_all a)⟩
instance : DxD (Tup α) := ⟨fun h => by cases h with | tup s a => exact .tup s (link_all a)⟩
instance : DxD (α × β) := ⟨fun h => by
  cases h with
  | tup s a =>
    cases a with
    | cons a1 a =>
      cases a with
      | cons a2 a =>
        cases a
        exact .tup s (.cons (DxD.link a1) (.cons (DxD.link a2) .nil))⟩
instance : DxD (T3 α β γ) := ⟨fun h => by
  cases h with
  | tup s a =>
    cases a with
    | cons a1 a =>
      cases a with
      | cons a2 a =>
        cases a with
        | cons a3 a =>
          cases a
          exact .tup s (.cons (DxD.link a1) (.cons (DxD.link a2) (.cons (DxD.link a3) .nil)))⟩
instance : DxD (T4 α β γ δ) := ⟨fun h => by
  cases h with
  | tup s a =>
    cases a with
    | cons a1 a =>
      cases a with
      | cons a2 a =>
        cases a with
        | cons a3 a =>
          cases a with
          | cons a4 a =>
            cases a
            exact .tup s (.cons (DxD.link a1) (.cons (DxD.link a2) (.cons (DxD.link a3) (.cons (DxD.link a4) .nil))))⟩
end
/-! ### masks -/
theorem dpa_len {K : PySem.W.Frag} {H : Hp} : ∀ {vs : List V} {ds : List Xd}, XpAll K H vs ds → vs.length = ds.length
  | _, _, .nil => rfl
  | _, _, .cons _ b => by rw [List.length_cons, List.length_cons, dpa_len b]
theorem dpa_at {K : PySem.W.Frag} {H : Hp} : ∀ {vs : List V} {ds : List Xd} {i : Nat} {d : Xd}, XpAll K H vs ds → ds[i]? = some d → ∃ v, vs[i]? = some v ∧ Xp K H v d
  | _, _, i, d, .nil, e => by simp at e
  | _, _, 0, d, .cons a b, e => by simp at e; subst e; exact ⟨_, rfl, a⟩
  | _, _, i + 1, d, .cons a b, e => by
    obtain ⟨v, h1, h2⟩ := dpa_at (i := i) (d := d) b (by simpa using e)
    exact ⟨v, by simpa using h1, h2⟩
theorem dpa_app {K : PySem.W.Frag} {H : Hp} : ∀ {vs ws : List V} {ds es : List Xd}, XpAll K H vs ds → XpAll K H ws es → XpAll K H (vs ++ ws) (ds ++ es)
  | _, _, _, _, .nil, h => h
  | _, _, _, _, .cons a b, h => .cons a (dpa_app b h)

variable {K : PySem.W.Frag}
/-- v holds x -/
def Dt {α : Type} [DecidableEq α] [Dx α] (K : PySem.W.Frag) (H : Hp) (v : V) (x : α) : Prop := Xp K H v (Dx.toX x)
def Dts {α : Type} [DecidableEq α] [Dx α] (K : PySem.W.Frag) (H : Hp) (vs : List V) (xs : List α) : Prop := XpAll K H vs (xs.map Dx.toX)
/-- the heap without the objects of M -/
def msk (M : List Addr) (H : Hp) : Hp := fun a => if a ∈ M then none else H a
def MOk (M : List Addr) (H : Hp) : Prop := ∀ l ∈ M, H l ≠ none
section
variable {α : Type} [DecidableEq α] [Dx α] {H H1 H2 : Hp} {M N : List Addr} {v : V} {x : α}
theorem msk_in {a : Addr} (h : a ∈ M) : msk M H a = none := by unfold msk; rw [if_pos h]
theorem msk_out {a : Addr} (h : a ∉ M) : msk M H a = H a := by unfold msk; rw [if_neg h]
theorem msk_nil : msk [] H = H := by funext a; unfold msk; simp
theorem msk_ex (e : Ex H H1) : Ex (msk M H) (msk M H1) := fun a o h => by
  by_cases q : a ∈ M
  · rw [msk_in q] at h; cases h
  · rw [msk_out q] at h ⊢; exact e a o h
theorem msk_le : Ex (msk M H) H := fun a o h => by
  by_cases q : a ∈ M
  · rw [msk_in q] at h; cases h
  · rw [msk_out q] at h; exact h
theorem msk_sub (s : ∀ a ∈ N, a ∈ M) : Ex (msk M H) (msk N H) := fun a o h => by
  by_cases q : a ∈ M
  · rw [msk_in q] at h; cases h
  · rw [msk_out q] at h
    rw [msk_out fun z => q (s a z)]
    exact h
theorem msk_upd {l : Addr} {o : HO} (h : l ∈ M) : msk M (upd H l o) = msk M H := by
  funext a
  by_cases q : a ∈ M
  · rw [msk_in q, msk_in q]
  · rw [msk_out q, msk_out q, upd_ne (fun z => q (by rw [z]; exact h))]
theorem msk_new {p : Addr} {o : HO} (h : H p = none) : Ex (msk M H) (msk (p :: M) (upd H p o)) := fun a u e => by
  by_cases q : a ∈ M
  · rw [msk_in q] at e; cases e
  · rw [msk_out q] at e
    have n : a ≠ p := ne_of_none e h
    rw [msk_out (by simp [n, q]), upd_ne n]
    exact e
theorem MOk.ex (e : Ex H H1) (m : MOk M H) : MOk M H1 := fun l hl z => by
  have := m l hl
  cases q : H l with
  | none => exact this q
  | some o => rw [e l o q] at z; cases z
theorem MOk.nin {p : Addr} (m : MOk M H) (h : H p = none) : p ∉ M := fun z => m p z h
theorem msk_at {p : Addr} {o : HO} (m : MOk M H) (h : H p = none) : msk M (upd H p o) p = some o := by
  rw [msk_out (m.nin h), upd_same]
theorem Dt.mono (e : Ex H H1) (h : Dt K H v x) : Dt K H1 v x := dp_mono e h
theorem Dts.mono {vs : List V} {xs : List α} (e : Ex H H1) (h : Dts K H vs xs) : Dts K H1 vs xs := dpa_mono e h
theorem Dts.len {vs : List V} {xs : List α} (h : Dts K H vs xs) : vs.length = xs.length := by
  have := dpa_len h
  rwa [List.length_map] at this
theorem Dts.nil : Dts K H [] ([] : List α) := XpAll.nil
theorem Dts.cons {vs : List V} {xs : List α} (a : Dt K H v x) (b : Dts K H vs xs) : Dts K H (v :: vs) (x :: xs) := XpAll.cons a b
theorem Dts.app {vs ws : List V} {xs ys : List α} (a : Dts K H vs xs) (b : Dts K H ws ys) : Dts K H (vs ++ ws) (xs ++ ys) := by
  unfold Dts
  rw [List.map_append]
  exact dpa_app a b
theorem Dts.snoc {vs : List V} {xs : List α} (b : Dts K H vs xs) (a : Dt K H v x) : Dts K H (vs ++ [v]) (xs ++ [x]) := b.app (XpAll.cons a XpAll.nil)
theorem Dts.at {vs : List V} {xs : List α} {i : Nat} {x : α} (h : Dts K H vs xs) (e : xs[i]? = some x) : ∃ v, vs[i]? = some v ∧ Dt K H v x :=
  dpa_at h (by rw [List.getElem?_map, e]; rfl)
theorem Dt.int {i : Int} (h : Dt K H v i) : v = .int i := by
  cases (show Xp K H v (.int i) from h); rfl
theorem Dt.ofInt (i : Int) : Dt K H (.int i) i := Xp.int i
theorem Dt.bool {i : Bool} (h : Dt K H v i) : v = .bl i := by
  cases (show Xp K H v (.bool i) from h); rfl
theorem Dt.ofBool (i : Bool) : Dt K H (.bl i) i := Xp.bl i
theorem Dt.str {i : Str} (h : Dt K H v i) : v = .str i := by
  cases (show Xp K H v (.str i) from h); rfl
theorem Dt.ofStr (i : Str) : Dt K H (.str i) i := Xp.str i
theorem Dt.unit {i : Unit} (h : Dt K H v i) : v = .non := by
  cases (show Xp K H v .none from h); rfl
theorem Dt.list {xs : List α} (h : Dt K H v xs) : ∃ a vs, v = .ref a ∧ SqL K H a vs ∧ Dts K H vs xs := by
  cases (show Xp K H v (.list _) from h) with
  | lst a b => exact ⟨_, _, rfl, a, b⟩
theorem Dt.ofList {a : Addr} {vs : List V} {xs : List α} (h : SqL K H a vs) (d : Dts K H vs xs) : Dt K H (.ref a) xs := Xp.lst h d
theorem Dt.tupv {xs : Tup α} (h : Dt K H v xs) : ∃ a vs, v = .ref a ∧ SqT K H a vs ∧ Dts K H vs xs.items := by
  cases (show Xp K H v (.tuple _) from h) with
  | tup a b => exact ⟨_, _, rfl, a, b⟩
theorem Dt.ofTupv {a : Addr} {vs : List V} {xs : Tup α} (h : SqT K H a vs) (d : Dts K H vs xs.items) : Dt K H (.ref a) xs := Xp.tup h d
end
section
variable {α β γ δ : Type} [DecidableEq α] [Dx α] [DecidableEq β] [Dx β] [DecidableEq γ] [Dx γ] [DecidableEq δ] [Dx δ] {H H1 H2 : Hp} {v : V}
theorem Dt.pair {p : α × β} (h : Dt K H v p) : ∃ l a b, v = .ref l ∧ SqT K H l [a, b] ∧ Dt K H a p.1 ∧ Dt K H b p.2 := by
  cases (show Xp K H v (.tuple [_, _]) from h) with
  | tup s b =>
    cases b with
    | cons b1 b =>
      cases b with
      | cons b2 b =>
        cases b
        exact ⟨_, _, _, rfl, s, b1, b2⟩
theorem Dt.ofPair {l : Addr} {a b : V} {x : α} {y : β} (s : SqT K H l [a, b]) (ha : Dt K H a x) (hb : Dt K H b y) : Dt K H (.ref l) (x, y) := Xp.tup s (.cons ha (.cons hb .nil))
theorem Dt.t3 {p : T3 α β γ} (h : Dt K H v p) : ∃ l a b c, v = .ref l ∧ SqT K H l [a, b, c] ∧ Dt K H a p.a ∧ Dt K H b p.b ∧ Dt K H c p.c := by
  cases (show Xp K H v (.tuple [_, _, _]) from h) with
  | tup s b =>
    cases b with
    | cons b1 b =>
      cases b with
      | cons b2 b =>
        cases b with
        | cons b3 b =>
          cases b
          exact ⟨_, _, _, _, rfl, s, b1, b2, b3⟩
theorem Dt.ofT3 {l : Addr} {a b c : V} {x : α} {y : β} {z : γ} (s : SqT K H l [a, b, c]) (ha : Dt K H a x) (hb : Dt K H b y) (hc : Dt K H c z) : Dt K H (.ref l) (T3.mk x y z) := Xp.tup s (.cons ha (.cons hb (.cons hc .nil)))
theorem Dt.t4 {p : T4 α β γ δ} (h : Dt K H v p) : ∃ l a b c d, v = .ref l ∧ SqT K H l [a, b, c, d] ∧ Dt K H a p.a ∧ Dt K H b p.b ∧ Dt K H c p.c ∧ Dt K H d p.d := by
  cases (show Xp K H v (.tuple [_, _, _, _]) from h) with
  | tup s b =>
    cases b with
    | cons b1 b =>
      cases b with
      | cons b2 b =>
        cases b with
        | cons b3 b =>
          cases b with
          | cons b4 b =>
            cases b
            exact ⟨_, _, _, _, _, rfl, s, b1, b2, b3, b4⟩
theorem Dt.ofT4 {l : Addr} {a b c d : V} {x : α} {y : β} {z : γ} {u : δ} (s : SqT K H l [a, b, c, d]) (ha : Dt K H a x) (hb : Dt K H b y) (hc : Dt K H c z) (hd : Dt K H d u) : Dt K H (.ref l) (T4.mk x y z u) := Xp.tup s (.cons ha (.cons hb (.cons hc (.cons hd .nil))))
end
end Ly

namespace Ly
open PySem PySem.Spec PyProof.Rows L2 Evl
open PySem.W (Datum DatumOrd Tup T3 T4)

/-! ### what an expression gives -/
section
variable {K : PySem.W.Frag} {M : List Addr} {σ : L2.St} {H H' : Hp} {te ta tb tc td : TE} {tt tu : TT}
variable {α β γ δ ε : Type} [DecidableEq α] [Dx α] [DecidableEq β] [Dx β] [DecidableEq γ] [Dx γ] [DecidableEq δ] [Dx δ] [DecidableEq ε] [Dx ε]

def Hv (K : PySem.W.Frag) (M : List Addr) (te : TE) (σ : L2.St) (H : Hp) (x : α) : Prop :=
  ∀ H1, Ex H H1 → MOk M H1 → ∀ Q : VK, (∀ v H2, Ex H1 H2 → Dt K (msk M H2) v x → Q v H2) → te σ H1 Q
def HT (M : List Addr) (tt : TT) (σ : L2.St) (H : Hp) (b : Bool) : Prop :=
  ∀ H1, Ex H H1 → MOk M H1 → ∀ Q : Bool → Hp → Prop, (∀ H2, Ex H1 H2 → Q b H2) → tt σ H1 Q
/-- arguments: P of their values -/
def HA (M : List Addr) (ta : TA) (σ : L2.St) (H : Hp) (P : List V → Hp → Prop) : Prop :=
  ∀ H1, Ex H H1 → MOk M H1 → ∀ Q : List V → Hp → Prop, (∀ vs H2, Ex H1 H2 → P vs H2 → Q vs H2) → ta σ H1 Q
theorem Hv.mono {x : α} (e : Ex H H') (h : Hv K M te σ H x) : Hv K M te σ H' x := fun H1 a m Q q => h H1 (e.trans a) m Q q
theorem HT.mono {b : Bool} (e : Ex H H') (h : HT M tt σ H b) : HT M tt σ H' b := fun H1 a m Q q => h H1 (e.trans a) m Q q
theorem Hv.is {x y : α} (h : Hv K M te σ H x) (e : x = y) : Hv K M te σ H y := by rw [← e]; exact h
theorem HT.is {x y : Bool} (h : HT M tt σ H x) (e : x = y) : HT M tt σ H y := by rw [← e]; exact h
/-- a value that is told -/
theorem hv_ev {v : V} {x : α} (h : Ev te σ H v) (d : Dt K (msk M H) v x) : Hv K M te σ H x := fun H1 e m Q q =>
  h H1 e Q fun H2 e2 => q v H2 e2 (d.mono (msk_ex (e.trans e2)))
theorem hv_evI {x : Int} (h : Ev te σ H (.int x)) : Hv K M te σ H x := hv_ev h (Dt.ofInt x)
theorem hv_evB {x : Bool} (h : Ev te σ H (.bl x)) : Hv K M te σ H x := hv_ev h (Dt.ofBool x)
theorem hv_evS {x : Str} (h : Ev te σ H (.str x)) : Hv K M te σ H x := hv_ev h (Dt.ofStr x)
theorem ev_hvI {x : Int} (h : Hv K M te σ H x) (m : MOk M H) : Ev te σ H (.int x) := fun H1 e Q q =>
  h H1 e (m.ex e) Q fun v H2 e2 d => by rw [d.int]; exact q H2 e2
theorem ev_hvB {x : Bool} (h : Hv K M te σ H x) (m : MOk M H) : Ev te σ H (.bl x) := fun H1 e Q q =>
  h H1 e (m.ex e) Q fun v H2 e2 d => by rw [d.bool]; exact q H2 e2
theorem ev_hvS {x : Str} (h : Hv K M te σ H x) (m : MOk M H) : Ev te σ H (.str x) := fun H1 e Q q =>
  h H1 e (m.ex e) Q fun v H2 e2 d => by rw [d.str]; exact q H2 e2
theorem hv_var {i : Nat} {v : V} {x : α} (h : σ[i]? = some (some v)) (d : Dt K (msk M H) v x) : Hv K M (tVar i) σ H x := hv_ev (ev_var h) d
theorem hv_vI {i : Nat} {x : Int} (h : σ[i]? = some (some (.int x))) : Hv K M (tVar i) σ H x := hv_evI (ev_var h)
theorem hv_vB {i : Nat} {x : Bool} (h : σ[i]? = some (some (.bl x))) : Hv K M (tVar i) σ H x := hv_evB (ev_var h)
theorem hv_vS {i : Nat} {x : Str} (h : σ[i]? = some (some (.str x))) : Hv K M (tVar i) σ H x := hv_evS (ev_var h)
theorem hv_int (n : Int) : Hv K M (tC (.int n)) σ H n := hv_evI ev_c
theorem hv_bl (n : Bool) : Hv K M (tC (.bl n)) σ H n := hv_evB ev_c
theorem hv_str (n : Str) : Hv K M (tC (.str n)) σ H n := hv_evS ev_c
theorem hv_none : Hv K M (tC .non) σ H (none : Option α) := hv_ev ev_c Xp.non
theorem hv_some {x : α} (h : Hv K M te σ H x) : Hv K M te σ H (some x) := fun H1 e m Q q => h H1 e m Q fun v H2 e2 d => q v H2 e2 d

/-! ### whole numbers -/
theorem hv_op0 {g : Int → Int → Int} {i j : Int} (ha : Hv K M ta σ H i) (hb : Hv K M tb σ H j) : Hv K M (tOp (rI0 fun i j => .int (g i j)) ta tb) σ H (g i j) := fun H1 e m Q q =>
  ha H1 e m _ fun v H2 e2 d => hb H2 (e.trans e2) (m.ex e2) _ fun u H3 e3 d' => ⟨i, j, d.int, d'.int, q _ H3 (e2.trans e3) (Dt.ofInt _)⟩
theorem hv_opC {C : Int → Int → Prop} {g : Int → Int → Int} {i j : Int} (ha : Hv K M ta σ H i) (hb : Hv K M tb σ H j) (c : C i j) : Hv K M (tOp (rI C fun i j => .int (g i j)) ta tb) σ H (g i j) := fun H1 e m Q q =>
  ha H1 e m _ fun v H2 e2 d => hb H2 (e.trans e2) (m.ex e2) _ fun u H3 e3 d' => ⟨i, j, d.int, d'.int, c, q _ H3 (e2.trans e3) (Dt.ofInt _)⟩
theorem hv_cmp0 {g : Int → Int → Bool} {i j : Int} (ha : Hv K M ta σ H i) (hb : Hv K M tb σ H j) : Hv K M (tOp (rI0 fun i j => .bl (g i j)) ta tb) σ H (g i j) := fun H1 e m Q q =>
  ha H1 e m _ fun v H2 e2 d => hb H2 (e.trans e2) (m.ex e2) _ fun u H3 e3 d' => ⟨i, j, d.int, d'.int, q _ H3 (e2.trans e3) (Dt.ofBool _)⟩
theorem hv_neg {i : Int} (ha : Hv K M ta σ H i) : Hv K M (tUn (rU fun i => .int (-i)) ta) σ H (-i) := fun H1 e m Q q =>
  ha H1 e m _ fun v H2 e2 d => ⟨i, d.int, q _ H2 e2 (Dt.ofInt _)⟩
theorem hv_lt {i j : Int} (ha : Hv K M ta σ H i) (hb : Hv K M tb σ H j) : Hv K M (tOp (rI0 fun i j => .bl (decide (i < j))) ta tb) σ H (decide (i < j)) := hv_cmp0 (g := fun i j => decide (i < j)) ha hb
theorem hv_le {i j : Int} (ha : Hv K M ta σ H i) (hb : Hv K M tb σ H j) : Hv K M (tOp (rI0 fun i j => .bl (decide (i ≤ j))) ta tb) σ H (decide (i ≤ j)) := hv_cmp0 (g := fun i j => decide (i ≤ j)) ha hb
theorem hv_gt {i j : Int} (ha : Hv K M ta σ H i) (hb : Hv K M tb σ H j) : Hv K M (tOp (rI0 fun i j => .bl (decide (j < i))) ta tb) σ H (decide (j < i)) := hv_cmp0 (g := fun i j => decide (j < i)) ha hb
theorem hv_ge {i j : Int} (ha : Hv K M ta σ H i) (hb : Hv K M tb σ H j) : Hv K M (tOp (rI0 fun i j => .bl (decide (j ≤ i))) ta tb) σ H (decide (j ≤ i)) := hv_cmp0 (g := fun i j => decide (j ≤ i)) ha hb
theorem hv_add {i j : Int} (ha : Hv K M ta σ H i) (hb : Hv K M tb σ H j) : Hv K M (tOp (rI0 fun i j => .int (i + j)) ta tb) σ H (i + j) := hv_op0 (g := fun i j => i + j) ha hb
theorem hv_sub {i j : Int} (ha : Hv K M ta σ H i) (hb : Hv K M tb σ H j) : Hv K M (tOp (rI0 fun i j => .int (i - j)) ta tb) σ H (i - j) := hv_op0 (g := fun i j => i - j) ha hb
theorem hv_mul {i j : Int} (ha : Hv K M ta σ H i) (hb : Hv K M tb σ H j) (c : CMul i j) : Hv K M (tOp (rI CMul fun i j => .int (i * j)) ta tb) σ H (i * j) := hv_opC (g := fun i j => i * j) ha hb c
theorem hv_mod {i j : Int} (ha : Hv K M ta σ H i) (hb : Hv K M tb σ H j) (c : 0 < j) : Hv K M (tOp (rI (fun _ j => 0 < j) fun i j => .int (i % j)) ta tb) σ H (i % j) := hv_opC (C := fun _ j => 0 < j) (g := fun i j => i % j) ha hb c
theorem hv_div {i j : Int} (ha : Hv K M ta σ H i) (hb : Hv K M tb σ H j) (c : CDivW i j) : Hv K M (tOp (rI CDivW fun i j => .int (i / j)) ta tb) σ H (i / j) := hv_opC (g := fun i j => i / j) ha hb c
theorem hv_pow {i j : Int} (ha : Hv K M ta σ H i) (hb : Hv K M tb σ H j) (c : CPow i j) : Hv K M (tOp (rI CPow fun i j => .int (i ^ j.toNat)) ta tb) σ H (i ^ j.toNat) := hv_opC (g := fun i j => i ^ j.toNat) ha hb c
theorem hv_eqI {i j : Int} (ha : Hv K M ta σ H i) (hb : Hv K M tb σ H j) : Hv K M (tOp rEq ta tb) σ H (decide (i = j)) := fun H1 e m Q q =>
  ha H1 e m _ fun v H2 e2 d => hb H2 (e.trans e2) (m.ex e2) _ fun u H3 e3 d' => by
    rw [d.int, d'.int]
    exact ⟨rfl, q _ H3 (e2.trans e3) (by rw [show decide (V.int i = V.int j) = decide (i = j) from decide_eq_decide.mpr ⟨V.int.inj, fun z => by rw [z]⟩]; exact Dt.ofBool _)⟩
theorem hv_neI {i j : Int} (ha : Hv K M ta σ H i) (hb : Hv K M tb σ H j) : Hv K M (tOp rNe ta tb) σ H (!decide (i = j)) := fun H1 e m Q q =>
  ha H1 e m _ fun v H2 e2 d => hb H2 (e.trans e2) (m.ex e2) _ fun u H3 e3 d' => by
    rw [d.int, d'.int]
    exact ⟨rfl, q _ H3 (e2.trans e3) (by rw [show decide (V.int i = V.int j) = decide (i = j) from decide_eq_decide.mpr ⟨V.int.inj, fun z => by rw [z]⟩]; exact Dt.ofBool _)⟩
theorem hv_eqS {i j : Str} (ha : Hv K M ta σ H i) (hb : Hv K M tb σ H j) : Hv K M (tOp rEq ta tb) σ H (decide (i = j)) := fun H1 e m Q q =>
  ha H1 e m _ fun v H2 e2 d => hb H2 (e.trans e2) (m.ex e2) _ fun u H3 e3 d' => by
    rw [d.str, d'.str]
    exact ⟨rfl, q _ H3 (e2.trans e3) (by rw [show decide (V.str i = V.str j) = decide (i = j) from decide_eq_decide.mpr ⟨V.str.inj, fun z => by rw [z]⟩]; exact Dt.ofBool _)⟩
theorem hv_neS {i j : Str} (ha : Hv K M ta σ H i) (hb : Hv K M tb σ H j) : Hv K M (tOp rNe ta tb) σ H (!decide (i = j)) := fun H1 e m Q q =>
  ha H1 e m _ fun v H2 e2 d => hb H2 (e.trans e2) (m.ex e2) _ fun u H3 e3 d' => by
    rw [d.str, d'.str]
    exact ⟨rfl, q _ H3 (e2.trans e3) (by rw [show decide (V.str i = V.str j) = decide (i = j) from decide_eq_decide.mpr ⟨V.str.inj, fun z => by rw [z]⟩]; exact Dt.ofBool _)⟩
theorem hv_eqB {i j : Bool} (ha : Hv K M ta σ H i) (hb : Hv K M tb σ H j) : Hv K M (tOp rEq ta tb) σ H (decide (i = j)) := fun H1 e m Q q =>
  ha H1 e m _ fun v H2 e2 d => hb H2 (e.trans e2) (m.ex e2) _ fun u H3 e3 d' => by
    rw [d.bool, d'.bool]
    exact ⟨rfl, q _ H3 (e2.trans e3) (by rw [show decide (V.bl i = V.bl j) = decide (i = j) from decide_eq_decide.mpr ⟨V.bl.inj, fun z => by rw [z]⟩]; exact Dt.ofBool _)⟩

/-! ### tests -/
theorem ht_val {b : Bool} (h : Hv K M te σ H b) : HT M (tTest te) σ H b := fun H1 e m Q q => h H1 e m _ fun v H2 e2 d => ⟨b, d.bool, q H2 e2⟩
theorem ht_B {b : Bool} (h : Hv K M te σ H b) : HT M (tB te) σ H b := fun H1 e m Q q => h H1 e m _ fun v H2 e2 d => ⟨b, d.bool, q H2 e2⟩
theorem ht_and {a b : Bool} (h1 : HT M tt σ H a) (h2 : a = true → HT M tu σ H b) : HT M (tAnd tt tu) σ H (a && b) := fun H1 e m Q q => h1 H1 e m _ fun H2 e2 => by
  cases a with
  | true =>
    show tu σ H2 Q
    exact h2 rfl H2 (e.trans e2) (m.ex e2) Q fun H3 e3 => q H3 (e2.trans e3)
  | false =>
    show Q false H2
    exact q H2 e2
theorem ht_or {a b : Bool} (h1 : HT M tt σ H a) (h2 : a = false → HT M tu σ H b) : HT M (tOr tt tu) σ H (a || b) := fun H1 e m Q q => h1 H1 e m _ fun H2 e2 => by
  cases a with
  | true =>
    show Q true H2
    exact q H2 e2
  | false =>
    show tu σ H2 Q
    exact h2 rfl H2 (e.trans e2) (m.ex e2) Q fun H3 e3 => q H3 (e2.trans e3)
theorem ht_not {a : Bool} (h1 : HT M tt σ H a) : HT M (tNot tt) σ H (!a) := fun H1 e m _ q => h1 H1 e m _ fun H2 e2 => q H2 e2
theorem hv_and {a b : Bool} (h1 : Hv K M ta σ H a) (h2 : a = true → Hv K M tb σ H b) : Hv K M (tAndV ta tb) σ H (a && b) := fun H1 e m Q q => h1 H1 e m _ fun v H2 e2 d => ⟨a, d.bool, by
  cases a with
  | true =>
    show tb σ H2 Q
    exact h2 rfl H2 (e.trans e2) (m.ex e2) Q fun v H3 e3 => q v H3 (e2.trans e3)
  | false =>
    show Q (.bl false) H2
    exact q _ H2 e2 (Dt.ofBool _)⟩
theorem hv_or {a b : Bool} (h1 : Hv K M ta σ H a) (h2 : a = false → Hv K M tb σ H b) : Hv K M (tOrV ta tb) σ H (a || b) := fun H1 e m Q q => h1 H1 e m _ fun v H2 e2 d => ⟨a, d.bool, by
  cases a with
  | true =>
    show Q (.bl true) H2
    exact q _ H2 e2 (Dt.ofBool _)
  | false =>
    show tb σ H2 Q
    exact h2 rfl H2 (e.trans e2) (m.ex e2) Q fun v H3 e3 => q v H3 (e2.trans e3)⟩
theorem hv_not {a : Bool} (h1 : Hv K M ta σ H a) : Hv K M (tNotV ta) σ H (!a) := fun H1 e m _ q => h1 H1 e m _ fun v H2 e2 d => ⟨a, d.bool, q _ H2 e2 (Dt.ofBool _)⟩
theorem hv_ite {b : Bool} {x y : α} (h : HT M tt σ H b) (h1 : b = true → Hv K M ta σ H x) (h2 : b = false → Hv K M tb σ H y) : Hv K M (tIf tt ta tb) σ H (if b = true then x else y) := fun H1 e m Q q => h H1 e m _ fun H2 e2 => by
  cases b with
  | true =>
    show ta σ H2 Q
    exact h1 rfl H2 (e.trans e2) (m.ex e2) Q fun v H3 e3 => q v H3 (e2.trans e3)
  | false =>
    show tb σ H2 Q
    exact h2 rfl H2 (e.trans e2) (m.ex e2) Q fun v H3 e3 => q v H3 (e2.trans e3)

/-! ### tuples and lists that are written -/
theorem ha_nil : HA M tNil σ H (fun vs _ => vs = []) := fun H1 e m Q q => q [] H1 (Ex.refl H1) rfl
theorem ha_cons {tr : TA} {x : α} {P : List V → Hp → Prop} (h : Hv K M te σ H x) (hr : HA M tr σ H P) : HA M (tCons te tr) σ H (fun vs H => ∃ v r, vs = v :: r ∧ Dt K (msk M H) v x ∧ P r H) := fun H1 e m Q q =>
  h H1 e m _ fun v H2 e2 d => hr H2 (e.trans e2) (m.ex e2) _ fun vs H3 e3 p => q _ H3 (e2.trans e3) ⟨v, vs, rfl, d.mono (msk_ex e3), p⟩
/-- an argument whose value is told -/
theorem ha_consV {tr : TA} {v : V} {P : List V → Hp → Prop} (h : Ev te σ H v) (hr : HA M tr σ H P) : HA M (tCons te tr) σ H (fun vs H => ∃ r, vs = v :: r ∧ P r H) := fun H1 e m Q q =>
  h H1 e _ fun H2 e2 => hr H2 (e.trans e2) (m.ex e2) _ fun vs H3 e3 p => q _ H3 (e2.trans e3) ⟨vs, rfl, p⟩
theorem hv_tup2 {x : α} {y : β} (ha : Hv K M ta σ H x) (hb : Hv K M tb σ H y) : Hv K M (tTup (tCons ta (tCons tb tNil))) σ H (x, y) := fun H1 e m Q q =>
  ha H1 e m _ fun v H2 e2 d => hb H2 (e.trans e2) (m.ex e2) _ fun u H3 e3 d' => ⟨sz_of (by show 2 ≤ 100000; decide), fun p hp => by
    have m3 : MOk M H3 := m.ex (e2.trans e3)
    have e4 : Ex H3 (upd H3 p (.tup [v, u])) := Ex.new hp
    exact q _ _ ((e2.trans e3).trans e4) (Dt.ofPair (SqT.of (msk_at m3 hp)) (d.mono (msk_ex (e3.trans e4))) (d'.mono (msk_ex e4)))⟩
theorem hv_tup3 {x : α} {y : β} {z : γ} (ha : Hv K M ta σ H x) (hb : Hv K M tb σ H y) (hc : Hv K M tc σ H z) : Hv K M (tTup (tCons ta (tCons tb (tCons tc tNil)))) σ H (T3.mk x y z) := fun H1 e m Q q =>
  ha H1 e m _ fun v H2 e2 d => hb H2 (e.trans e2) (m.ex e2) _ fun u H3 e3 d' => hc H3 ((e.trans e2).trans e3) ((m.ex e2).ex e3) _ fun w H4 e4 d'' => ⟨sz_of (by show 3 ≤ 100000; decide), fun p hp => by
    have m4 : MOk M H4 := m.ex ((e2.trans e3).trans e4)
    have e5 : Ex H4 (upd H4 p (.tup [v, u, w])) := Ex.new hp
    exact q _ _ (((e2.trans e3).trans e4).trans e5) (Dt.ofT3 (SqT.of (msk_at m4 hp)) (d.mono (msk_ex ((e3.trans e4).trans e5))) (d'.mono (msk_ex (e4.trans e5))) (d''.mono (msk_ex e5)))⟩
theorem hv_tup4 {x : α} {y : β} {z : γ} {w : δ} (ha : Hv K M ta σ H x) (hb : Hv K M tb σ H y) (hc : Hv K M tc σ H z) (hd : Hv K M td σ H w) : Hv K M (tTup (tCons ta (tCons tb (tCons tc (tCons td tNil))))) σ H (T4.mk x y z w) := fun H1 e m Q q =>
  ha H1 e m _ fun v H2 e2 d => hb H2 (e.trans e2) (m.ex e2) _ fun u H3 e3 d' => hc H3 ((e.trans e2).trans e3) ((m.ex e2).ex e3) _ fun w H4 e4 d'' => hd H4 (((e.trans e2).trans e3).trans e4) (((m.ex e2).ex e3).ex e4) _ fun r H5 e5 d3 => ⟨sz_of (by show 4 ≤ 100000; decide), fun p hp => by
    have m4 : MOk M H5 := m.ex (((e2.trans e3).trans e4).trans e5)
    have e6 : Ex H5 (upd H5 p (.tup [v, u, w, r])) := Ex.new hp
    exact q _ _ ((((e2.trans e3).trans e4).trans e5).trans e6) (Dt.ofT4 (SqT.of (msk_at m4 hp)) (d.mono (msk_ex (((e3.trans e4).trans e5).trans e6))) (d'.mono (msk_ex ((e4.trans e5).trans e6))) (d''.mono (msk_ex (e5.trans e6))) (d3.mono (msk_ex e6)))⟩
/-- items of one type -/
def HAs (K : PySem.W.Frag) (M : List Addr) (ta : TA) (σ : L2.St) (H : Hp) (xs : List α) : Prop := HA M ta σ H (fun vs H => Dts K (msk M H) vs xs)
theorem has_nil : HAs K M tNil σ H ([] : List α) := fun H1 e m Q q => q [] H1 (Ex.refl H1) Dts.nil
theorem has_cons {tr : TA} {x : α} {xs : List α} (h : Hv K M te σ H x) (hr : HAs K M tr σ H xs) : HAs K M (tCons te tr) σ H (x :: xs) := fun H1 e m Q q =>
  h H1 e m _ fun v H2 e2 d => hr H2 (e.trans e2) (m.ex e2) _ fun vs H3 e3 p => q _ H3 (e2.trans e3) (Dts.cons (d.mono (msk_ex e3)) p)
theorem hv_lst {tr : TA} {xs : List α} (h : HAs K M tr σ H xs) (hl : xs.length ≤ 100000) : Hv K M (tLst tr) σ H xs := fun H1 e m Q q =>
  h H1 e m _ fun vs H2 e2 d => ⟨sz_of (by rw [d.len]; exact hl), fun p hp => by
    have e3 : Ex H2 (upd H2 p (.lst vs)) := Ex.new hp
    exact q _ _ (e2.trans e3) (Dt.ofList (SqL.of (msk_at (m.ex e2) hp)) (d.mono (msk_ex e3)))⟩
theorem hv_tupv {tr : TA} {xs : List α} (h : HAs K M tr σ H xs) (hl : xs.length ≤ 100000) : Hv K M (tTup tr) σ H (Tup.mk xs) := fun H1 e m Q q =>
  h H1 e m _ fun vs H2 e2 d => ⟨sz_of (by rw [d.len]; exact hl), fun p hp => by
    have e3 : Ex H2 (upd H2 p (.tup vs)) := Ex.new hp
    exact q _ _ (e2.trans e3) (Dt.ofTupv (SqT.of (msk_at (m.ex e2) hp)) (d.mono (msk_ex e3)))⟩

/-! ### items -/
theorem hv_ixL {xs : List α} {i : Int} {x : α} (ha : Hv K M ta σ H xs) (hb : Hv K M tb σ H i) (h0 : 0 ≤ i) (hx : xs[i.toNat]? = some x) : Hv K M (tOp (rIxL K) ta tb) σ H x := fun H1 e m Q q =>
  ha H1 e m _ fun v H2 e2 d => hb H2 (e.trans e2) (m.ex e2) _ fun u H3 e3 d' => by
    obtain ⟨a, vs, rfl, s, ds⟩ := d.list
    obtain ⟨w, h1, h2⟩ := ds.at hx
    exact ⟨a, vs, i, w, rfl, d'.int, ex_l (msk_le.trans e3) s, at_of (Int.toNat_of_nonneg h0).symm h1, q w H3 (e2.trans e3) (h2.mono (msk_ex e3))⟩
theorem hv_ixV {xs : Tup α} {i : Int} {x : α} (ha : Hv K M ta σ H xs) (hb : Hv K M tb σ H i) (h0 : 0 ≤ i) (hx : xs.items[i.toNat]? = some x) : Hv K M (tOp (rIxT K) ta tb) σ H x := fun H1 e m Q q =>
  ha H1 e m _ fun v H2 e2 d => hb H2 (e.trans e2) (m.ex e2) _ fun u H3 e3 d' => by
    obtain ⟨a, vs, rfl, s, ds⟩ := d.tupv
    obtain ⟨w, h1, h2⟩ := ds.at hx
    exact ⟨a, vs, i, w, rfl, d'.int, ex_t (msk_le.trans e3) s, at_of (Int.toNat_of_nonneg h0).symm h1, q w H3 (e2.trans e3) (h2.mono (msk_ex e3))⟩
theorem hv_p0 {p : α × β} (ha : Hv K M ta σ H p) : Hv K M (tOp (rIxT K) ta (tC (.int 0))) σ H p.1 := fun H1 e m Q q =>
  ha H1 e m _ fun v H2 e2 d => by
    obtain ⟨l, a, b, rfl, s, d1, d2⟩ := d.pair
    exact ⟨l, [a, b], 0, a, rfl, rfl, ex_t msk_le s, at_of (j := 0) rfl rfl, q a H2 e2 d1⟩
theorem hv_p1 {p : α × β} (ha : Hv K M ta σ H p) : Hv K M (tOp (rIxT K) ta (tC (.int 1))) σ H p.2 := fun H1 e m Q q =>
  ha H1 e m _ fun v H2 e2 d => by
    obtain ⟨l, a, b, rfl, s, d1, d2⟩ := d.pair
    exact ⟨l, [a, b], 1, b, rfl, rfl, ex_t msk_le s, at_of (j := 1) rfl rfl, q b H2 e2 d2⟩
theorem hv_t30 {p : T3 α β γ} (ha : Hv K M ta σ H p) : Hv K M (tOp (rIxT K) ta (tC (.int 0))) σ H p.a := fun H1 e m Q q =>
  ha H1 e m _ fun v H2 e2 d => by
    obtain ⟨l, a, b, c, rfl, s, d1, d2, d3⟩ := d.t3
    exact ⟨l, [a, b, c], 0, a, rfl, rfl, ex_t msk_le s, at_of (j := 0) rfl rfl, q a H2 e2 d1⟩
theorem hv_t31 {p : T3 α β γ} (ha : Hv K M ta σ H p) : Hv K M (tOp (rIxT K) ta (tC (.int 1))) σ H p.b := fun H1 e m Q q =>
  ha H1 e m _ fun v H2 e2 d => by
    obtain ⟨l, a, b, c, rfl, s, d1, d2, d3⟩ := d.t3
    exact ⟨l, [a, b, c], 1, b, rfl, rfl, ex_t msk_le s, at_of (j := 1) rfl rfl, q b H2 e2 d2⟩
theorem hv_t32 {p : T3 α β γ} (ha : Hv K M ta σ H p) : Hv K M (tOp (rIxT K) ta (tC (.int 2))) σ H p.c := fun H1 e m Q q =>
  ha H1 e m _ fun v H2 e2 d => by
    obtain ⟨l, a, b, c, rfl, s, d1, d2, d3⟩ := d.t3
    exact ⟨l, [a, b, c], 2, c, rfl, rfl, ex_t msk_le s, at_of (j := 2) rfl rfl, q c H2 e2 d3⟩
def T3.at {α : Type} (p : T3 α α α) (i : Int) : α := if i = 0 then p.a else if i = 1 then p.b else p.c
theorem hv_t3i {p : T3 α α α} {i : Int} (ha : Hv K M ta σ H p) (hb : Hv K M tb σ H i) (h0 : 0 ≤ i) (h3 : i < 3) : Hv K M (tOp (rIxT K) ta tb) σ H (Ly.T3.at p i) := fun H1 e m Q q =>
  ha H1 e m _ fun v H2 e2 d => hb H2 (e.trans e2) (m.ex e2) _ fun u H3 e3 d' => by
    obtain ⟨l, a, b, c, rfl, s, d1, d2, d3⟩ := d.t3
    have hh : i = 0 ∨ i = 1 ∨ i = 2 := by omega
    rcases hh with rfl | rfl | rfl
    · exact ⟨l, [a, b, c], 0, a, rfl, d'.int, ex_t (msk_le.trans e3) s, at_of (j := 0) rfl rfl, q a H3 (e2.trans e3) (d1.mono (msk_ex e3))⟩
    · exact ⟨l, [a, b, c], 1, b, rfl, d'.int, ex_t (msk_le.trans e3) s, at_of (j := 1) rfl rfl, q b H3 (e2.trans e3) (d2.mono (msk_ex e3))⟩
    · exact ⟨l, [a, b, c], 2, c, rfl, d'.int, ex_t (msk_le.trans e3) s, at_of (j := 2) rfl rfl, q c H3 (e2.trans e3) (d3.mono (msk_ex e3))⟩
end
end Ly

namespace Ly
open PySem PySem.Spec PyProof.Rows L2 Evl
open PySem.W (Datum DatumOrd Tup T3 T4)

/-! ### the state of a def: what its names hold -/
/-- what a thing that may still change holds -/
inductive Mv where
  | lst (ds : List Xd)
  | dic (kds : List (Key × Xd))
  | ins (C dx : Addr) (nds : List (Str × Xd))
def MvOk (K : PySem.W.Frag) (H : Hp) (o : HO) : Mv → Prop
  | .lst ds => ∃ vs, o = .lst vs ∧ XpAll K H vs ds
  | .dic kds => ∃ kvs, o = .dK kvs ∧ kvs.map (·.1) = kds.map (·.1) ∧ XpAll K H (kvs.map (·.2)) (kds.map (·.2))
  | .ins C dx nds => ∃ fs, o = .ins C dx fs ∧ fs.map (·.1) = nds.map (·.1) ∧ XpAll K H (fs.map (·.2)) (nds.map (·.2))
theorem MvOk.mono {K : PySem.W.Frag} {H H' : Hp} {o : HO} {m : Mv} (e : Ex H H') (h : MvOk K H o m) : MvOk K H' o m := by
  cases m with
  | lst ds => obtain ⟨vs, e1, e2⟩ := h; exact ⟨vs, e1, dpa_mono e e2⟩
  | dic kds => obtain ⟨vs, e1, e2, e3⟩ := h; exact ⟨vs, e1, e2, dpa_mono e e3⟩
  | ins C dx nds => obtain ⟨vs, e1, e2, e3⟩ := h; exact ⟨vs, e1, e2, dpa_mono e e3⟩
abbrev Mus := List (Addr × Mv)
abbrev Ims := List (V × Xd)
def muA (mus : Mus) : List Addr := mus.map (·.1)
def Im (K : PySem.W.Frag) (H : Hp) : Ims → Prop
  | [] => True
  | (v, d) :: r => Xp K H v d ∧ Im K H r
def Mu (K : PySem.W.Frag) (Hm H : Hp) : Mus → Prop
  | [] => True
  | (l, m) :: r => (∃ o, H l = some o ∧ MvOk K Hm o m) ∧ Mu K Hm H r
theorem Im.mono {K : PySem.W.Frag} {H H' : Hp} (e : Ex H H') : ∀ {is : Ims}, Im K H is → Im K H' is
  | [], h => h
  | (_, _) :: _, h => ⟨dp_mono e h.1, Im.mono e h.2⟩
theorem Mu.mono {K : PySem.W.Frag} {Hm Hm' H H' : Hp} (e : Ex Hm Hm') (e' : Ex H H') : ∀ {ms : Mus}, Mu K Hm H ms → Mu K Hm' H' ms
  | [], h => h
  | (l, m) :: _, h => by
    obtain ⟨⟨o, h1, h2⟩, h3⟩ := h
    exact ⟨⟨o, e' l o h1, h2.mono e⟩, Mu.mono e e' h3⟩
theorem Mu.upd {K : PySem.W.Frag} {Hm H : Hp} {p : Addr} {o : HO} : ∀ {ms : Mus}, p ∉ muA ms → Mu K Hm H ms → Mu K Hm (upd H p o) ms
  | [], _, h => h
  | (l, m) :: r, n, h => by
    have n' : l ≠ p ∧ p ∉ muA r := by
      unfold muA at n
      simp only [List.map_cons, List.mem_cons, not_or] at n
      exact ⟨fun z => n.1 z.symm, n.2⟩
    obtain ⟨⟨o', h1, h2⟩, h3⟩ := h
    exact ⟨⟨o', by rw [upd_ne n'.1]; exact h1, h2⟩, Mu.upd n'.2 h3⟩
theorem Mu.get {K : PySem.W.Frag} {Hm H : Hp} : ∀ {ms : Mus} {k : Nat} {l : Addr} {m : Mv}, Mu K Hm H ms → ms[k]? = some (l, m) → ∃ o, H l = some o ∧ MvOk K Hm o m
  | [], k, _, _, _, e => by simp at e
  | (l, m) :: r, 0, _, _, h, e => by
    have e' : (l, m) = _ := Option.some.inj (show some (l, m) = some _ from e)
    cases e'
    exact h.1
  | (l, m) :: r, k + 1, _, _, h, e => Mu.get (ms := r) h.2 (by simpa using e)
theorem mem_muA {ms : Mus} {k : Nat} {l : Addr} {m : Mv} (e : ms[k]? = some (l, m)) : l ∈ muA ms := by
  have h : (l, m) ∈ ms := List.mem_of_getElem? e
  exact List.mem_map.mpr ⟨_, h, rfl⟩
theorem muA_set : ∀ {ms : Mus} {k : Nat} {l : Addr} {m m' : Mv}, ms[k]? = some (l, m) → muA (ms.set k (l, m')) = muA ms
  | [], k, _, _, _, e => by simp at e
  | (l, m) :: r, 0, _, _, _, e => by
    have e' : (l, m) = _ := Option.some.inj (show some (l, m) = some _ from e)
    cases e'
    rfl
  | (l, m) :: r, k + 1, l', m0, m', e => by
    have := muA_set (ms := r) (k := k) (m' := m') (show r[k]? = some (l', m0) by simpa using e)
    show l :: muA (r.set k (l', m')) = l :: muA r
    rw [this]
theorem Mu.set {K : PySem.W.Frag} {Hm H : Hp} {o : HO} {m' : Mv} : ∀ {ms : Mus} {k : Nat} {l : Addr} {m : Mv}, (muA ms).Nodup → ms[k]? = some (l, m) → MvOk K Hm o m' → Mu K Hm H ms → Mu K Hm (L2.upd H l o) (ms.set k (l, m'))
  | [], k, _, _, _, e, _, _ => by simp at e
  | (l, m) :: r, 0, _, _, nd, e, ok, h => by
    have e' : (l, m) = _ := Option.some.inj (show some (l, m) = some _ from e)
    cases e'
    have nd' : l ∉ muA r ∧ (muA r).Nodup := List.nodup_cons.mp nd
    exact ⟨⟨o, upd_same, ok⟩, Mu.upd nd'.1 h.2⟩
  | (l, m) :: r, k + 1, l', m0, nd, e, ok, h => by
    have nd' : l ∉ muA r ∧ (muA r).Nodup := List.nodup_cons.mp nd
    have e' : r[k]? = some (l', m0) := by simpa using e
    have ne : l ≠ l' := fun z => nd'.1 (z ▸ mem_muA e')
    obtain ⟨⟨o', h1, h2⟩, h3⟩ := h
    exact ⟨⟨o', by rw [upd_ne ne]; exact h1, h2⟩, Mu.set (ms := r) nd'.2 e' ok h3⟩

/-- Mc: what the caller may still change; He: the heap at the entry -/
structure Sg (K : PySem.W.Frag) (Mc : List Addr) (He H : Hp) (is : Ims) (ms : Mus) : Prop where
  ext : Ex He (msk (muA ms) H)
  okc : MOk Mc He
  nd : (muA ms).Nodup
  im : Im K (msk (muA ms ++ Mc) H) is
  mu : Mu K (msk (muA ms ++ Mc) H) H ms
section
variable {K : PySem.W.Frag} {Mc : List Addr} {He H H1 H2 : Hp} {is js : Ims} {ms : Mus} {σ : L2.St} {te ta tb tl : TE}
variable {α β : Type} [DecidableEq α] [Dx α] [DecidableEq β] [Dx β]
theorem Sg.enter (m : MOk Mc He) (im : Im K (msk Mc He) is) : Sg K Mc He He is [] := by
  refine ⟨?_, m, List.nodup_nil, im, True.intro⟩
  show Ex He (msk [] He)
  rw [msk_nil]
  exact Ex.refl He
theorem Sg.all (s : Sg K Mc He H is ms) : Ex He H := s.ext.trans msk_le
theorem Sg.mok (s : Sg K Mc He H is ms) : MOk (muA ms ++ Mc) H := fun l hl => by
  rcases List.mem_append.mp hl with h | h
  · obtain ⟨p, hp, e⟩ := List.mem_map.mp h
    obtain ⟨k, hk⟩ := List.getElem?_of_mem hp
    obtain ⟨o, ho, _⟩ := s.mu.get (k := k) (l := p.1) (m := p.2) hk
    rw [← e, ho]
    exact fun z => nomatch z
  · exact (s.okc.ex s.all) l h
theorem Sg.new_of (s : Sg K Mc He H is ms) {l : Addr} (h : l ∈ muA ms) : He l = none := by
  cases q : He l with
  | none => rfl
  | some o =>
    have := s.ext l o q
    rw [msk_in h] at this
    cases this
theorem Sg.notc (s : Sg K Mc He H is ms) {l : Addr} (h : l ∈ muA ms) : l ∉ Mc := fun z => s.okc l z (s.new_of h)
theorem Sg.ex (s : Sg K Mc He H is ms) (e : Ex H H1) : Sg K Mc He H1 is ms :=
  ⟨s.ext.trans (msk_ex e), s.okc, s.nd, s.im.mono (msk_ex e), s.mu.mono (msk_ex e) e⟩
theorem Sg.put (s : Sg K Mc He H is ms) {v : V} {x : α} (d : Dt K (msk (muA ms ++ Mc) H) v x) : Sg K Mc He H ((v, Dx.toX x) :: is) ms :=
  ⟨s.ext, s.okc, s.nd, ⟨d, s.im⟩, s.mu⟩
/-- a new thing that may change -/
theorem Sg.new (s : Sg K Mc He H is ms) {p : Addr} {o : HO} {m : Mv} (hp : H p = none) (ok : MvOk K (msk (p :: (muA ms ++ Mc)) (upd H p o)) o m) : Sg K Mc He (upd H p o) is ((p, m) :: ms) := by
  have np : p ∉ muA ms := fun z => by
    have := s.mok p (List.mem_append_left _ z)
    exact this hp
  refine ⟨s.ext.trans (msk_new hp), s.okc, List.nodup_cons.mpr ⟨np, s.nd⟩, ?_, ⟨⟨o, upd_same, ok⟩, ?_⟩⟩
  · exact s.im.mono (msk_new hp)
  · have h := s.mu.mono (msk_new (M := muA ms ++ Mc) (o := o) hp) (Ex.refl H)
    exact Mu.upd np h
/-- the k-th of what may change, changed -/
theorem Sg.set (s : Sg K Mc He H is ms) {k : Nat} {l : Addr} {m m' : Mv} {o : HO} (e : ms[k]? = some (l, m)) (ok : MvOk K (msk (muA ms ++ Mc) H) o m') : Sg K Mc He (upd H l o) is (ms.set k (l, m')) := by
  have hl : l ∈ muA ms := mem_muA e
  have ea := muA_set (m' := m') e
  have hl2 : l ∈ muA ms ++ Mc := List.mem_append_left _ hl
  refine ⟨?_, s.okc, by rw [ea]; exact s.nd, ?_, ?_⟩
  · rw [ea, msk_upd hl]; exact s.ext
  · rw [ea, msk_upd hl2]; exact s.im
  · rw [ea, msk_upd hl2]; exact Mu.set s.nd e ok s.mu
/-- no longer changed: the head of what may change, a list -/
theorem Sg.frz {l : Addr} {xs : List α} (s : Sg K Mc He H is ((l, .lst (xs.map Dx.toX)) :: ms)) : Sg K Mc He H ((.ref l, Dx.toX xs) :: is) ms := by
  have sub : Ex (msk (muA ((l, Mv.lst (xs.map Dx.toX)) :: ms) ++ Mc) H) (msk (muA ms ++ Mc) H) := msk_sub fun a ha => List.mem_cons_of_mem _ ha
  have nd := List.nodup_cons.mp s.nd
  obtain ⟨⟨o, h1, vs, e, h2⟩, h3⟩ := s.mu
  subst e
  have nl : l ∉ muA ms ++ Mc := fun z => (List.mem_append.mp z).elim nd.1 (s.notc List.mem_cons_self)
  refine ⟨s.ext.trans (msk_sub fun a ha => List.mem_cons_of_mem _ ha), s.okc, nd.2, ⟨?_, s.im.mono sub⟩, h3.mono sub (Ex.refl H)⟩
  exact Dt.ofList (SqL.of (by rw [msk_out nl]; exact h1)) (dpa_mono sub h2)
/-- what stands first moves behind -/
theorem Sg.rot {l l' : Addr} {m m' : Mv} (s : Sg K Mc He H is ((l, m) :: (l', m') :: ms)) : Sg K Mc He H is ((l', m') :: (l, m) :: ms) := by
  have ea : ∀ N : List Addr, msk (l :: l' :: N) H = msk (l' :: l :: N) H := fun N => by
    funext a
    unfold msk
    by_cases h : a ∈ l :: l' :: N
    · rw [if_pos h, if_pos (by simp only [List.mem_cons] at h ⊢; rcases h with h | h | h <;> simp [h])]
    · rw [if_neg h, if_neg (by simp only [List.mem_cons, not_or] at h ⊢; exact ⟨h.2.1, h.1, h.2.2⟩)]
  refine ⟨?_, s.okc, ?_, ?_, ?_⟩
  · have := s.ext
    show Ex He (msk (l' :: l :: muA ms) H)
    rw [← ea]; exact this
  · have nd : (l :: l' :: muA ms).Nodup := s.nd
    show (l' :: l :: muA ms).Nodup
    simp only [List.nodup_cons, List.mem_cons, not_or] at nd ⊢
    exact ⟨⟨fun z => nd.1.1 z.symm, nd.2.1⟩, nd.1.2, nd.2.2⟩
  · show Im K (msk (l' :: l :: (muA ms ++ Mc)) H) is
    rw [← ea]; exact s.im
  · have mu : (∃ o, H l = some o ∧ MvOk K (msk (l :: l' :: (muA ms ++ Mc)) H) o m) ∧ (∃ o, H l' = some o ∧ MvOk K (msk (l :: l' :: (muA ms ++ Mc)) H) o m') ∧ Mu K (msk (l :: l' :: (muA ms ++ Mc)) H) H ms := s.mu
    show (∃ o, H l' = some o ∧ MvOk K (msk (l' :: l :: (muA ms ++ Mc)) H) o m') ∧ (∃ o, H l = some o ∧ MvOk K (msk (l' :: l :: (muA ms ++ Mc)) H) o m) ∧ Mu K (msk (l' :: l :: (muA ms ++ Mc)) H) H ms
    rw [← ea]
    exact ⟨mu.2.1, mu.1, mu.2.2⟩
/-- forgetting what is known of names -/
theorem Sg.keep (s : Sg K Mc He H is ms) (h : ∀ Hm, Im K Hm is → Im K Hm js) : Sg K Mc He H js ms := ⟨s.ext, s.okc, s.nd, h _ s.im, s.mu⟩
theorem Sg.lst (s : Sg K Mc He H is ms) {k : Nat} {l : Addr} {xs : List α} (e : ms[k]? = some (l, .lst (xs.map Dx.toX))) : ∃ vs, H l = some (.lst vs) ∧ Dts K (msk (muA ms ++ Mc) H) vs xs := by
  obtain ⟨o, h1, vs, e1, h2⟩ := s.mu.get e
  subst e1
  exact ⟨vs, h1, h2⟩

/-! ### a list that may still change, read -/
def HS (K : PySem.W.Frag) (M : List Addr) (te : TE) (σ : L2.St) (H : Hp) (xs : List α) : Prop :=
  ∀ H1, Ex H H1 → MOk M H1 → ∀ Q : VK, (∀ a vs H2, Ex H1 H2 → SqL K H2 a vs → Dts K (msk M H2) vs xs → Q (.ref a) H2) → te σ H1 Q
theorem hs_of {M : List Addr} {xs : List α} (h : Hv K M te σ H xs) : HS K M te σ H xs := fun H1 e m Q q =>
  h H1 e m Q fun v H2 e2 d => by
    obtain ⟨a, vs, rfl, s, ds⟩ := d.list
    exact q a vs H2 e2 (ex_l msk_le s) ds
theorem hs_mut (s : Sg K Mc He H is ms) {k i : Nat} {l : Addr} {xs : List α} (e : ms[k]? = some (l, .lst (xs.map Dx.toX))) (h : σ[i]? = some (some (.ref l))) : HS K (muA ms ++ Mc) (tVar i) σ H xs := fun H1 e1 m Q q => by
  obtain ⟨vs, h1, h2⟩ := (s.ex e1).lst e
  exact ⟨_, h, q l vs H1 (Ex.refl H1) (SqL.of h1) h2⟩
/-- all of it, for a use that leaves nothing behind -/
theorem hv_mut (s : Sg K Mc He H is ms) {k i : Nat} {l : Addr} {xs : List α} (e : ms[k]? = some (l, .lst (xs.map Dx.toX))) (h : σ[i]? = some (some (.ref l))) : Hv K [] (tVar i) σ H xs := fun H1 e1 m Q q => by
  obtain ⟨vs, h1, h2⟩ := (s.ex e1).lst e
  refine ⟨_, h, q _ H1 (Ex.refl H1) ?_⟩
  rw [msk_nil]
  exact Dt.ofList (SqL.of h1) (h2.mono msk_le)
theorem hv_whole (s : Sg K Mc He H is ms) {x : α} (h : Hv K (muA ms ++ Mc) te σ H x) : Hv K [] te σ H x := fun H1 e m Q q =>
  h H1 e (s.mok.ex e) Q fun v H2 e2 d => q v H2 e2 (by rw [msk_nil]; exact d.mono msk_le)
theorem hv_wholeS (s : Sg K Mc He H is ms) {xs : List α} (h : HS K (muA ms ++ Mc) te σ H xs) : Hv K [] te σ H xs := fun H1 e m Q q =>
  h H1 e (s.mok.ex e) Q fun a vs H2 e2 s2 d => q _ H2 e2 (by rw [msk_nil]; exact Dt.ofList s2 (d.mono msk_le))
theorem hv_backI {M : List Addr} {x : Int} (h : Hv K [] te σ H x) : Hv K M te σ H x := fun H1 e m Q q =>
  h H1 e (fun _ z => nomatch z) Q fun v H2 e2 d => by rw [d.int]; exact q _ H2 e2 (Dt.ofInt x)
theorem hv_backB {M : List Addr} {x : Bool} (h : Hv K [] te σ H x) : Hv K M te σ H x := fun H1 e m Q q =>
  h H1 e (fun _ z => nomatch z) Q fun v H2 e2 d => by rw [d.bool]; exact q _ H2 e2 (Dt.ofBool x)
theorem hv_backS {M : List Addr} {x : Str} (h : Hv K [] te σ H x) : Hv K M te σ H x := fun H1 e m Q q =>
  h H1 e (fun _ z => nomatch z) Q fun v H2 e2 d => by rw [d.str]; exact q _ H2 e2 (Dt.ofStr x)
theorem hv_ixS {M : List Addr} {xs : List α} {i : Int} {x : α} (ha : HS K M ta σ H xs) (hb : Hv K M tb σ H i) (h0 : 0 ≤ i) (hx : xs[i.toNat]? = some x) : Hv K M (tOp (rIxL K) ta tb) σ H x := fun H1 e m Q q =>
  ha H1 e m _ fun a vs H2 e2 s ds => hb H2 (e.trans e2) (m.ex e2) _ fun u H3 e3 d' => by
    obtain ⟨w, h1, h2⟩ := ds.at hx
    exact ⟨a, vs, i, w, rfl, d'.int, ex_l e3 s, at_of (Int.toNat_of_nonneg h0).symm h1, q w H3 (e2.trans e3) (h2.mono (msk_ex e3))⟩

/-! ### statements -/
variable {D : Ends} {tz tu tw : TS} {tt : TT} {g : TG}
theorem z_asg {i : Nat} {x : α} (s : Sg K Mc He H is ms) (h : Hv K (muA ms ++ Mc) te σ H x) (k : ∀ v H1, Sg K Mc He H1 ((v, Dx.toX x) :: is) ms → tz D (σ.set i (some v)) H1) : tSeq (tAsg te (gName i)) tz D σ H :=
  h H (Ex.refl H) s.mok _ fun v H1 e d => k v H1 ((s.ex e).put d)
theorem z_asgI {i : Nat} {x : Int} (s : Sg K Mc He H is ms) (h : Hv K (muA ms ++ Mc) te σ H x) (k : ∀ H1, Sg K Mc He H1 is ms → tz D (σ.set i (some (.int x))) H1) : tSeq (tAsg te (gName i)) tz D σ H :=
  h H (Ex.refl H) s.mok _ fun v H1 e d => by rw [d.int]; exact k H1 (s.ex e)
theorem z_asgB {i : Nat} {x : Bool} (s : Sg K Mc He H is ms) (h : Hv K (muA ms ++ Mc) te σ H x) (k : ∀ H1, Sg K Mc He H1 is ms → tz D (σ.set i (some (.bl x))) H1) : tSeq (tAsg te (gName i)) tz D σ H :=
  h H (Ex.refl H) s.mok _ fun v H1 e d => by rw [d.bool]; exact k H1 (s.ex e)
theorem z_asgS {i : Nat} {x : Str} (s : Sg K Mc He H is ms) (h : Hv K (muA ms ++ Mc) te σ H x) (k : ∀ H1, Sg K Mc He H1 is ms → tz D (σ.set i (some (.str x))) H1) : tSeq (tAsg te (gName i)) tz D σ H :=
  h H (Ex.refl H) s.mok _ fun v H1 e d => by rw [d.str]; exact k H1 (s.ex e)
/-- x = [], to be filled -/
theorem z_nil {i : Nat} (s : Sg K Mc He H is ms) (k : ∀ p H1, Sg K Mc He H1 is ((p, .lst []) :: ms) → tz D (σ.set i (some (.ref p))) H1) : tSeq (tAsg (tLst tNil) (gName i)) tz D σ H :=
  ⟨Nat.zero_le _, fun p hp => k p _ (s.new hp ⟨[], rfl, .nil⟩)⟩
theorem z_if {b : Bool} (s : Sg K Mc He H is ms) (h : HT (muA ms ++ Mc) tt σ H b) (h1 : b = true → ∀ H1, Sg K Mc He H1 is ms → tu { D with nx := tz D } σ H1) (h2 : b = false → ∀ H1, Sg K Mc He H1 is ms → tw { D with nx := tz D } σ H1) :
    tSeq (tIfS tt tu tw) tz D σ H := h H (Ex.refl H) s.mok _ fun H1 e => by
  cases b with
  | true => exact h1 rfl H1 (s.ex e)
  | false => exact h2 rfl H1 (s.ex e)
theorem z_ifE {b : Bool} (s : Sg K Mc He H is ms) (h : HT (muA ms ++ Mc) tt σ H b) (h1 : b = true → ∀ H1, Sg K Mc He H1 is ms → tu D σ H1) (h2 : b = false → ∀ H1, Sg K Mc He H1 is ms → tw D σ H1) :
    tIfS tt tu tw D σ H := h H (Ex.refl H) s.mok _ fun H1 e => by
  cases b with
  | true => exact h1 rfl H1 (s.ex e)
  | false => exact h2 rfl H1 (s.ex e)
theorem z_ret {x : α} (s : Sg K Mc He H is ms) (h : Hv K (muA ms ++ Mc) te σ H x) (k : ∀ v H1, Ex He H1 → Dt K (msk Mc H1) v x → D.rt v H1) : tRet te D σ H :=
  h H (Ex.refl H) s.mok _ fun v H1 e d => k v H1 (s.ex e).all (d.mono (msk_sub fun a ha => List.mem_append_right _ ha))
/-- xs.append(e) -/
theorem z_app {kk : Nat} {l : Addr} {xs : List α} {x : α} (s : Sg K Mc He H is ms) (e : ms[kk]? = some (l, .lst (xs.map Dx.toX))) (hi : Ev ta σ H (.ref l)) (h : Hv K (muA ms ++ Mc) te σ H x) (hz : xs.length < 100000)
    (k : ∀ H1, Sg K Mc He H1 is (ms.set kk (l, .lst ((xs ++ [x]).map Dx.toX))) → D.nx σ H1) : tDrop (tBM K "list" rAppend ta (tCons te tNil)) D σ H := hi H (Ex.refl H) _ fun H1 e1 => by
  obtain ⟨vs, h1, h2⟩ := (s.ex e1).lst e
  refine ⟨Or.inl ⟨rfl, vs, sq_of h1⟩, h H1 e1 (s.mok.ex e1) _ fun v H2 e2 d => ?_⟩
  obtain ⟨vs', h3, h4⟩ := ((s.ex e1).ex e2).lst e
  refine ⟨l, vs', v, rfl, rfl, h3, sz_lt (by rw [h4.len]; exact hz), k _ (((s.ex e1).ex e2).set e ⟨_, rfl, ?_⟩)⟩
  rw [List.map_append]
  exact dpa_app h4 (.cons d .nil)
theorem zq_app {kk : Nat} {l : Addr} {xs : List α} {x : α} (s : Sg K Mc He H is ms) (e : ms[kk]? = some (l, .lst (xs.map Dx.toX))) (hi : Ev ta σ H (.ref l)) (h : Hv K (muA ms ++ Mc) te σ H x) (hz : xs.length < 100000)
    (k : ∀ H1, Sg K Mc He H1 is (ms.set kk (l, .lst ((xs ++ [x]).map Dx.toX))) → tz D σ H1) : tSeq (tDrop (tBM K "list" rAppend ta (tCons te tNil))) tz D σ H := z_app (D := { D with nx := tz D }) s e hi h hz k
/-- the same as last statements -/
theorem z_asgE {i : Nat} {x : α} (s : Sg K Mc He H is ms) (h : Hv K (muA ms ++ Mc) te σ H x) (k : ∀ v H1, Sg K Mc He H1 ((v, Dx.toX x) :: is) ms → D.nx (σ.set i (some v)) H1) : tAsg te (gName i) D σ H :=
  h H (Ex.refl H) s.mok _ fun v H1 e d => k v H1 ((s.ex e).put d)
theorem z_asgIE {i : Nat} {x : Int} (s : Sg K Mc He H is ms) (h : Hv K (muA ms ++ Mc) te σ H x) (k : ∀ H1, Sg K Mc He H1 is ms → D.nx (σ.set i (some (.int x))) H1) : tAsg te (gName i) D σ H :=
  h H (Ex.refl H) s.mok _ fun v H1 e d => by rw [d.int]; exact k H1 (s.ex e)
theorem z_asgBE {i : Nat} {x : Bool} (s : Sg K Mc He H is ms) (h : Hv K (muA ms ++ Mc) te σ H x) (k : ∀ H1, Sg K Mc He H1 is ms → D.nx (σ.set i (some (.bl x))) H1) : tAsg te (gName i) D σ H :=
  h H (Ex.refl H) s.mok _ fun v H1 e d => by rw [d.bool]; exact k H1 (s.ex e)
theorem z_asgSE {i : Nat} {x : Str} (s : Sg K Mc He H is ms) (h : Hv K (muA ms ++ Mc) te σ H x) (k : ∀ H1, Sg K Mc He H1 is ms → D.nx (σ.set i (some (.str x))) H1) : tAsg te (gName i) D σ H :=
  h H (Ex.refl H) s.mok _ fun v H1 e d => by rw [d.str]; exact k H1 (s.ex e)
theorem z_cut {N : L2.St → Hp → Prop} (h : tu { D with nx := N } σ H) (k : ∀ σ' H', N σ' H' → tz D σ' H') : tCut tu tz D σ H := ⟨N, h, k⟩

/-! ### loops -/
theorem for_listD {M : List Addr} {a : Addr} {xs : List α} (Pv : Nat → L2.St → Hp → Prop) (h0 : Pv 0 σ H) (hl : ∀ i σ' H', i ≤ xs.length → Pv i σ' H' → ∃ vs, SqL K H' a vs ∧ Dts K (msk M H') vs xs)
    (hs : ∀ i x w σ' H', xs[i]? = some x → Pv i σ' H' → Dt K (msk M H') w x → g w σ' H' fun σ2 H2 => tu { D with nx := Pv (i + 1), ct := Pv (i + 1), bk := D.nx } σ2 H2) (hd : ∀ σ' H', Pv xs.length σ' H' → D.nx σ' H') :
    ∃ W : Nat → Nat → L2.St → Hp → Prop, (∃ m, W 0 m σ H) ∧ ∀ i m σ H, W i m σ H →
      ((Itl K a).stop i H ∧ D.nx σ H) ∨ ((Itl K a).go i H ∧ ∃ N : L2.St → Hp → Prop, (∀ σ' H', N σ' H' → ∃ m', m' < m ∧ W (i + 1) m' σ' H') ∧ ∀ x H', (Itl K a).yld i H x H' → g x σ H' fun σ2 H2 => tu { D with nx := N, ct := N, bk := D.nx } σ2 H2) := by
  refine ⟨fun i m σ H => m = xs.length - i ∧ i ≤ xs.length ∧ Pv i σ H, ⟨xs.length, by simp, Nat.zero_le _, h0⟩, ?_⟩
  rintro i m σ H ⟨rfl, hi, p⟩
  obtain ⟨vs, q, ds⟩ := hl i σ H hi p
  have el := ds.len
  by_cases hlt : i < xs.length
  · refine .inr ⟨⟨vs, vs[i]'(by omega), q, by simp [show i < vs.length by omega]⟩, Pv (i + 1), fun σ' H' p' => ⟨xs.length - (i + 1), by omega, rfl, hlt, p'⟩, fun x H' y => ?_⟩
    obtain ⟨e, y⟩ := y
    subst e
    obtain ⟨w, h1, h2⟩ := ds.at (i := i) (x := xs[i]) (by simp [hlt])
    have e1 : x = w := Option.some.inj ((y vs q).symm.trans h1)
    subst e1
    exact hs i _ x σ _ (by simp [hlt]) p h2
  · have e : i = xs.length := by omega
    subst e
    exact .inl ⟨⟨vs, q, by omega⟩, hd σ H p⟩
/-- over a value -/
theorem z_for {xs : List α} (s : Sg K Mc He H is ms) (h : Hv K (muA ms ++ Mc) tl σ H xs) (Pv : V → Nat → L2.St → Hp → Prop) (h0 : ∀ v H1, Sg K Mc He H1 ((v, Dx.toX xs) :: is) ms → Pv v 0 σ H1)
    (hl : ∀ v i σ' H', Pv v i σ' H' → Dt K (msk (muA ms ++ Mc) H') v xs)
    (hs : ∀ v i x w σ' H', xs[i]? = some x → Pv v i σ' H' → Dt K (msk (muA ms ++ Mc) H') w x → g w σ' H' fun σ2 H2 => tu { D with nx := Pv v (i + 1), ct := Pv v (i + 1), bk := D.nx } σ2 H2)
    (hd : ∀ v σ' H', Pv v xs.length σ' H' → D.nx σ' H') : tFor (iList K tl) g tu D σ H :=
  h H (Ex.refl H) s.mok _ fun v H1 e d => by
    obtain ⟨a, vs, rfl, s1, ds⟩ := d.list
    refine ⟨a, rfl, ⟨vs, ex_l msk_le s1⟩, for_listD (Pv (.ref a)) (h0 _ H1 ((s.ex e).put d)) (fun i σ' H' _ p => ?_) (hs _) (hd _)⟩
    obtain ⟨a', vs', e', s2, ds'⟩ := (hl _ i σ' H' p).list
    cases e'
    exact ⟨vs', ex_l msk_le s2, ds'⟩
theorem zq_for {xs : List α} (s : Sg K Mc He H is ms) (h : Hv K (muA ms ++ Mc) tl σ H xs) (Pv : V → Nat → L2.St → Hp → Prop) (h0 : ∀ v H1, Sg K Mc He H1 ((v, Dx.toX xs) :: is) ms → Pv v 0 σ H1)
    (hl : ∀ v i σ' H', Pv v i σ' H' → Dt K (msk (muA ms ++ Mc) H') v xs)
    (hs : ∀ v i x w σ' H', xs[i]? = some x → Pv v i σ' H' → Dt K (msk (muA ms ++ Mc) H') w x → g w σ' H' fun σ2 H2 => tu { D with nx := Pv v (i + 1), ct := Pv v (i + 1), bk := tz D } σ2 H2)
    (hd : ∀ v σ' H', Pv v xs.length σ' H' → tz D σ' H') : tSeq (tFor (iList K tl) g tu) tz D σ H := z_for (D := { D with nx := tz D }) s h Pv h0 hl hs hd
/-- over the numbers 0 .. n - 1 -/
theorem z_forR {j : Nat} {n : Int} (s : Sg K Mc He H is ms) (h : Hv K (muA ms ++ Mc) te σ H n) (hn : -100000 ≤ n ∧ n ≤ 100000) (Pv : Nat → L2.St → Hp → Prop) (h0 : ∀ H1, Sg K Mc He H1 is ms → Pv 0 σ H1)
    (hs : ∀ (i : Nat) σ' H', (i : Int) < n → Pv i σ' H' → tu { D with nx := Pv (i + 1), ct := Pv (i + 1), bk := D.nx } (σ'.set j (some (.int (i : Int)))) H') (hd : ∀ σ' H', Pv n.toNat σ' H' → D.nx σ' H') : tFor (iRng1 (tCons te tNil)) (gName j) tu D σ H :=
  h H (Ex.refl H) s.mok _ fun v H1 e d => by
    refine ⟨n, by rw [d.int], by omega, by omega, for_range (lo := 0) (n := n.toNat) Pv (h0 H1 (s.ex e)) (fun i σ' H' hi p => ?_) hd⟩
    have e0 : (0 : Int) + (i : Int) = (i : Int) := Int.zero_add _
    show tu { D with nx := Pv (i + 1), ct := Pv (i + 1), bk := D.nx } (σ'.set j (some (.int ((0 : Int) + (i : Int))))) H'
    rw [e0]
    exact hs i σ' H' (by omega) p
theorem zq_forR {j : Nat} {n : Int} (s : Sg K Mc He H is ms) (h : Hv K (muA ms ++ Mc) te σ H n) (hn : -100000 ≤ n ∧ n ≤ 100000) (Pv : Nat → L2.St → Hp → Prop) (h0 : ∀ H1, Sg K Mc He H1 is ms → Pv 0 σ H1)
    (hs : ∀ (i : Nat) σ' H', (i : Int) < n → Pv i σ' H' → tu { D with nx := Pv (i + 1), ct := Pv (i + 1), bk := tz D } (σ'.set j (some (.int (i : Int)))) H') (hd : ∀ σ' H', Pv n.toNat σ' H' → tz D σ' H') : tSeq (tFor (iRng1 (tCons te tNil)) (gName j) tu) tz D σ H :=
  z_forR (D := { D with nx := tz D }) s h hn Pv h0 hs hd
theorem z_forR2 {j : Nat} {lo n : Int} (s : Sg K Mc He H is ms) (h1 : Hv K (muA ms ++ Mc) ta σ H lo) (h : Hv K (muA ms ++ Mc) te σ H n) (hn : -100000 ≤ lo ∧ lo ≤ 100000 ∧ -100000 ≤ n ∧ n ≤ 100000) (Pv : Nat → L2.St → Hp → Prop) (h0 : ∀ H1, Sg K Mc He H1 is ms → Pv 0 σ H1)
    (hs : ∀ (i : Nat) σ' H', lo + (i : Int) < n → Pv i σ' H' → tu { D with nx := Pv (i + 1), ct := Pv (i + 1), bk := D.nx } (σ'.set j (some (.int (lo + (i : Int))))) H') (hd : ∀ σ' H', Pv (n - lo).toNat σ' H' → D.nx σ' H') : tFor (iRng2 (tCons ta (tCons te tNil))) (gName j) tu D σ H :=
  h1 H (Ex.refl H) s.mok _ fun v H1 e d => h H1 e (s.mok.ex e) _ fun v' H2 e2 d' => by
    refine ⟨lo, n, by rw [d.int, d'.int], ⟨by omega, by omega, by omega, by omega⟩, for_range (lo := lo) (n := (n - lo).toNat) Pv (h0 H2 ((s.ex e).ex e2)) (fun i σ' H' hi p => hs i σ' H' (by omega) p) hd⟩
theorem zq_forR2 {j : Nat} {lo n : Int} (s : Sg K Mc He H is ms) (h1 : Hv K (muA ms ++ Mc) ta σ H lo) (h : Hv K (muA ms ++ Mc) te σ H n) (hn : -100000 ≤ lo ∧ lo ≤ 100000 ∧ -100000 ≤ n ∧ n ≤ 100000) (Pv : Nat → L2.St → Hp → Prop) (h0 : ∀ H1, Sg K Mc He H1 is ms → Pv 0 σ H1)
    (hs : ∀ (i : Nat) σ' H', lo + (i : Int) < n → Pv i σ' H' → tu { D with nx := Pv (i + 1), ct := Pv (i + 1), bk := tz D } (σ'.set j (some (.int (lo + (i : Int))))) H') (hd : ∀ σ' H', Pv (n - lo).toNat σ' H' → tz D σ' H') : tSeq (tFor (iRng2 (tCons ta (tCons te tNil))) (gName j) tu) tz D σ H :=
  z_forR2 (D := { D with nx := tz D }) s h1 h hn Pv h0 hs hd
end
end Ly

namespace Ly
open PySem PySem.Spec PyProof.Rows L2 Evl
open PySem.W (Datum DatumOrd Tup T3 T4)

/-! ### calls -/
section
variable {K : PySem.W.Frag} {Mc M : List Addr} {He H H1 H2 : Hp} {is js : Ims} {ms : Mus} {σ : L2.St} {te ta tb tl : TE}
variable {α β γ : Type} [DecidableEq α] [Dx α] [DecidableEq β] [Dx β]
/-- the promise of a def that changes nothing: its arguments hold what args tells of c, it gives F c -/
def PrD (K : PySem.W.Frag) (args : γ → List Xd) (pre : γ → Prop) (F : γ → β) : Sp := fun vs H Q _ =>
  ∃ (Mc : List Addr) (c : γ), MOk Mc H ∧ XpAll K (msk Mc H) vs (args c) ∧ pre c ∧ ∀ w H', Ex H H' → Dt K (msk Mc H') w (F c) → Q w H'
def HD (K : PySem.W.Frag) (M : List Addr) (ta : TA) (σ : L2.St) (H : Hp) (ds : List Xd) : Prop := HA M ta σ H (fun vs H => XpAll K (msk M H) vs ds)
theorem hd_nil : HD K M tNil σ H [] := fun H1 e m Q q => q [] H1 (Ex.refl H1) .nil
theorem hd_cons {tr : TA} {x : α} {ds : List Xd} (h : Hv K M te σ H x) (hr : HD K M tr σ H ds) : HD K M (tCons te tr) σ H (Dx.toX x :: ds) := fun H1 e m Q q =>
  h H1 e m _ fun v H2 e2 d => hr H2 (e.trans e2) (m.ex e2) _ fun vs H3 e3 p => q _ H3 (e2.trans e3) (.cons (dp_mono (msk_ex e3) d) p)
theorem hv_call {args : γ → List Xd} {pre : γ → Prop} {F : γ → β} {tr : TA} {E : XK} (c : γ) (h : HD K M tr σ H (args c)) (p : pre c) : Hv K M (tCall (PrD K args pre F) [] E tr) σ H (F c) := fun H1 e m Q q =>
  h H1 e m _ fun vs H2 e2 d => by
    show PrD K args pre F (vs ++ []) H2 Q E
    rw [List.append_nil]
    exact ⟨M, c, m.ex e2, d, p, fun w H3 e3 d3 => q w H3 (e2.trans e3) d3⟩
end

/-! ### loops, as functions -/
def loopN {S : Type} (f : S → Int → S) : Nat → Int → S → S
  | 0, _, s => s
  | n + 1, k, s => loopN f n (k + 1) (f s k)
theorem loopN_step {S : Type} {f : S → Int → S} {n i : Nat} {lo : Int} {s : S} (h : i < n) : loopN f (n - i) (lo + (i : Int)) s = loopN f (n - (i + 1)) (lo + ((i + 1 : Nat) : Int)) (f s (lo + (i : Int))) := by
  have e : n - i = (n - (i + 1)) + 1 := by omega
  rw [e]
  show loopN f (n - (i + 1)) (lo + (i : Int) + 1) _ = _
  rw [show lo + (i : Int) + 1 = lo + ((i + 1 : Nat) : Int) by omega]
theorem loopN_end {S : Type} {f : S → Int → S} {n : Nat} {lo : Int} {s : S} : loopN f (n - n) lo s = s := by rw [Nat.sub_self]; rfl
/-- a turn that may leave: a result, a break, or on -/
inductive Lp (ρ S : Type) where
  | ret (r : ρ)
  | brk (s : S)
  | nxt (s : S)
def loopNR {ρ S : Type} (f : S → Int → Lp ρ S) : Nat → Int → S → ρ ⊕ S
  | 0, _, s => .inr s
  | n + 1, k, s => match f s k with
    | .ret r => .inl r
    | .brk s' => .inr s'
    | .nxt s' => loopNR f n (k + 1) s'
theorem loopNR_nxt {ρ S : Type} {f : S → Int → Lp ρ S} {n i : Nat} {lo : Int} {s s' : S} (h : i < n) (e : f s (lo + (i : Int)) = .nxt s') : loopNR f (n - i) (lo + (i : Int)) s = loopNR f (n - (i + 1)) (lo + ((i + 1 : Nat) : Int)) s' := by
  have e1 : n - i = (n - (i + 1)) + 1 := by omega
  rw [e1]
  show (match f s (lo + (i : Int)) with | .ret r => Sum.inl r | .brk s' => Sum.inr s' | .nxt s' => loopNR f (n - (i + 1)) (lo + (i : Int) + 1) s') = _
  rw [e, show lo + (i : Int) + 1 = lo + ((i + 1 : Nat) : Int) by omega]
theorem loopNR_ret {ρ S : Type} {f : S → Int → Lp ρ S} {n i : Nat} {lo : Int} {s : S} {r : ρ} (h : i < n) (e : f s (lo + (i : Int)) = .ret r) : loopNR f (n - i) (lo + (i : Int)) s = .inl r := by
  have e1 : n - i = (n - (i + 1)) + 1 := by omega
  rw [e1]
  show (match f s (lo + (i : Int)) with | .ret r => Sum.inl r | .brk s' => Sum.inr s' | .nxt s' => loopNR f (n - (i + 1)) (lo + (i : Int) + 1) s') = _
  rw [e]
theorem loopNR_brk {ρ S : Type} {f : S → Int → Lp ρ S} {n i : Nat} {lo : Int} {s s' : S} (h : i < n) (e : f s (lo + (i : Int)) = .brk s') : loopNR f (n - i) (lo + (i : Int)) s = .inr s' := by
  have e1 : n - i = (n - (i + 1)) + 1 := by omega
  rw [e1]
  show (match f s (lo + (i : Int)) with | .ret r => Sum.inl r | .brk s' => Sum.inr s' | .nxt s' => loopNR f (n - (i + 1)) (lo + (i : Int) + 1) s') = _
  rw [e]
theorem loopNR_end {ρ S : Type} {f : S → Int → Lp ρ S} {n : Nat} {lo : Int} {s : S} : loopNR f (n - n) lo s = .inr s := by rw [Nat.sub_self]; rfl
theorem drop_at {α : Type} {xs : List α} {i : Nat} {x : α} (h : xs[i]? = some x) : xs.drop i = x :: xs.drop (i + 1) := by
  obtain ⟨h1, h2⟩ := List.getElem?_eq_some_iff.mp h
  rw [List.drop_eq_getElem_cons h1, h2]
theorem foldl_step {α S : Type} {f : S → α → S} {xs : List α} {i : Nat} {x : α} {s : S} (h : xs[i]? = some x) : (xs.drop i).foldl f s = (xs.drop (i + 1)).foldl f (f s x) := by
  rw [drop_at h]; rfl
theorem foldl_end {α S : Type} {f : S → α → S} {xs : List α} {s : S} : (xs.drop xs.length).foldl f s = s := by rw [List.drop_length]; rfl
def loopL {α ρ S : Type} (f : S → α → Lp ρ S) : List α → S → ρ ⊕ S
  | [], s => .inr s
  | x :: r, s => match f s x with
    | .ret r => .inl r
    | .brk s' => .inr s'
    | .nxt s' => loopL f r s'
theorem loopL_nxt {α ρ S : Type} {f : S → α → Lp ρ S} {xs : List α} {i : Nat} {x : α} {s s' : S} (h : xs[i]? = some x) (e : f s x = .nxt s') : loopL f (xs.drop i) s = loopL f (xs.drop (i + 1)) s' := by
  rw [drop_at h, loopL, e]
theorem loopL_ret {α ρ S : Type} {f : S → α → Lp ρ S} {xs : List α} {i : Nat} {x : α} {s : S} {r : ρ} (h : xs[i]? = some x) (e : f s x = .ret r) : loopL f (xs.drop i) s = .inl r := by
  rw [drop_at h, loopL, e]
theorem loopL_brk {α ρ S : Type} {f : S → α → Lp ρ S} {xs : List α} {i : Nat} {x : α} {s s' : S} (h : xs[i]? = some x) (e : f s x = .brk s') : loopL f (xs.drop i) s = .inr s' := by
  rw [drop_at h, loopL, e]
theorem loopL_end {α ρ S : Type} {f : S → α → Lp ρ S} {xs : List α} {s : S} : loopL f (xs.drop xs.length) s = .inr s := by rw [List.drop_length]; rfl

/-! ### items, lengths -/
section
variable {K : PySem.W.Frag} {Mc M : List Addr} {He H H1 H2 : Hp} {is js : Ims} {ms : Mus} {σ : L2.St} {te ta tb tl : TE}
variable {α β γ : Type} [DecidableEq α] [Dx α] [DecidableEq β] [Dx β] [DecidableEq γ] [Dx γ]
theorem getD_at {xs : List α} {i : Int} {d : α} (h0 : 0 ≤ i) (h : i < (xs.length : Int)) : xs[i.toNat]? = some (xs.getD i.toNat d) := by
  have h1 : i.toNat < xs.length := by omega
  rw [List.getD_eq_getElem?_getD, List.getElem?_eq_getElem h1]
  rfl
theorem hv_at {xs : List α} {i : Int} (d : α) (ha : HS K M ta σ H xs) (hb : Hv K M tb σ H i) (h0 : 0 ≤ i) (h : i < (xs.length : Int)) : Hv K M (tOp (rIxL K) ta tb) σ H (xs.getD i.toNat d) :=
  hv_ixS ha hb h0 (getD_at h0 h)
theorem hv_atV {xs : Tup α} {i : Int} (d : α) (ha : Hv K M ta σ H xs) (hb : Hv K M tb σ H i) (h0 : 0 ≤ i) (h : i < (xs.items.length : Int)) : Hv K M (tOp (rIxT K) ta tb) σ H (xs.items.getD i.toNat d) :=
  hv_ixV ha hb h0 (getD_at h0 h)
/-- len -/
theorem hv_len {xs : List α} (ha : HS K M ta σ H xs) : Hv K M (tCB (fun xs H Q => ∃ x n, xs = [x] ∧ LenV K x H n ∧ Q (.int n) H) (tCons ta tNil)) σ H (xs.length : Int) := fun H1 e m Q q =>
  ha H1 e m _ fun a vs H2 e2 s d => ⟨.ref a, vs.length, rfl, Or.inl ⟨vs, s, rfl⟩, q _ H2 e2 (by rw [d.len]; exact Dt.ofInt _)⟩
theorem hv_lenV {xs : Tup α} (ha : Hv K M ta σ H xs) : Hv K M (tCB (fun xs H Q => ∃ x n, xs = [x] ∧ LenV K x H n ∧ Q (.int n) H) (tCons ta tNil)) σ H (xs.items.length : Int) := fun H1 e m Q q =>
  ha H1 e m _ fun v H2 e2 d => by
    obtain ⟨a, vs, rfl, s, ds⟩ := d.tupv
    exact ⟨.ref a, vs.length, rfl, Or.inr ⟨vs, ex_t msk_le s, rfl⟩, q _ H2 e2 (by rw [ds.len]; exact Dt.ofInt _)⟩
theorem hv_len2 {x : α × β} (ha : Hv K M ta σ H x) : Hv K M (tCB (fun xs H Q => ∃ x n, xs = [x] ∧ LenV K x H n ∧ Q (.int n) H) (tCons ta tNil)) σ H (2 : Int) := fun H1 e m Q q =>
  ha H1 e m _ fun v H2 e2 d => by
    obtain ⟨a, u, w, rfl, s, _⟩ := d.pair
    exact ⟨.ref a, 2, rfl, Or.inr ⟨_, ex_t msk_le s, rfl⟩, q _ H2 e2 (Dt.ofInt _)⟩
theorem hv_len3 {x : T3 α β γ} (ha : Hv K M ta σ H x) : Hv K M (tCB (fun xs H Q => ∃ x n, xs = [x] ∧ LenV K x H n ∧ Q (.int n) H) (tCons ta tNil)) σ H (3 : Int) := fun H1 e m Q q =>
  ha H1 e m _ fun v H2 e2 d => by
    obtain ⟨a, u, w, z, rfl, s, _⟩ := d.t3
    exact ⟨.ref a, 3, rfl, Or.inr ⟨_, ex_t msk_le s, rfl⟩, q _ H2 e2 (Dt.ofInt _)⟩

/-! ### isinstance -/
/-- the built-in type of every value of α -/
class TyNm (α : Type) [DecidableEq α] [Dx α] where
  nm : String
  ty : ∀ {K : PySem.W.Frag} {H : Hp} {v : V} {x : α}, Dt K H v x → TyX K H v (.type nm)
theorem tyx_ex {K : PySem.W.Frag} {H H' : Hp} {v : V} {n : String} (e : Ex H H') (h : TyX K H v (.type n)) : TyX K H' v (.type n) := by
  cases h with
  | base h =>
    cases h with
    | non => exact .base .non
    | bl b => exact .base (.bl b)
    | int b => exact .base (.int b)
    | str b => exact .base (.str b)
    | flt b => exact .base (.flt b)
    | lst h => exact .base (.lst (e _ _ h))
    | frz h => exact .base (.frz (e _ _ h))
    | tup h => exact .base (.tup (e _ _ h))
    | dK h => exact .base (.dK (e _ _ h))
    | dT h => exact .base (.dT (e _ _ h))
  | byt y => exact .byt y
  | set h => exact .set (e _ _ h)
  | kList h c => exact .kList h c
  | kTuple h c => exact .kTuple h c
  | kDict h c => exact .kDict h c
  | fTuple h => exact .fTuple (e _ _ h)
  | fDict h => exact .fDict (e _ _ h)

instance : TyNm Int := ⟨"int", fun d => by cases d.int; exact .base (.int _)⟩
instance : TyNm Bool := ⟨"bool", fun d => by cases d.bool; exact .base (.bl _)⟩
instance : TyNm Str := ⟨"str", fun d => by cases d.str; exact .base (.str _)⟩
theorem tyx_L {K : PySem.W.Frag} {H : Hp} {a : Addr} {vs : List V} (h : SqL K H a vs) : TyX K H (.ref a) (.type "list") := by
  rcases h with (h | ⟨o, h⟩) | ⟨o, its, n, h, c, _⟩
  · exact .base (.lst h)
  · exact .base (.frz h)
  · exact .kList h c
theorem tyx_T {K : PySem.W.Frag} {H : Hp} {a : Addr} {vs : List V} (h : SqT K H a vs) : TyX K H (.ref a) (.type "tuple") := by
  rcases h with (h | ⟨o, h⟩) | ⟨o, its, n, h, c, _⟩
  · exact .base (.tup h)
  · exact .fTuple h
  · exact .kTuple h c
instance : TyNm (List α) := ⟨"list", fun d => by obtain ⟨a, vs, rfl, s, _⟩ := d.list; exact tyx_L s⟩
instance : TyNm (Tup α) := ⟨"tuple", fun d => by obtain ⟨a, vs, rfl, s, _⟩ := d.tupv; exact tyx_T s⟩
instance : TyNm (α × β) := ⟨"tuple", fun d => by obtain ⟨a, u, w, rfl, s, _⟩ := d.pair; exact tyx_T s⟩
instance : TyNm (T3 α β γ) := ⟨"tuple", fun d => by obtain ⟨a, u, w, z, rfl, s, _⟩ := d.t3; exact tyx_T s⟩
theorem hv_isi {x : α} [T : TyNm α] {n : String} {b : Bool} (ha : Hv K M ta σ H x) (h : kitB T.nm n = some b) : Hv K M (tCB (rIsi K) (tCons ta (tCons (tC (.ty n)) tNil))) σ H b := fun H1 e m Q q =>
  ha H1 e m _ fun v H2 e2 d => ⟨v, .ty n, .type T.nm, .type n, b, rfl, .ty n, tyx_ex msk_le (T.ty d), kit_ty h, q _ H2 e2 (Dt.ofBool b)⟩

/-! ### == and < of data -/
theorem dt_holds [Datum α] [DxD α] {X : Cx} {pins : List (Addr × Obj)} {s : Shared} {x : α} {v : V} {u : Value} (I : Inv X pins σ H s) (d : Dt X.K H v x) (r : RelV v u) : PySem.W.Holds s.heap u x := Dp.reads I _ v u (DxD.link d) r
def rEqT (α : Type) [DecidableEq α] [Dx α] (K : PySem.W.Frag) : R2 := fun x y H Q => ∃ a b : α, Dt K H x a ∧ Dt K H y b ∧ Q (.bl (decide (a = b))) H
def rNeT (α : Type) [DecidableEq α] [Dx α] (K : PySem.W.Frag) : R2 := fun x y H Q => ∃ a b : α, Dt K H x a ∧ Dt K H y b ∧ Q (.bl (!decide (a = b))) H
theorem op_eqT [Datum α] [DxD α] {X : Cx} (hu : X.A.units + Datum.depth α < cLine) : OpR X (compareOp .Eq) (rEqT α X.K) := by
  intro pins s σ H x y v u Q I rx ry h
  obtain ⟨a, b, da, db, q⟩ := h
  exact PySem.W.eq_datum (dt_holds I da rx) (dt_holds I db ry) hu ⟨.bl _, H, I, rfl, q⟩
theorem op_neT [Datum α] [DxD α] {X : Cx} (hu : X.A.units + Datum.depth α < cLine) : OpR X (compareOp .NotEq) (rNeT α X.K) := by
  intro pins s σ H x y v u Q I rx ry h
  obtain ⟨a, b, da, db, q⟩ := h
  exact PySem.W.ne_datum (dt_holds I da rx) (dt_holds I db ry) hu ⟨.bl _, H, I, rfl, by rw [show decide (a ≠ b) = !decide (a = b) from decide_not]; exact q⟩
theorem hv_eqT {x y : α} (ha : Hv K [] ta σ H x) (hb : Hv K [] tb σ H y) : Hv K M (tOp (rEqT α K) ta tb) σ H (decide (x = y)) := fun H1 e m Q q =>
  ha H1 e (fun _ z => nomatch z) _ fun v H2 e2 d => hb H2 (e.trans e2) (fun _ z => nomatch z) _ fun u H3 e3 d' => by
    rw [msk_nil] at d d'
    exact ⟨x, y, d.mono e3, d', q _ H3 (e2.trans e3) (Dt.ofBool _)⟩
theorem hv_neT {x y : α} (ha : Hv K [] ta σ H x) (hb : Hv K [] tb σ H y) : Hv K M (tOp (rNeT α K) ta tb) σ H (!decide (x = y)) := fun H1 e m Q q =>
  ha H1 e (fun _ z => nomatch z) _ fun v H2 e2 d => hb H2 (e.trans e2) (fun _ z => nomatch z) _ fun u H3 e3 d' => by
    rw [msk_nil] at d d'
    exact ⟨x, y, d.mono e3, d', q _ H3 (e2.trans e3) (Dt.ofBool _)⟩
end
section
variable {K : PySem.W.Frag} {M : List Addr} {H H1 H2 : Hp} {σ : L2.St} {te ta tb tl : TE}
variable {α : Type} [DecidableEq α] [Dx α] [DatumOrd α]
def rLtT (α : Type) [DecidableEq α] [Dx α] [DatumOrd α] (K : PySem.W.Frag) : R2 := fun x y H Q => ∃ a b : α, Dt K H x a ∧ Dt K H y b ∧ Q (.bl (DatumOrd.lt a b)) H
theorem op_ltT [DxD α] {X : Cx} (hu : X.A.units + Datum.depth α < cLine) : OpR X (compareOp .Lt) (rLtT α X.K) := by
  intro pins s σ H x y v u Q I rx ry h
  obtain ⟨a, b, da, db, q⟩ := h
  exact PySem.W.lt_datum (dt_holds I da rx) (dt_holds I db ry) hu ⟨.bl _, H, I, rfl, q⟩
theorem hv_ltT {x y : α} (ha : Hv K [] ta σ H x) (hb : Hv K [] tb σ H y) : Hv K M (tOp (rLtT α K) ta tb) σ H (DatumOrd.lt x y) := fun H1 e m Q q =>
  ha H1 e (fun _ z => nomatch z) _ fun v H2 e2 d => hb H2 (e.trans e2) (fun _ z => nomatch z) _ fun u H3 e3 d' => by
    rw [msk_nil] at d d'
    exact ⟨x, y, d.mono e3, d', q _ H3 (e2.trans e3) (Dt.ofBool _)⟩
end
theorem hud {A : Around} {k d : Nat} (hr : Room k A) (h : d ≤ 64) : A.units + d < cLine := Nat.lt_of_le_of_lt (Nat.add_le_add_left h _) hr.units
end Ly

namespace Ly
open PySem PySem.Spec PyProof.Rows L2 Evl
open PySem.W (Datum DatumOrd Tup T3 T4)

theorem dpa_inv {K : PySem.W.Frag} {H : Hp} {vs : List V} {d : Xd} {ds : List Xd} (h : XpAll K H vs (d :: ds)) : ∃ v r, vs = v :: r ∧ Xp K H v d ∧ XpAll K H r ds := by
  cases h with
  | cons a b => exact ⟨_, _, rfl, a, b⟩
theorem dpa_inv0 {K : PySem.W.Frag} {H : Hp} {vs : List V} (h : XpAll K H vs []) : vs = [] := by cases h; rfl

section
variable {K : PySem.W.Frag} {Mc : List Addr} {He H H1 H2 : Hp} {is js : Ims} {ms : Mus} {σ : L2.St} {te ta tb tl : TE}
variable {α β : Type} [DecidableEq α] [Dx α] [DecidableEq β] [Dx β]
variable {D : Ends} {tz tu tw : TS} {tt : TT} {g : TG}
/-! ### statements that name what they store -/
theorem z_asgG {i : Nat} {x : α} (s : Sg K Mc He H is ms) (h : Hv K (muA ms ++ Mc) te σ H x) (k : ∀ y, y = x → ∀ v H1, Sg K Mc He H1 ((v, Dx.toX y) :: is) ms → tz D (σ.set i (some v)) H1) : tSeq (tAsg te (gName i)) tz D σ H :=
  z_asg s h (k x rfl)
theorem z_asgIG {i : Nat} {x : Int} (s : Sg K Mc He H is ms) (h : Hv K (muA ms ++ Mc) te σ H x) (k : ∀ y, y = x → ∀ H1, Sg K Mc He H1 is ms → tz D (σ.set i (some (.int y))) H1) : tSeq (tAsg te (gName i)) tz D σ H :=
  z_asgI s h (k x rfl)
theorem z_asgBG {i : Nat} {x : Bool} (s : Sg K Mc He H is ms) (h : Hv K (muA ms ++ Mc) te σ H x) (k : ∀ y, y = x → ∀ H1, Sg K Mc He H1 is ms → tz D (σ.set i (some (.bl y))) H1) : tSeq (tAsg te (gName i)) tz D σ H :=
  z_asgB s h (k x rfl)
theorem z_asgSG {i : Nat} {x : Str} (s : Sg K Mc He H is ms) (h : Hv K (muA ms ++ Mc) te σ H x) (k : ∀ y, y = x → ∀ H1, Sg K Mc He H1 is ms → tz D (σ.set i (some (.str y))) H1) : tSeq (tAsg te (gName i)) tz D σ H :=
  z_asgS s h (k x rfl)
theorem z_augG {i : Nat} {f : Int → Int → Int} {a b : Int} (s : Sg K Mc He H is ms) (hx : σ[i]? = some (some (.int a))) (h : Hv K (muA ms ++ Mc) te σ H b) (k : ∀ y, y = f a b → ∀ H1, Sg K Mc He H1 is ms → tz D (σ.set i (some (.int y))) H1) : tSeq (tAug i te (ipI f)) tz D σ H :=
  ⟨.int a, hx, h H (Ex.refl H) s.mok _ fun v H1 e d => ⟨a, b, rfl, d.int, k _ rfl H1 (s.ex e)⟩⟩
theorem z_nilG {i : Nat} (α : Type) [DecidableEq α] [Dx α] (s : Sg K Mc He H is ms) (k : ∀ y : List α, y = [] → ∀ p H1, Sg K Mc He H1 is ((p, .lst (y.map Dx.toX)) :: ms) → tz D (σ.set i (some (.ref p))) H1) : tSeq (tAsg (tLst tNil) (gName i)) tz D σ H :=
  z_nil s (k [] rfl)
theorem zq_appG {kk : Nat} {l : Addr} {xs : List α} {x : α} (s : Sg K Mc He H is ms) (e : ms[kk]? = some (l, .lst (xs.map Dx.toX))) (hi : Ev ta σ H (.ref l)) (h : Hv K (muA ms ++ Mc) te σ H x) (hz : xs.length < 100000)
    (k : ∀ y, y = xs ++ [x] → ∀ H1, Sg K Mc He H1 is (ms.set kk (l, .lst (y.map Dx.toX))) → tz D σ H1) : tSeq (tDrop (tBM K "list" rAppend ta (tCons te tNil))) tz D σ H := zq_app s e hi h hz (k _ rfl)
theorem zq_ret {x : α} (s : Sg K Mc He H is ms) (h : Hv K (muA ms ++ Mc) te σ H x) (k : ∀ v H1, Ex He H1 → Dt K (msk Mc H1) v x → D.rt v H1) : tSeq (tRet te) tz D σ H := z_ret (D := { D with nx := tz D }) s h k
/-- an if without else -/
theorem z_ifx {b : Bool} (s : Sg K Mc He H is ms) (h : HT (muA ms ++ Mc) tt σ H b) (h1 : b = true → ∀ H1, Sg K Mc He H1 is ms → tu { D with nx := tz D } σ H1) (h2 : b = false → ∀ H1, Sg K Mc He H1 is ms → tz D σ H1) :
    tSeq (tIfS tt tu tNext) tz D σ H := z_if s h h1 h2
/-- an if behind which both ways go on, N what they reach -/
theorem z_ifj {b : Bool} (N : L2.St → Hp → Prop) (s : Sg K Mc He H is ms) (h : HT (muA ms ++ Mc) tt σ H b) (h1 : b = true → ∀ H1, Sg K Mc He H1 is ms → tu { D with nx := N } σ H1) (h2 : b = false → ∀ H1, Sg K Mc He H1 is ms → tw { D with nx := N } σ H1)
    (k : ∀ σ' H', N σ' H' → tz D σ' H') : tCut (tIfS tt tu tw) tz D σ H := ⟨N, z_ifE (D := { D with nx := N }) s h h1 h2, k⟩

/-! ### loops that name their item -/
theorem zq_forR1G {j : Nat} {n : Int} (s : Sg K Mc He H is ms) (h : Hv K (muA ms ++ Mc) te σ H n) (hn : -100000 ≤ n ∧ n ≤ 100000) (Pv : Nat → L2.St → Hp → Prop) (h0 : ∀ H1, Sg K Mc He H1 is ms → Pv 0 σ H1)
    (hs : ∀ (i : Nat) (x : Int) σ' H', x = (0 : Int) + (i : Int) → i < n.toNat → Pv i σ' H' → tu { D with nx := Pv (i + 1), ct := Pv (i + 1), bk := tz D } (σ'.set j (some (.int x))) H') (hd : ∀ σ' H', Pv n.toNat σ' H' → tz D σ' H') : tSeq (tFor (iRng1 (tCons te tNil)) (gName j) tu) tz D σ H :=
  zq_forR s h hn Pv h0 (fun i σ' H' hi p => hs i _ σ' H' (Int.zero_add _).symm (by omega) p) hd
theorem zq_forR2G {j : Nat} {lo n : Int} (s : Sg K Mc He H is ms) (h1 : Hv K (muA ms ++ Mc) ta σ H lo) (h : Hv K (muA ms ++ Mc) te σ H n) (hn : -100000 ≤ lo ∧ lo ≤ 100000 ∧ -100000 ≤ n ∧ n ≤ 100000) (Pv : Nat → L2.St → Hp → Prop) (h0 : ∀ H1, Sg K Mc He H1 is ms → Pv 0 σ H1)
    (hs : ∀ (i : Nat) (x : Int) σ' H', x = lo + (i : Int) → i < (n - lo).toNat → Pv i σ' H' → tu { D with nx := Pv (i + 1), ct := Pv (i + 1), bk := tz D } (σ'.set j (some (.int x))) H') (hd : ∀ σ' H', Pv (n - lo).toNat σ' H' → tz D σ' H') : tSeq (tFor (iRng2 (tCons ta (tCons te tNil))) (gName j) tu) tz D σ H :=
  zq_forR2 s h1 h hn Pv h0 (fun i σ' H' hi p => hs i _ σ' H' rfl (by omega) p) hd
/-- over a list, the target a name; the item put among what is known -/
theorem zq_forG {xs : List α} {j : Nat} (s : Sg K Mc He H is ms) (h : Hv K (muA ms ++ Mc) tl σ H xs) (Pv : V → Nat → L2.St → Hp → Prop) (h0 : ∀ v H1, Sg K Mc He H1 ((v, Dx.toX xs) :: is) ms → Pv v 0 σ H1)
    (hl : ∀ v i σ' H', Pv v i σ' H' → Dt K (msk (muA ms ++ Mc) H') v xs)
    (hs : ∀ v i x w σ' H', xs[i]? = some x → Pv v i σ' H' → Dt K (msk (muA ms ++ Mc) H') w x → tu { D with nx := Pv v (i + 1), ct := Pv v (i + 1), bk := tz D } (σ'.set j (some w)) H')
    (hd : ∀ v σ' H', Pv v xs.length σ' H' → tz D σ' H') : tSeq (tFor (iList K tl) (gName j) tu) tz D σ H := zq_for s h Pv h0 hl hs hd
/-- over a list that may still change (not in the loop) -/
theorem zq_forM {xs : List α} {kk : Nat} {l : Addr} {ii : Nat} (s : Sg K Mc He H is ms) (e : ms[kk]? = some (l, .lst (xs.map Dx.toX))) (hi : σ[ii]? = some (some (.ref l))) (Pv : Nat → L2.St → Hp → Prop) (h0 : ∀ H1, Sg K Mc He H1 is ms → Pv 0 σ H1)
    (hl : ∀ i σ' H', Pv i σ' H' → ∃ vs, H' l = some (.lst vs) ∧ Dts K (msk (muA ms ++ Mc) H') vs xs)
    (hs : ∀ i x w σ' H', xs[i]? = some x → Pv i σ' H' → Dt K (msk (muA ms ++ Mc) H') w x → g w σ' H' fun σ2 H2 => tu { D with nx := Pv (i + 1), ct := Pv (i + 1), bk := tz D } σ2 H2)
    (hd : ∀ σ' H', Pv xs.length σ' H' → tz D σ' H') : tSeq (tFor (iList K (tVar ii)) g tu) tz D σ H := by
  obtain ⟨vs, h1, h2⟩ := s.lst e
  refine ⟨_, hi, l, rfl, ⟨vs, SqL.of h1⟩, for_listD (D := { D with nx := tz D }) (M := muA ms ++ Mc) Pv (h0 H s) (fun i σ' H' _ p => ?_) hs hd⟩
  obtain ⟨vs', h3, h4⟩ := hl i σ' H' p
  exact ⟨vs', SqL.of h3, h4⟩
end
end Ly

namespace Ly
open PySem PySem.Spec PyProof.Rows L2 Evl
open PySem.W (Datum DatumOrd Tup T3 T4)
theorem dts_ints {K : PySem.W.Frag} {H : Hp} : ∀ ns : List Int, Dts K H (ns.map V.int) ns
  | [] => Dts.nil
  | n :: r => Dts.cons (Dt.ofInt n) (dts_ints r)
/-- the law's promise is kept where its mirror is true -/
theorem law_sp {K : PySem.W.Frag} {F : List Int → Bool} {pre : List Int → Prop} {H : Hp} {a : Addr} {ns : List Int} {E : XK} (h : SqL K H a (ns.map V.int)) (p : pre ns) (t : F ns = true) :
    PrD K (fun c : List Int => [Dx.toX c]) pre F [.ref a] H (fun v _ => v = .bl true) E := by
  refine ⟨[], ns, (fun _ z => nomatch z), ?_, p, fun w H' e d => ?_⟩
  · rw [msk_nil]
    exact .cons (Dt.ofList h (dts_ints ns)) .nil
  · rw [d.bool, t]
end Ly

namespace Ly
open PySem PySem.Spec PyProof.Rows L2 Evl
open PySem.W (Datum DatumOrd Tup T3 T4)

section
variable {K : PySem.W.Frag} {Mc M : List Addr} {He H H1 H2 : Hp} {is js : Ims} {ms : Mus} {σ : L2.St} {te ta tb tl : TE} {tt : TT} {g : TG} {tlo thi : TO}
variable {α β γ δ : Type} [DecidableEq α] [Dx α] [DecidableEq β] [Dx β] [DecidableEq γ] [Dx γ] [DecidableEq δ] [Dx δ]
/-! ### parts of lists, copies -/
def HO' (M : List Addr) (to : TO) (σ : L2.St) (H : Hp) (o : Option Int) : Prop := ∀ H1, Ex H H1 → MOk M H1 → ∀ Q : Option Int → Hp → Prop, (∀ H2, Ex H1 H2 → Q o H2) → to σ H1 Q
theorem ho_none : HO' M tNoPart σ H none := fun H1 _ _ _ q => q H1 (Ex.refl H1)
theorem ho_some {i : Int} (h : Hv K M te σ H i) : HO' M (tPart te) σ H (some i) := fun H1 e m _ q => h H1 e m _ fun v H2 e2 d => ⟨i, d.int, q H2 e2⟩
def cutL {α : Type} (xs : List α) (lo hi : Option Int) : List α := (xs.drop (HT.sIx xs.length 0 lo)).take (HT.sIx xs.length xs.length hi - HT.sIx xs.length 0 lo)
theorem dpa_drop {H : Hp} : ∀ {vs : List V} {ds : List Xd} (n : Nat), XpAll K H vs ds → XpAll K H (vs.drop n) (ds.drop n)
  | _, _, 0, h => h
  | _, _, n + 1, .nil => .nil
  | _, _, n + 1, .cons a b => dpa_drop n b
theorem dpa_take {H : Hp} : ∀ {vs : List V} {ds : List Xd} (n : Nat), XpAll K H vs ds → XpAll K H (vs.take n) (ds.take n)
  | _, _, 0, h => by simpa using XpAll.nil
  | _, _, n + 1, .nil => .nil
  | _, _, n + 1, .cons a b => .cons a (dpa_take n b)
theorem Dts.cut {H : Hp} {vs : List V} {xs : List α} {lo hi : Option Int} (h : Dts K H vs xs) : Dts K H (cutV vs lo hi) (cutL xs lo hi) := by
  unfold cutV cutL Dts
  rw [h.len, List.map_take, List.map_drop]
  exact dpa_take _ (dpa_drop _ h)
theorem hv_slice {xs : List α} {lo hi : Option Int} (h : HS K M te σ H xs) (h1 : HO' M tlo σ H lo) (h2 : HO' M thi σ H hi) : Hv K M (tSl (rSlL K) te tlo thi) σ H (cutL xs lo hi) := fun H1 e m Q q =>
  h H1 e m _ fun a vs H2 e2 s d => h1 H2 (e.trans e2) (m.ex e2) _ fun H3 e3 => h2 H3 ((e.trans e2).trans e3) ((m.ex e2).ex e3) _ fun H4 e4 =>
    ⟨a, vs, rfl, ex_l (e3.trans e4) s, fun p hp => by
      have m4 := ((m.ex e2).ex e3).ex e4
      have e5 : Ex H4 (upd H4 p (.lst (cutV vs lo hi))) := Ex.new hp
      exact q _ _ (((e2.trans e3).trans e4).trans e5) (Dt.ofList (SqL.of (msk_at m4 hp)) ((d.mono (msk_ex ((e3.trans e4).trans e5))).cut))⟩
theorem hv_listOf {xs : List α} (h : HS K M te σ H xs) : Hv K M (tCB (fun xs H Q => ∃ p ys, xs = [.ref p] ∧ (SqL K H p ys ∨ SqT K H p ys) ∧ ∀ l, H l = none → Q (.ref l) (upd H l (.lst ys))) (tCons te tNil)) σ H xs := fun H1 e m Q q =>
  h H1 e m _ fun a vs H2 e2 s d => ⟨a, vs, rfl, Or.inl s, fun p hp => by
    have e3 : Ex H2 (upd H2 p (.lst vs)) := Ex.new hp
    exact q _ _ (e2.trans e3) (Dt.ofList (SqL.of (msk_at (m.ex e2) hp)) (d.mono (msk_ex e3)))⟩
theorem hv_listOfV {xs : Tup α} (h : Hv K M te σ H xs) : Hv K M (tCB (fun xs H Q => ∃ p ys, xs = [.ref p] ∧ (SqL K H p ys ∨ SqT K H p ys) ∧ ∀ l, H l = none → Q (.ref l) (upd H l (.lst ys))) (tCons te tNil)) σ H xs.items := fun H1 e m Q q =>
  h H1 e m _ fun v H2 e2 d => by
    obtain ⟨a, vs, rfl, s, ds⟩ := d.tupv
    refine ⟨a, vs, rfl, Or.inr (ex_t msk_le s), fun p hp => ?_⟩
    have e3 : Ex H2 (upd H2 p (.lst vs)) := Ex.new hp
    exact q _ _ (e2.trans e3) (Dt.ofList (SqL.of (msk_at (m.ex e2) hp)) (ds.mono (msk_ex e3)))
theorem hv_tupleOf {xs : List α} (h : HS K M te σ H xs) : Hv K M (tCB (fun xs H Q => ∃ p ys, xs = [.ref p] ∧ ((SqL K H p ys ∧ ∀ l, H l = none → Q (.ref l) (upd H l (.tup ys))) ∨ (SqT K H p ys ∧ Q (.ref p) H))) (tCons te tNil)) σ H (Tup.mk xs) := fun H1 e m Q q =>
  h H1 e m _ fun a vs H2 e2 s d => ⟨a, vs, rfl, Or.inl ⟨s, fun p hp => by
    have e3 : Ex H2 (upd H2 p (.tup vs)) := Ex.new hp
    exact q _ _ (e2.trans e3) (Dt.ofTupv (SqT.of (msk_at (m.ex e2) hp)) (d.mono (msk_ex e3)))⟩⟩
theorem hv_cat {xs ys : List α} (ha : HS K M ta σ H xs) (hb : HS K M tb σ H ys) (hz : xs.length + ys.length ≤ 100000) :
    Hv K M (tOp (fun x y H Q => ∃ a b xs ys, x = .ref a ∧ y = .ref b ∧ SqL K H a xs ∧ SqL K H b ys ∧ xs.length + ys.length ≤ sizeLine ∧ ∀ p, H p = none → Q (.ref p) (upd H p (.lst (xs ++ ys)))) ta tb) σ H (xs ++ ys) := fun H1 e m Q q =>
  ha H1 e m _ fun a vs H2 e2 s d => hb H2 (e.trans e2) (m.ex e2) _ fun b ws H3 e3 s' d' =>
    ⟨a, b, vs, ws, rfl, rfl, ex_l e3 s, s', sz_of (by rw [d.len, d'.len]; exact hz), fun p hp => by
      have m3 := (m.ex e2).ex e3
      have e4 : Ex H3 (upd H3 p (.lst (vs ++ ws))) := Ex.new hp
      exact q _ _ ((e2.trans e3).trans e4) (Dt.ofList (SqL.of (msk_at m3 hp)) ((d.mono (msk_ex (e3.trans e4))).app (d'.mono (msk_ex e4))))⟩
/-! ### truth, None -/
theorem ht_truL {xs : List α} (h : HS K M te σ H xs) : HT M (fun σ H Q => te σ H fun x H' => ∃ k, TruV K x H' k ∧ Q k H') σ H (!xs.isEmpty) := fun H1 e m Q q =>
  h H1 e m _ fun a vs H2 e2 s d => ⟨!vs.isEmpty, Or.inl ⟨vs, s, rfl⟩, by
    have : vs.isEmpty = xs.isEmpty := by
      have := d.len
      cases vs <;> cases xs <;> simp_all
    rw [this]
    exact q H2 e2⟩
theorem dt_none [SomeX α] {v : V} {x : Option α} (d : Dt K H v x) : decide (v = .non) = x.isNone := by
  cases x with
  | none => cases (show Xp K H v .none from d); rfl
  | some a =>
    have n := SomeX.some a
    have d' : Xp K H v (Dx.toX a) := d
    generalize Dx.toX a = z at n d'
    cases d' with
    | non => exact absurd rfl n
    | _ => rfl
theorem hv_isN [SomeX α] {x : Option α} (h : Hv K M ta σ H x) : Hv K M (tOp (fun x y H Q => y = .non ∧ Q (.bl (decide (x = .non))) H) ta (tC .non)) σ H x.isNone := fun H1 e m Q q =>
  h H1 e m _ fun v H2 e2 d => ⟨rfl, q _ H2 e2 (by rw [dt_none d]; exact Dt.ofBool _)⟩
theorem hv_notN [SomeX α] {x : Option α} (h : Hv K M ta σ H x) : Hv K M (tOp (fun x y H Q => y = .non ∧ Q (.bl (!decide (x = .non))) H) ta (tC .non)) σ H (!x.isNone) := fun H1 e m Q q =>
  h H1 e m _ fun v H2 e2 d => ⟨rfl, q _ H2 e2 (by rw [dt_none d]; exact Dt.ofBool _)⟩
theorem hv_un [SomeX α] {x : α} (h : Hv K M te σ H (some x)) : Hv K M te σ H x := fun H1 e m Q q => h H1 e m Q fun v H2 e2 d => q v H2 e2 d

/-! ### comprehensions -/
theorem take_snoc {xs : List α} {i : Nat} {x : α} (h : xs[i]? = some x) : xs.take (i + 1) = xs.take i ++ [x] := by
  rw [List.take_add_one, h]; rfl
theorem lc_listD {a : Addr} {xs : List α} {vs : List Nat} {D : Addr} {Qd : Hp → Prop} {M' : List Addr} (Pv : Nat → Hp → Prop) (h0 : Pv 0 (upd H1 D (.lst []))) (hl : ∀ i H', i ≤ xs.length → Pv i H' → ∃ us, SqL K H' a us ∧ Dts K (msk M' H') us xs)
    (hs : ∀ i x w H', xs[i]? = some x → Pv i H' → Dt K (msk M' H') w x → g w (wipe σ vs) H' fun σ2 H2 => wipe σ2 vs = wipe σ vs ∧ tt σ2 H2 fun b H3 =>
      if b = true then te σ2 H3 fun y H4 => ∃ acc, H4 D = some (.lst acc) ∧ acc.length < sizeLine ∧ Pv (i + 1) (upd H4 D (.lst (acc ++ [y]))) else Pv (i + 1) H3) (hd : ∀ H', Pv xs.length H' → Qd H') :
    ∃ W : Nat → Nat → Hp → Prop, (∃ m, W 0 m (upd H1 D (.lst []))) ∧ ∀ i m H, W i m H →
      ((Itl K a).stop i H ∧ Qd H) ∨ ((Itl K a).go i H ∧ ∃ Nx : Hp → Prop, (∀ H', Nx H' → ∃ m', m' < m ∧ W (i + 1) m' H') ∧ ∀ x H', (Itl K a).yld i H x H' → g x (wipe σ vs) H' fun σ2 H2 => wipe σ2 vs = wipe σ vs ∧ tt σ2 H2 fun b H3 =>
        if b = true then te σ2 H3 fun y H4 => ∃ acc, H4 D = some (.lst acc) ∧ acc.length < sizeLine ∧ Nx (upd H4 D (.lst (acc ++ [y]))) else Nx H3) := by
  refine ⟨fun i m H => m = xs.length - i ∧ i ≤ xs.length ∧ Pv i H, ⟨xs.length, by simp, Nat.zero_le _, h0⟩, ?_⟩
  rintro i m H ⟨rfl, hi, p⟩
  obtain ⟨us, q, ds⟩ := hl i H hi p
  have el := ds.len
  by_cases hlt : i < xs.length
  · refine .inr ⟨⟨us, us[i]'(by omega), q, by simp [show i < us.length by omega]⟩, Pv (i + 1), fun H' p' => ⟨xs.length - (i + 1), by omega, rfl, hlt, p'⟩, fun x H' y => ?_⟩
    obtain ⟨e, y⟩ := y
    subst e
    obtain ⟨w, h1, h2⟩ := ds.at (i := i) (x := xs[i]) (by simp [hlt])
    have e1 : x = w := Option.some.inj ((y us q).symm.trans h1)
    subst e1
    exact hs i _ x _ (by simp [hlt]) p h2
  · have e : i = xs.length := by omega
    subst e
    exact .inl ⟨⟨us, q, by omega⟩, hd H p⟩
/-- a turn's end: the item goes behind the others, or not -/
theorem lc_turn {D : Addr} {ys zs : List β} {b : Bool} {y : β} {σ2 : L2.St} (s : Sg K Mc He H is ((D, .lst (ys.map Dx.toX)) :: ms)) (hz : ys.length < 50000) (N : Hp → Prop)
    (ht : HT (muA ((D, Mv.lst (ys.map Dx.toX)) :: ms) ++ Mc) tt σ2 H b) (he : b = true → Hv K (muA ((D, Mv.lst (ys.map Dx.toX)) :: ms) ++ Mc) te σ2 H y)
    (hzs : zs = if b = true then ys ++ [y] else ys) (hN : ∀ H', (∃ H4, Ex H H4 ∧ (H' = H4 ∨ ∃ o, H' = upd H4 D o)) → Sg K Mc He H' is ((D, .lst (zs.map Dx.toX)) :: ms) → N H') :
    tt σ2 H fun b' H3 => if b' = true then te σ2 H3 fun v H4 => ∃ acc, H4 D = some (.lst acc) ∧ acc.length < sizeLine ∧ N (upd H4 D (.lst (acc ++ [v]))) else N H3 := by
  refine ht H (Ex.refl H) s.mok _ fun H3 e3 => ?_
  cases b with
  | false =>
    show N H3
    rw [if_neg Bool.false_ne_true] at hzs
    subst hzs
    exact hN H3 ⟨H3, e3, .inl rfl⟩ (s.ex e3)
  | true =>
    show te σ2 H3 fun v H4 => ∃ acc, H4 D = some (.lst acc) ∧ acc.length < sizeLine ∧ N (upd H4 D (.lst (acc ++ [v])))
    rw [if_pos rfl] at hzs
    subst hzs
    refine he rfl H3 e3 ((s.ex e3).mok) _ fun v H4 e4 d => ?_
    have s4 := (s.ex e3).ex e4
    obtain ⟨us, h1, h2⟩ := s4.lst (k := 0) rfl
    refine ⟨us, h1, sz_lt (by rw [h2.len]; omega), hN _ ⟨H4, e3.trans e4, .inr ⟨_, rfl⟩⟩ (s4.set (k := 0) (m' := .lst ((ys ++ [y]).map Dx.toX)) rfl ⟨_, rfl, ?_⟩)⟩
    rw [List.map_append]
    exact dpa_app h2 (.cons d .nil)
theorem filter_snoc {f : α → Bool} {ef : α → β} {xs : List α} {i : Nat} {x : α} (h : xs[i]? = some x) : ((xs.take (i + 1)).filter f).map ef = if f x = true then ((xs.take i).filter f).map ef ++ [ef x] else ((xs.take i).filter f).map ef := by
  rw [take_snoc h, List.filter_append, List.map_append]
  by_cases e : f x = true
  · rw [if_pos e]; simp [List.filter_cons, e]
  · rw [if_neg e]; simp [List.filter_cons, e]
theorem hv_lcL {vs : List Nat} (s : Sg K Mc He H is ms) {xs : List α} (f : α → Bool) (ef : α → β) (h : Hv K (muA ms ++ Mc) tl σ H xs) (hz : xs.length ≤ 40000)
    (hb : ∀ D src x w (ys : List β) H1, Sg K Mc He H1 ((w, Dx.toX x) :: (src, Dx.toX xs) :: is) ((D, .lst (ys.map Dx.toX)) :: ms) → x ∈ xs →
      ∀ Q : L2.St → Hp → Prop, (∀ σ2, wipe σ2 vs = wipe σ vs → HT (muA ((D, Mv.lst (ys.map Dx.toX)) :: ms) ++ Mc) tt σ2 H1 (f x) → (f x = true → Hv K (muA ((D, Mv.lst (ys.map Dx.toX)) :: ms) ++ Mc) te σ2 H1 (ef x)) → Q σ2 H1) → g w (wipe σ vs) H1 Q) :
    Hv K (muA ms ++ Mc) (tLc (iList K tl) g tt te vs) σ H ((xs.filter f).map ef) := fun H1 e m Q q =>
  h H1 e m _ fun v H2 e2 d => by
    obtain ⟨a, us, rfl, s1, ds⟩ := d.list
    refine ⟨a, rfl, ⟨us, ex_l msk_le s1⟩, fun D hD => ?_⟩
    have sA : Sg K Mc He H2 ((.ref a, Dx.toX xs) :: is) ms := ((s.ex e).ex e2).put d
    have sB : Sg K Mc He (upd H2 D (.lst [])) ((.ref a, Dx.toX xs) :: is) ((D, .lst (([] : List β).map Dx.toX)) :: ms) := sA.new hD ⟨[], rfl, .nil⟩
    refine lc_listD (xs := xs) (M' := D :: (muA ms ++ Mc)) (fun i H' => Ex H2 H' ∧ Sg K Mc He H' ((.ref a, Dx.toX xs) :: is) ((D, .lst ((((xs.take i).filter f).map ef).map Dx.toX)) :: ms)) ⟨Ex.new hD, sB⟩
      (fun i H' _ p => ?_) (fun i x w H' hx p dw => ?_) (fun H' p => ?_)
    · obtain ⟨a', us', e', s2, ds'⟩ := Dt.list (α := α) p.2.im.1
      cases e'
      exact ⟨us', ex_l msk_le s2, ds'⟩
    · have hi : i < xs.length := (List.getElem?_eq_some_iff.mp hx).1
      refine hb D (.ref a) x w _ H' (p.2.put dw) (List.mem_of_getElem? hx) _ fun σ2 hw ht he => ⟨hw, ?_⟩
      have hlen : (((xs.take i).filter f).map ef).length < 50000 := by
        rw [List.length_map]
        have := List.length_filter_le f (xs.take i)
        rw [List.length_take] at this
        omega
      have key := lc_turn (ms := ms) (zs := ((xs.take (i + 1)).filter f).map ef) p.2 hlen (fun H3 => Ex H2 H3 ∧ Sg K Mc He H3 ((.ref a, Dx.toX xs) :: is) ((D, .lst ((((xs.take (i + 1)).filter f).map ef).map Dx.toX)) :: ms)) ht he (filter_snoc hx) (fun H3 h4 s3 => ⟨by
        obtain ⟨H4, e4, e5⟩ := h4
        rcases e5 with e5 | ⟨o, e5⟩
        · rw [e5]; exact p.1.trans e4
        · rw [e5]; exact Ex.mut (p.1.trans e4) hD, s3⟩)
      exact key
    · have z := p.2
      rw [List.take_length] at z
      exact q _ H' (e2.trans p.1) (z.frz).im.1

/-- without a test -/
theorem hv_lcL0 {vs : List Nat} (s : Sg K Mc He H is ms) {xs : List α} (ef : α → β) (h : Hv K (muA ms ++ Mc) tl σ H xs) (hz : xs.length ≤ 40000)
    (hb : ∀ D src x w (ys : List β) H1, Sg K Mc He H1 ((w, Dx.toX x) :: (src, Dx.toX xs) :: is) ((D, .lst (ys.map Dx.toX)) :: ms) → x ∈ xs →
      ∀ Q : L2.St → Hp → Prop, (∀ σ2, wipe σ2 vs = wipe σ vs → Hv K (muA ((D, Mv.lst (ys.map Dx.toX)) :: ms) ++ Mc) te σ2 H1 (ef x) → Q σ2 H1) → g w (wipe σ vs) H1 Q) :
    Hv K (muA ms ++ Mc) (tLc (iList K tl) g tYes te vs) σ H (xs.map ef) := by
  have key := hv_lcL (g := g) (tt := tYes) (te := te) (vs := vs) s (fun _ => true) ef h hz (fun D src x w ys H1 s1 hx Q k => hb D src x w ys H1 s1 hx Q fun σ2 hw he => k σ2 hw (fun H2 _ _ _ q => q H2 (Ex.refl H2)) fun _ => he)
  exact key.is (by rw [List.filter_eq_self.mpr (fun _ _ => rfl)])
/-- 0, 1, .. below n -/
def irng (lo : Int) (n : Nat) : List Int := (List.range n).map fun (i : Nat) => lo + (i : Int)
theorem irng_get {lo : Int} {n i : Nat} (h : i < n) : (irng lo n)[i]? = some (lo + (i : Int)) := by
  unfold irng
  rw [List.getElem?_map, List.getElem?_range h]
  rfl
theorem irng_len {lo : Int} {n : Nat} : (irng lo n).length = n := by unfold irng; rw [List.length_map, List.length_range]
theorem hv_lcR {vs : List Nat} (s : Sg K Mc He H is ms) {n : Int} (f : Int → Bool) (ef : Int → β) (h : Hv K (muA ms ++ Mc) ta σ H n) (hz : -100000 ≤ n ∧ n ≤ 40000)
    (hb : ∀ D (x : Int) (ys : List β) H1, Sg K Mc He H1 is ((D, .lst (ys.map Dx.toX)) :: ms) → 0 ≤ x ∧ x < n →
      ∀ Q : L2.St → Hp → Prop, (∀ σ2, wipe σ2 vs = wipe σ vs → HT (muA ((D, Mv.lst (ys.map Dx.toX)) :: ms) ++ Mc) tt σ2 H1 (f x) → (f x = true → Hv K (muA ((D, Mv.lst (ys.map Dx.toX)) :: ms) ++ Mc) te σ2 H1 (ef x)) → Q σ2 H1) → g (.int x) (wipe σ vs) H1 Q) :
    Hv K (muA ms ++ Mc) (tLc (iRng1 (tCons ta tNil)) g tt te vs) σ H (((irng 0 n.toNat).filter f).map ef) := fun H1 e m Q q =>
  h H1 e m _ fun v H2 e2 d => by
    refine ⟨n, by rw [d.int], by omega, by omega, fun D hD => ?_⟩
    have sA : Sg K Mc He H2 is ms := (s.ex e).ex e2
    have sB : Sg K Mc He (upd H2 D (.lst [])) is ((D, .lst (([] : List β).map Dx.toX)) :: ms) := sA.new hD ⟨[], rfl, .nil⟩
    refine lc_range (lo := 0) (n := n.toNat) (fun i H' => Ex H2 H' ∧ Sg K Mc He H' is ((D, .lst (((((irng 0 n.toNat).take i).filter f).map ef).map Dx.toX)) :: ms)) ⟨Ex.new hD, sB⟩
      (fun i H' hi p => ?_) (fun H' p => ?_)
    · have hx : (irng 0 n.toNat)[i]? = some ((0 : Int) + (i : Int)) := irng_get hi
      refine hb D ((0 : Int) + (i : Int)) _ H' p.2 ⟨by omega, by omega⟩ _ fun σ2 hw ht he => ⟨hw, ?_⟩
      have hlen : ((((irng 0 n.toNat).take i).filter f).map ef).length < 50000 := by
        rw [List.length_map]
        have := List.length_filter_le f ((irng 0 n.toNat).take i)
        rw [List.length_take, irng_len] at this
        omega
      exact lc_turn (ms := ms) (zs := (((irng 0 n.toNat).take (i + 1)).filter f).map ef) p.2 hlen (fun H3 => Ex H2 H3 ∧ Sg K Mc He H3 is ((D, .lst (((((irng 0 n.toNat).take (i + 1)).filter f).map ef).map Dx.toX)) :: ms)) ht he (filter_snoc hx) (fun H3 h4 s3 => ⟨by
        obtain ⟨H4, e4, e5⟩ := h4
        rcases e5 with e5 | ⟨o, e5⟩
        · rw [e5]; exact p.1.trans e4
        · rw [e5]; exact Ex.mut (p.1.trans e4) hD, s3⟩)
    · have z := p.2
      have et : (irng 0 n.toNat).take n.toNat = irng 0 n.toNat := List.take_of_length_le (by rw [irng_len]; exact Nat.le_refl _)
      rw [et] at z
      exact q _ H' (e2.trans p.1) (z.frz).im.1
theorem hv_lcR0 {vs : List Nat} (s : Sg K Mc He H is ms) {n : Int} (ef : Int → β) (h : Hv K (muA ms ++ Mc) ta σ H n) (hz : -100000 ≤ n ∧ n ≤ 40000)
    (hb : ∀ D (x : Int) (ys : List β) H1, Sg K Mc He H1 is ((D, .lst (ys.map Dx.toX)) :: ms) → 0 ≤ x ∧ x < n →
      ∀ Q : L2.St → Hp → Prop, (∀ σ2, wipe σ2 vs = wipe σ vs → Hv K (muA ((D, Mv.lst (ys.map Dx.toX)) :: ms) ++ Mc) te σ2 H1 (ef x) → Q σ2 H1) → g (.int x) (wipe σ vs) H1 Q) :
    Hv K (muA ms ++ Mc) (tLc (iRng1 (tCons ta tNil)) g tYes te vs) σ H ((irng 0 n.toNat).map ef) := by
  have key := hv_lcR (g := g) (tt := tYes) (te := te) (vs := vs) s (fun _ => true) ef h hz (fun D x ys H1 s1 hx Q k => hb D x ys H1 s1 hx Q fun σ2 hw he => k σ2 hw (fun H2 _ _ _ q => q H2 (Ex.refl H2)) fun _ => he)
  exact key.is (by rw [List.filter_eq_self.mpr (fun _ _ => rfl)])
end
/-! ### the least of a list -/
section
variable {K : PySem.W.Frag} {M : List Addr} {σ : L2.St} {H : Hp} {te : TE}
variable {α : Type} [DecidableEq α] [Dx α] [DatumOrd α]
theorem toD_inj {a b : α} (h : Datum.toD a = Datum.toD b) : a = b := by
  have e := Datum.eqv a b
  rw [h, Datum.eqv b b] at e
  simpa using e.symm
theorem holds_inj {h : Heap} {v : Value} {a b : α} (x : PySem.W.Holds h v a) (y : PySem.W.Holds h v b) : a = b := by
  obtain ⟨as, r⟩ := x
  obtain ⟨bs, r'⟩ := y
  exact toD_inj (PySem.W.alike_unique _ _ _ _ _ (DatumOrd.alike a b) r r')
def minL (l : List α) (d : α) : α := match l with
  | [] => d
  | x :: r => PySem.W.minOf x r
def rMinT (α : Type) [DecidableEq α] [Dx α] [DatumOrd α] (K : PySem.W.Frag) : List V → Hp → VK → Prop := fun vs H Q => ∃ (a : Addr) (us : List V) (x : α) (xs : List α), vs = [V.ref a] ∧ SqL K H a us ∧ Dts K H us (x :: xs) ∧ ∀ (i : Nat) (v : V), us[i]? = some v → (x :: xs)[i]? = some (PySem.W.minOf x xs) → Q v H
theorem dts_holdAll [DxD α] {X : Cx} {pins : List (Addr × Obj)} {s : Shared} (I : L2.Inv X pins σ H s) {us : List V} {its : List Value} {xs : List α} (d : Dts X.K H us xs) (r : Vals us its) : PySem.W.HoldAll s.heap its xs := Dp.readsAll I _ us its (link_all d) r
theorem call_minT [DxD α] {X : Cx} (hc : X.calm = true) (hu : X.A.units + 1 + Datum.depth α < cLine) : CallR X (.builtin "min") (rMinT α X.K) := by
  intro pins s σ H vs us Q I r h
  obtain ⟨a, ws, x, xs, rfl, hS, hD, q⟩ := h
  obtain ⟨u, rfl, rx⟩ := vals1 r
  cases rx
  obtain ⟨its, rv, pl, hz⟩ := I.list hS
  refine PySem.W.min_list_datum (I.ok.hd hc) pl.isList (dts_holdAll I hD rv) hu fun i v h' tk hi hold kk => ?_
  have hi' : its[i]? = some v := by simpa using hi
  have hlen := rv.length
  have hil : i < ws.length := by
    have := (List.getElem?_eq_some_iff.mp hi').1
    omega
  obtain ⟨u', e1, e2⟩ := rv.get (i := i) (x := ws[i]) (by simp [hil])
  rw [hi'] at e1
  cases e1
  have hx2 : ∃ z, (x :: xs)[i]? = some z := ⟨(x :: xs)[i]'(by rw [← hD.len]; exact hil), by simp [hD.len ▸ hil]⟩
  obtain ⟨z, hz2⟩ := hx2
  obtain ⟨w, w1, w2⟩ := hD.at hz2
  have ew : w = ws[i] := by
    rw [List.getElem?_eq_getElem hil] at w1
    exact (Option.some.inj w1).symm
  subst ew
  have I' : L2.Inv X pins σ H { s with heap := h', toks := tk } := I.kept kk
  have ez : z = PySem.W.minOf x xs := holds_inj (dt_holds I' w2 e2) hold
  exact ⟨_, H, I', e2, q i _ (by simp [hil]) (by rw [← ez]; exact hz2)⟩
theorem hv_min {xs : List α} (d : α) (h : HS K M te σ H xs) (hne : xs ≠ []) : Hv K M (tCB (rMinT α K) (tCons te tNil)) σ H (minL xs d) := fun H1 e m Q q =>
  h H1 e m _ fun a vs H2 e2 s ds => by
    cases xs with
    | nil => exact absurd rfl hne
    | cons x r =>
      refine ⟨a, vs, x, r, rfl, s, ds.mono msk_le, fun i v hv hx => ?_⟩
      obtain ⟨w, w1, w2⟩ := ds.at hx
      rw [hv] at w1
      cases w1
      exact q v H2 e2 w2
end
theorem hud1 {A : Around} {k d : Nat} (hr : Room k A) (h : 1 + d ≤ 64) : A.units + 1 + d < cLine := by
  have := hud hr h
  omega
/-! ### what a loop keeps -/
theorem loopN_keep {S : Type} {f : S → Int → S} (P : S → Nat → Prop) (h : ∀ s k j, P s j → P (f s k) (j + 1)) : ∀ (n : Nat) (k : Int) (s : S) (j : Nat), P s j → P (loopN f n k s) (j + n)
  | 0, _, _, _, p => p
  | n + 1, k, s, j, p => by
    have := loopN_keep P h n (k + 1) (f s k) (j + 1) (h s k j p)
    show P (loopN f n (k + 1) (f s k)) (j + (n + 1))
    rw [show j + (n + 1) = j + 1 + n by omega]
    exact this
theorem sIx_nn {n d : Nat} {i : Int} (h : 0 ≤ i) : HT.sIx n d (some i) = min i.toNat n := by
  have e : i = ((i.toNat : Nat) : Int) := (Int.toNat_of_nonneg h).symm
  rw [e]
  exact HT.sIx_nat n d i.toNat
theorem cutL_from {α : Type} {xs : List α} {i : Int} (h : 0 ≤ i) : cutL xs (some i) none = xs.drop i.toNat := by
  unfold cutL
  rw [sIx_nn h, HT.sIx_none]
  by_cases e : i.toNat ≤ xs.length
  · rw [Nat.min_eq_left e]
    exact List.take_of_length_le (by rw [List.length_drop]; exact Nat.le_refl _)
  · rw [Nat.min_eq_right (by omega), List.drop_eq_nil_of_le (Nat.le_refl _), List.drop_eq_nil_of_le (by omega)]
    exact List.take_nil
theorem cutL_to {α : Type} {xs : List α} {i : Int} (h : 0 ≤ i) : cutL xs none (some i) = xs.take i.toNat := by
  unfold cutL
  rw [sIx_nn h, HT.sIx_none, List.drop_zero, Nat.sub_zero, List.take_eq_take_iff]
  omega
end Ly

namespace Ly
open PySem PySem.Spec PyProof.Rows L2 Evl
open PySem.W (Datum DatumOrd Tup T3 T4 minOf)
section
variable {α : Type} [DecidableEq α] [DatumOrd α]
theorem lt_irrefl (a : α) : DatumOrd.lt a a = false := by
  rw [← DatumOrd.lt_eq]; exact PySem.W.dataLt_self _
theorem lt_trans {a b c : α} (h : DatumOrd.lt a b = true) (h' : DatumOrd.lt b c = true) : DatumOrd.lt a c = true := by
  rw [← DatumOrd.lt_eq] at h h' ⊢
  exact lex_trans _ _ _ h h'
theorem lt_total {a b : α} (h : DatumOrd.lt a b = false) (h' : DatumOrd.lt b a = false) : Datum.toD a = Datum.toD b ∨ PySem.W.keyToks (Datum.toD a) = PySem.W.keyToks (Datum.toD b) := by
  rw [← DatumOrd.lt_eq] at h h'
  exact .inr (lex_total _ _ h h')
theorem lt_neg {a b c : α} (h : DatumOrd.lt a c = true) : DatumOrd.lt a b = true ∨ DatumOrd.lt b c = true := by
  rw [← DatumOrd.lt_eq] at h
  rw [← DatumOrd.lt_eq, ← DatumOrd.lt_eq]
  exact lex_negTrans _ _ _ h
theorem minOf_spec : ∀ (xs : List α) (x : α), minOf x xs ∈ x :: xs ∧ ∀ y ∈ x :: xs, DatumOrd.lt y (minOf x xs) = false
  | [], x => ⟨List.mem_cons_self, fun y hy => by
    have e : y = x := by simpa using hy
    rw [e]; exact lt_irrefl x⟩
  | z :: r, x => by
    have e : minOf x (z :: r) = minOf (if DatumOrd.lt z x = true then z else x) r := rfl
    rw [e]
    by_cases h : DatumOrd.lt z x = true
    · rw [if_pos h]
      obtain ⟨h1, h2⟩ := minOf_spec r z
      refine ⟨?_, fun y hy => ?_⟩
      · rcases List.mem_cons.mp h1 with q | q
        · rw [q]; simp
        · simp [q]
      · rcases List.mem_cons.mp hy with q | q
        · subst q
          cases hq : DatumOrd.lt y (minOf z r) with
          | false => rfl
          | true => exact absurd (lt_trans h hq) (by rw [h2 z List.mem_cons_self]; decide)
        · exact h2 y q
    · rw [if_neg h]
      obtain ⟨h1, h2⟩ := minOf_spec r x
      refine ⟨?_, fun y hy => ?_⟩
      · rcases List.mem_cons.mp h1 with q | q
        · rw [q]; simp
        · simp [q]
      · rcases List.mem_cons.mp hy with q | q
        · subst q; exact h2 y List.mem_cons_self
        · rcases List.mem_cons.mp q with q | q
          · subst q
            cases hq : DatumOrd.lt y (minOf x r) with
            | false => rfl
            | true =>
              rcases lt_neg (b := x) hq with q2 | q2
              · exact absurd q2 h
              · exact absurd q2 (by rw [h2 x List.mem_cons_self]; decide)
          · exact h2 y (List.mem_cons_of_mem _ q)
end
end Ly

namespace Ly
open PySem PySem.Spec PyProof.Rows L2 Evl
open PySem.W (Datum DatumOrd Tup T3 T4 minOf)
section
variable {K : PySem.W.Frag} {Mc M : List Addr} {He H H1 H2 : Hp} {is js : Ims} {ms : Mus} {σ : L2.St} {te ta tb tl : TE} {tt : TT} {g : TG} {tlo thi : TO}
variable {D : Ends} {tz tu tw : TS}
/-! ### texts -/
theorem hv_addS {a b : Str} (ha : Hv K M ta σ H a) (hb : Hv K M tb σ H b) (hz : a.length + b.length ≤ 100000) :
    Hv K M (tOp (fun x y H Q => ∃ i j, x = .str i ∧ y = .str j ∧ i.length + j.length ≤ sizeLine ∧ Q (.str (i ++ j)) H) ta tb) σ H (a ++ b) := fun H1 e m Q q =>
  ha H1 e m _ fun v H2 e2 d => hb H2 (e.trans e2) (m.ex e2) _ fun u H3 e3 d' => ⟨a, b, d.str, d'.str, sz_of hz, q _ H3 (e2.trans e3) (Dt.ofStr _)⟩
theorem hv_lower {a : Str} (ha : Hv K M ta σ H a) (hz : a.length ≤ 100000) : Hv K M (tM0 (fun x xs H Q => ∃ a, x = .str a ∧ xs = [] ∧ a.length ≤ 5592405 ∧ Q (.str (Txt.lower a)) H) ta) σ H (Txt.lower a) := fun H1 e m Q q =>
  ha H1 e m _ fun v H2 e2 d => ⟨⟨a, d.str⟩, a, d.str, rfl, by omega, q _ H2 e2 (Dt.ofStr _)⟩
theorem hv_lenS {a : Str} (ha : Hv K M ta σ H a) (hz : a.length ≤ 100000) : Hv K M (tCB (fun xs H Q => ∃ x n, xs = [x] ∧ LenV K x H n ∧ Q (.int n) H) (tCons ta tNil)) σ H (a.length : Int) := fun H1 e m Q q =>
  ha H1 e m _ fun v H2 e2 d => ⟨v, a.length, rfl, by rw [d.str]; exact ⟨sz_of hz, rfl⟩, q _ H2 e2 (Dt.ofInt _)⟩
/-- the sign at a place -/
def strAt (s : Str) (i : Nat) : Str := ⟨#[s.cps.toList.getD i 0]⟩
theorem hv_ixStr {a : Str} {i : Int} (ha : Hv K M ta σ H a) (hb : Hv K M tb σ H i) (hz : a.length ≤ 100000) (h0 : 0 ≤ i) (h1 : i < (a.length : Int)) : Hv K M (tOp rIxS ta tb) σ H (strAt a i.toNat) := fun H1 e m Q q =>
  ha H1 e m _ fun v H2 e2 d => hb H2 (e.trans e2) (m.ex e2) _ fun u H3 e3 d' => by
    have hl : i.toNat < a.cps.toList.length := by
      have : a.length = a.cps.toList.length := by simp [Str.length]
      omega
    refine ⟨a, i, a.cps.toList.getD i.toNat 0, d.str, d'.int, sz_of hz, ?_, q _ H3 (e2.trans e3) (Dt.ofStr _)⟩
    rw [show i = ((i.toNat : Nat) : Int) from (Int.toNat_of_nonneg h0).symm]
    refine atI_nat ?_
    rw [List.getD_eq_getElem?_getD, Int.toNat_natCast, List.getElem?_eq_getElem hl]
    rfl
theorem hv_sliceS {a : Str} {lo hi : Option Int} (h : Hv K M te σ H a) (h1 : HO' M tlo σ H lo) (h2 : HO' M thi σ H hi) (hz : a.length ≤ 100000) : Hv K M (tSl rSlS te tlo thi) σ H (cutS a lo hi) := fun H1 e m Q q =>
  h H1 e m _ fun v H2 e2 d => h1 H2 (e.trans e2) (m.ex e2) _ fun H3 e3 => h2 H3 ((e.trans e2).trans e3) ((m.ex e2).ex e3) _ fun H4 e4 =>
    ⟨a, d.str, sz_of hz, q _ H4 ((e2.trans e3).trans e4) (Dt.ofStr _)⟩
def inStr (i j : Str) : Bool := !(Builtin.Str.occurrences j i 0 j.length 1).isEmpty
theorem hv_inStr {a b : Str} (ha : Hv K M ta σ H a) (hb : Hv K M tb σ H b) : Hv K M (tOp (fun x y H Q => ∃ i j, x = .str i ∧ y = .str j ∧ Q (.bl (!(Builtin.Str.occurrences j i 0 j.length 1).isEmpty)) H) ta tb) σ H (inStr a b) := fun H1 e m Q q =>
  ha H1 e m _ fun v H2 e2 d => hb H2 (e.trans e2) (m.ex e2) _ fun u H3 e3 d' => ⟨a, b, d.str, d'.str, q _ H3 (e2.trans e3) (Dt.ofBool _)⟩
theorem hv_niStr {a b : Str} (ha : Hv K M ta σ H a) (hb : Hv K M tb σ H b) : Hv K M (tOp (fun x y H Q => ∃ i j, x = .str i ∧ y = .str j ∧ Q (.bl (!(!(Builtin.Str.occurrences j i 0 j.length 1).isEmpty))) H) ta tb) σ H (!inStr a b) := fun H1 e m Q q =>
  ha H1 e m _ fun v H2 e2 d => hb H2 (e.trans e2) (m.ex e2) _ fun u H3 e3 d' => ⟨a, b, d.str, d'.str, q _ H3 (e2.trans e3) (Dt.ofBool _)⟩
theorem hv_find {a b : Str} (ha : Hv K M ta σ H a) (hb : Hv K M tb σ H b) : Hv K M (tM1 (fun x xs H Q => ∃ a b, x = .str a ∧ xs = [.str b] ∧ Q (.int (Txt.find a b)) H) ta tb) σ H (Txt.find a b) := fun H1 e m Q q =>
  ha H1 e m _ fun v H2 e2 d => ⟨⟨a, d.str⟩, hb H2 (e.trans e2) (m.ex e2) _ fun u H3 e3 d' => ⟨a, b, d.str, by rw [d'.str], q _ H3 (e2.trans e3) (Dt.ofInt _)⟩⟩
theorem hv_find3 {a b : Str} {i : Int} (ha : Hv K M ta σ H a) (hb : Hv K M tb σ H b) (hc : Hv K M te σ H i) :
    Hv K M (tBM K "str" (fun x xs H Q => ∃ (a b : Str) (i : Int), x = .str a ∧ xs = [.str b, .int i] ∧ Q (.int (Txt.find3 a b i)) H) ta (tCons tb (tCons te tNil))) σ H (Txt.find3 a b i) := fun H1 e m Q q =>
  ha H1 e m _ fun v H2 e2 d => ⟨by rw [d.str]; exact (rfl : ("str" : String) = "str"), hb H2 (e.trans e2) (m.ex e2) _ fun u H3 e3 d' => hc H3 ((e.trans e2).trans e3) ((m.ex e2).ex e3) _ fun z H4 e4 d'' =>
    ⟨a, b, i, d.str, by rw [d'.str, d''.int], q _ H4 ((e2.trans e3).trans e4) (Dt.ofInt _)⟩⟩
theorem dts_strs {H : Hp} : ∀ {vs : List V} {xs : List Str}, Dts K H vs xs → vs = xs.map V.str
  | [], [], _ => rfl
  | [], _ :: _, h => by cases h
  | _ :: _, [], h => by cases h
  | v :: vs, x :: xs, h => by
    cases h with
    | cons a b =>
      rw [List.map_cons, Dt.str (H := H) (K := K) (v := v) (i := x) a, dts_strs (vs := vs) (xs := xs) b]
theorem hv_join {a : Str} {xs : List Str} (ha : Hv K M ta σ H a) (hb : HS K M tb σ H xs) (hz : (xs.map (·.length)).sum + xs.length * a.length ≤ 100000) :
    Hv K M (tM1 (fun x xs H Q => ∃ a p, ∃ ys : List Str, x = .str a ∧ xs = [.ref p] ∧ (SqL K H p (ys.map V.str) ∨ SqT K H p (ys.map V.str)) ∧ (ys.map (·.length)).sum + ys.length * a.length ≤ 16777216 ∧ Q (.str (Txt.join a ys)) H) ta tb) σ H (Txt.join a xs) := fun H1 e m Q q =>
  ha H1 e m _ fun v H2 e2 d => ⟨⟨a, d.str⟩, hb H2 (e.trans e2) (m.ex e2) _ fun p vs H3 e3 s ds => ⟨a, p, xs, d.str, rfl, Or.inl (by rw [← dts_strs ds]; exact s), by omega, q _ H3 (e2.trans e3) (Dt.ofStr _)⟩⟩
theorem hv_intI {i : Int} (ha : Hv K M ta σ H i) : Hv K M (tCB (fun xs H Q => (∃ i, xs = [.int i] ∧ Q (.int i) H) ∨ ∃ k, xs = [.bl k] ∧ Q (.int (if k then 1 else 0)) H) (tCons ta tNil)) σ H i := fun H1 e m Q q =>
  ha H1 e m _ fun v H2 e2 d => Or.inl ⟨i, by rw [d.int], q _ H2 e2 (Dt.ofInt _)⟩
theorem hv_intS {a : Str} {n : Int} (ha : Hv K M ta σ H a) (hn : PySem.intText? a = some n) (hz : a.length ≤ 640) : Hv K M (tCB (fun xs H Q => ∃ a n, xs = [.str a] ∧ PySem.intText? a = some n ∧ a.length ≤ 640 ∧ Q (.int n) H) (tCons ta tNil)) σ H n := fun H1 e m Q q =>
  ha H1 e m _ fun v H2 e2 d => ⟨a, n, by rw [d.str], hn, hz, q _ H2 e2 (Dt.ofInt _)⟩
/-- a text, so often -/
def mulS (a : Str) (n : Int) : Str := ⟨(List.replicate n.toNat a.cps.toList).flatten.toArray⟩
theorem mulS_len (a : Str) (n : Int) : (mulS a n).length = a.length * n.toNat := by
  have h1 : (mulS a n).length = (List.replicate n.toNat a.cps.toList).flatten.length := by simp [mulS, Str.length]
  have h2 : a.length = a.cps.toList.length := by simp [Str.length]
  rw [h1, h2, List.length_flatten, List.map_replicate, List.sum_replicate_nat, Nat.mul_comm]
theorem foldl_app : ∀ (k : Nat) (x : Array Nat) (acc : Array Nat), ((List.replicate k x).foldl (· ++ ·) acc).toList = acc.toList ++ (List.replicate k x.toList).flatten
  | 0, x, acc => by simp
  | k + 1, x, acc => by
    rw [List.replicate_succ, List.foldl_cons, foldl_app k x (acc ++ x), List.replicate_succ, List.flatten_cons, Array.toList_append, List.append_assoc]
theorem op_mulS {X : Cx} : OpR X (binaryOp .Mult) (fun x y H Q => ∃ i n, x = .str i ∧ y = .int n ∧ 1 ≤ n ∧ i.length * n.toNat ≤ 100000 ∧ n ≤ 100000 ∧ Q (.str (mulS i n)) H) := by
  intro pins s σ H x y v u Q I rx ry h
  obtain ⟨i, n, rfl, rfl, h1, h2, h3, q⟩ := h
  obtain ⟨t, rfl⟩ := rx
  obtain ⟨t', rfl⟩ := ry
  have hc : ¬ n < 1 := by omega
  refine PySem.P.mul_str ?_ (fun _ hb => ?_) (fun _ _ => ?_) ?_
  · rw [decide_eq_false (by omega), decide_eq_false (by omega)]; rfl
  · have h4 : (i.length : Int) ≤ 100000 := by
      have : i.length * 1 ≤ i.length * n.toNat := Nat.mul_le_mul_left _ (by omega)
      omega
    have h5 : (100000 : Int) ≤ (2 ^ 63 - 1) / n := by
      refine Int.le_ediv_of_mul_le (by omega) ?_
      omega
    omega
  · have hs : sizeLine = 16777216 := sizeLine_eq
    show decide (i.length * n.toNat > sizeLine) = false
    exact decide_eq_false (by omega)
  · rw [if_neg hc]
    by_cases e : (n == 1 || i.length == 0) = true
    · rw [if_pos e]
      have em : mulS i n = i := by
        refine TL.ext_tl ?_
        show (List.replicate n.toNat i.cps.toList).flatten = i.cps.toList
        rcases Bool.or_eq_true _ _ |>.mp e with e1 | e1
        · have : n = 1 := by simpa using e1
          subst this
          simp
        · have : i.cps.toList = [] := by
            have : i.length = 0 := by simpa using e1
            have h9 : i.cps.toList.length = 0 := by simpa [Str.length] using this
            exact List.length_eq_zero_iff.mp h9
          rw [this]
          simp
      rw [em] at q
      exact ⟨.str i, H, I, ⟨t, rfl⟩, q⟩
    · rw [if_neg e]
      have em : (⟨(List.replicate n.toNat i.cps).foldl (· ++ ·) #[]⟩ : Str) = mulS i n := by
        refine TL.ext_tl ?_
        show ((List.replicate n.toNat i.cps).foldl (· ++ ·) #[]).toList = (List.replicate n.toNat i.cps.toList).flatten
        rw [foldl_app]
        rfl
      rw [em]
      exact ⟨by rw [mulS_len]; exact sz_of h2, .str _, H, I.tok _, ⟨_, rfl⟩, q⟩
theorem hv_mulS {a : Str} {n : Int} (ha : Hv K M ta σ H a) (hb : Hv K M tb σ H n) (h1 : 1 ≤ n) (h2 : a.length * n.toNat ≤ 100000) (h3 : n ≤ 100000) :
    Hv K M (tOp (fun x y H Q => ∃ i n, x = .str i ∧ y = .int n ∧ 1 ≤ n ∧ i.length * n.toNat ≤ 100000 ∧ n ≤ 100000 ∧ Q (.str (mulS i n)) H) ta tb) σ H (mulS a n) := fun H1 e m Q q =>
  ha H1 e m _ fun v H2 e2 d => hb H2 (e.trans e2) (m.ex e2) _ fun u H3 e3 d' => ⟨a, n, d.str, d'.int, h1, h2, h3, q _ H3 (e2.trans e3) (Dt.ofStr _)⟩
theorem hv_max2 {i j : Int} (ha : Hv K M ta σ H i) (hb : Hv K M tb σ H j) : Hv K M (tCB (fun xs H Q => ∃ i j, xs = [.int i, .int j] ∧ Q (.int (if j > i then j else i)) H) (tCons ta (tCons tb tNil))) σ H (max i j) := fun H1 e m Q q =>
  ha H1 e m _ fun v H2 e2 d => hb H2 (e.trans e2) (m.ex e2) _ fun u H3 e3 d' => ⟨i, j, by rw [d.int, d'.int], q _ H3 (e2.trans e3) (by
    rw [show (if j > i then j else i) = max i j by split <;> omega]; exact Dt.ofInt _)⟩
theorem hv_min2 {i j : Int} (ha : Hv K M ta σ H i) (hb : Hv K M tb σ H j) : Hv K M (tCB (fun xs H Q => ∃ i j, xs = [.int i, .int j] ∧ Q (.int (if j < i then j else i)) H) (tCons ta (tCons tb tNil))) σ H (min i j) := fun H1 e m Q q =>
  ha H1 e m _ fun v H2 e2 d => hb H2 (e.trans e2) (m.ex e2) _ fun u H3 e3 d' => ⟨i, j, by rw [d.int, d'.int], q _ H3 (e2.trans e3) (by
    rw [show (if j < i then j else i) = min i j by split <;> omega]; exact Dt.ofInt _)⟩
end
section
variable {K : PySem.W.Frag} {Mc M : List Addr} {He H H1 H2 : Hp} {is js : Ims} {ms : Mus} {σ : L2.St} {te ta tb tl : TE} {tt : TT} {g : TG} {tlo thi : TO}
variable {α β γ : Type} [DecidableEq α] [Dx α] [DecidableEq β] [Dx β] [DecidableEq γ] [Dx γ]
variable {D : Ends} {tz tu tw : TS}
theorem hv_chain {r r' : R2} {a b : Bool} {x : α} (h1 : ∀ H1, Ex H H1 → MOk M H1 → ∀ Q : V → V → Hp → Prop, (∀ y k H2, Ex H1 H2 → k = .bl a → Q y k H2) → ta σ H1 fun x H2 => tb σ H2 fun y H3 => r x y H3 fun z H4 => Q y z H4) : True := True.intro
/-- i < j < k and the like -/
theorem hv_chainI {g1 g2 : Int → Int → Bool} {i j k : Int} (ha : Hv K M ta σ H i) (hb : Hv K M tb σ H j) (hc : Hv K M te σ H k) :
    Hv K M (tChain (rI0 fun i j => .bl (g1 i j)) (rI0 fun i j => .bl (g2 i j)) ta tb te) σ H (g1 i j && g2 j k) := fun H1 e m Q q =>
  ha H1 e m _ fun v H2 e2 d => hb H2 (e.trans e2) (m.ex e2) _ fun u H3 e3 d' => ⟨i, j, d.int, d'.int, g1 i j, rfl, by
    cases hg : g1 i j with
    | false =>
      rw [if_neg Bool.false_ne_true]
      exact q _ H3 (e2.trans e3) (by rw [hg]; exact Dt.ofBool _)
    | true =>
      rw [if_pos rfl]
      refine hc H3 ((e.trans e2).trans e3) ((m.ex e2).ex e3) _ fun z H4 e4 d'' => ⟨j, k, d'.int, d''.int, q _ H4 ((e2.trans e3).trans e4) ?_⟩
      show Dt K _ (V.bl (g2 j k)) _
      rw [hg]
      exact Dt.ofBool _⟩
/-! ### new lists -/
/-- a new list, told apart from all else -/
def HF (K : PySem.W.Frag) (M : List Addr) (te : TE) (σ : L2.St) (H : Hp) (xs : List α) : Prop :=
  ∀ H1, Ex H H1 → MOk M H1 → ∀ Q : VK, (∀ p vs H3, H1 p = none → Ex H1 H3 → H3 p = some (.lst vs) → Dts K (msk (p :: M) H3) vs xs → Q (.ref p) H3) → te σ H1 Q
theorem hv_hf {xs : List α} (h : HF K M te σ H xs) : Hv K M te σ H xs := fun H1 e m Q q =>
  h H1 e m Q fun p vs H3 n e3 h3 d => q _ H3 e3 (Dt.ofList (SqL.of (by rw [msk_out (m.nin n)]; exact h3)) (d.mono (msk_sub fun a ha => List.mem_cons_of_mem _ ha)))
theorem Sg.newF (s : Sg K Mc He H is ms) {p : Addr} {vs : List V} {xs : List α} (n : H p = none) (e : Ex H H1) (h : H1 p = some (.lst vs)) (d : Dts K (msk (p :: (muA ms ++ Mc)) H1) vs xs) : Sg K Mc He H1 is ((p, .lst (xs.map Dx.toX)) :: ms) := by
  have np : p ∉ muA ms := fun z => s.mok p (List.mem_append_left _ z) n
  have sub : Ex (msk (muA ms ++ Mc) H) (msk (p :: (muA ms ++ Mc)) H1) := fun a o q => by
    by_cases z : a ∈ muA ms ++ Mc
    · rw [msk_in z] at q; cases q
    · rw [msk_out z] at q
      have na : a ≠ p := ne_of_none q n
      rw [msk_out (by simp only [List.mem_cons, not_or]; exact ⟨na, z⟩)]
      exact e a o q
  refine ⟨fun a o q => ?_, s.okc, List.nodup_cons.mpr ⟨np, s.nd⟩, s.im.mono sub, ⟨⟨.lst vs, h, vs, rfl, d⟩, ?_⟩⟩
  · have q' := s.ext a o q
    by_cases z : a ∈ muA ms
    · rw [msk_in z] at q'; cases q'
    · rw [msk_out z] at q'
      have na : a ≠ p := ne_of_none q' n
      show msk (p :: muA ms) H1 a = some o
      rw [msk_out (by simp only [List.mem_cons, not_or]; exact ⟨na, z⟩)]
      exact e a o q'
  · exact s.mu.mono sub e
theorem hf_lst {tr : TA} {xs : List α} (h : HAs K M tr σ H xs) (hl : xs.length ≤ 100000) : HF K M (tLst tr) σ H xs := fun H1 e m Q q =>
  h H1 e m _ fun vs H2 e2 d => ⟨sz_of (by rw [d.len]; exact hl), fun p hp => by
    have e3 : Ex H2 (upd H2 p (.lst vs)) := Ex.new hp
    exact q p vs _ (fresh_back e2 hp) (e2.trans e3) upd_same (d.mono (msk_new hp))⟩
theorem hf_rep {tr : TA} {xs : List α} {n : Int} (h : HAs K M tr σ H xs) (hb : Hv K M tb σ H n) (hl : xs.length ≤ 1000) (h0 : 0 ≤ n) (hn : xs.length * n.toNat ≤ 100000) (hn2 : n ≤ 100000) : HF K M (tOp rRep (tLst tr) tb) σ H (List.replicate n.toNat xs).flatten := fun H1 e m Q q =>
  h H1 e m _ fun vs H2 e2 d => ⟨sz_of (by rw [d.len]; omega), fun p hp => by
    have e3 : Ex H2 (upd H2 p (.lst vs)) := Ex.new hp
    refine hb _ ((e.trans e2).trans e3) ((m.ex e2).ex e3) _ fun u H4 e4 d' => ⟨p, n, vs, rfl, d'.int, e4 p _ upd_same, by omega, by omega, sz_of (by rw [d.len]; exact hn), fun l hl2 => ?_⟩
    have e5 : Ex H4 (upd H4 l (.lst (List.replicate n.toNat vs).flatten)) := Ex.new hl2
    refine q l _ _ (fresh_back ((e2.trans e3).trans e4) hl2) (((e2.trans e3).trans e4).trans e5) upd_same ?_
    have d2 : Dts K (msk M H2) vs xs := d
    have d3 : Dts K (msk (l :: M) (upd H4 l (.lst (List.replicate n.toNat vs).flatten))) vs xs := (d2.mono (msk_ex (e3.trans e4))).mono (msk_new hl2)
    have rep : ∀ k : Nat, Dts K (msk (l :: M) (upd H4 l (.lst (List.replicate n.toNat vs).flatten))) (List.replicate k vs).flatten (List.replicate k xs).flatten := fun k => by
      induction k with
      | zero => exact Dts.nil
      | succ k ih =>
        rw [List.replicate_succ, List.replicate_succ, List.flatten_cons, List.flatten_cons]
        exact d3.app ih
    exact rep _⟩
theorem hf_listOf {xs : List α} (h : HS K M te σ H xs) : HF K M (tCB (fun xs H Q => ∃ p ys, xs = [.ref p] ∧ (SqL K H p ys ∨ SqT K H p ys) ∧ ∀ l, H l = none → Q (.ref l) (upd H l (.lst ys))) (tCons te tNil)) σ H xs := fun H1 e m Q q =>
  h H1 e m _ fun a vs H2 e2 s d => ⟨a, vs, rfl, Or.inl s, fun p hp => by
    have e3 : Ex H2 (upd H2 p (.lst vs)) := Ex.new hp
    exact q p vs _ (fresh_back e2 hp) (e2.trans e3) upd_same (d.mono (msk_new hp))⟩
/-- x = a new list that is to be changed -/
theorem z_freshG {i : Nat} {x : List α} (s : Sg K Mc He H is ms) (h : HF K (muA ms ++ Mc) te σ H x) (k : ∀ y, y = x → ∀ p H1, Sg K Mc He H1 is ((p, .lst (y.map Dx.toX)) :: ms) → tz D (σ.set i (some (.ref p))) H1) : tSeq (tAsg te (gName i)) tz D σ H :=
  h H (Ex.refl H) s.mok _ fun p vs H3 n e3 h3 d => k x rfl p H3 (s.newF n e3 h3 d)
theorem dpa_set {H : Hp} : ∀ {vs : List V} {ds : List Xd} {j : Nat} {v : V} {d : Xd}, XpAll K H vs ds → Xp K H v d → XpAll K H (vs.set j v) (ds.set j d)
  | _, _, j, _, _, .nil, _ => .nil
  | _, _, 0, _, _, .cons a b, h => .cons h b
  | _, _, j + 1, _, _, .cons a b, h => .cons a (dpa_set b h)
/-- xs[i] = e -/
theorem z_setG {kk : Nat} {l : Addr} {xs : List α} {x : α} {i : Int} (s : Sg K Mc He H is ms) (e : ms[kk]? = some (l, .lst (xs.map Dx.toX))) (h : Hv K (muA ms ++ Mc) te σ H x) (ho : Ev ta σ H (.ref l)) (hi : Hv K (muA ms ++ Mc) tb σ H i) (h0 : 0 ≤ i) (h1 : i < (xs.length : Int))
    (k : ∀ y, y = xs.set i.toNat x → ∀ H1, Sg K Mc He H1 is (ms.set kk (l, .lst (y.map Dx.toX))) → tz D σ H1) : tSeq (tAsg te (gSub ta tb rSetL)) tz D σ H :=
  h H (Ex.refl H) s.mok _ fun v H2 e2 d => ho H2 e2 _ fun H3 e3 => hi H3 (e2.trans e3) (s.mok.ex (e2.trans e3)) _ fun u H4 e4 d' => by
    have s4 := ((s.ex e2).ex e3).ex e4
    obtain ⟨vs, h3, h4⟩ := s4.lst e
    have hn : i.toNat < vs.length := by rw [h4.len]; omega
    refine ⟨l, vs, i, i.toNat, rfl, d'.int, h3, ?_, k _ rfl _ (s4.set e ⟨_, rfl, ?_⟩)⟩
    · have := ixN_nat hn
      rwa [Int.toNat_of_nonneg h0] at this
    · rw [List.map_set]
      exact dpa_set h4 (dp_mono (msk_ex (e3.trans e4)) d)
/-- xs[-1] = e -/
theorem z_setLastG {kk : Nat} {l : Addr} {xs : List α} {x : α} (s : Sg K Mc He H is ms) (e : ms[kk]? = some (l, .lst (xs.map Dx.toX))) (h : Hv K (muA ms ++ Mc) te σ H x) (ho : Ev ta σ H (.ref l)) (h1 : 0 < xs.length)
    (k : ∀ y, y = xs.set (xs.length - 1) x → ∀ H1, Sg K Mc He H1 is (ms.set kk (l, .lst (y.map Dx.toX))) → tz D σ H1) : tSeq (tAsg te (gSub ta (tUn (rU fun i => .int (-i)) (tC (.int 1))) rSetL)) tz D σ H :=
  h H (Ex.refl H) s.mok _ fun v H2 e2 d => ho H2 e2 _ fun H3 e3 => ⟨1, rfl, by
    have s4 := (s.ex e2).ex e3
    obtain ⟨vs, h3, h4⟩ := s4.lst e
    have hn : vs.length = xs.length := h4.len
    refine ⟨l, vs, -1, xs.length - 1, rfl, rfl, h3, ?_, k _ rfl _ (s4.set e ⟨_, rfl, ?_⟩)⟩
    · unfold ixN
      rw [if_neg (by decide), if_pos (by omega)]
      show some _ = some _
      congr 1
      omega
    · rw [List.map_set]
      exact dpa_set h4 (dp_mono (msk_ex e3) d)⟩
/-- xs.extend(a new list) -/
theorem zq_extG {kk : Nat} {l : Addr} {xs ys : List α} (s : Sg K Mc He H is ms) (e : ms[kk]? = some (l, .lst (xs.map Dx.toX))) (hi : Ev ta σ H (.ref l)) (h : HF K (muA ms ++ Mc) te σ H ys) (hz : xs.length + ys.length ≤ 100000)
    (k : ∀ y, y = xs ++ ys → ∀ H1, Sg K Mc He H1 is (ms.set kk (l, .lst (y.map Dx.toX))) → tz D σ H1) : tSeq (tDrop (tBM K "list" rExtend ta (tCons te tNil))) tz D σ H := hi H (Ex.refl H) _ fun H1 e1 => by
  obtain ⟨vs, h1, h2⟩ := (s.ex e1).lst e
  refine ⟨Or.inl ⟨rfl, vs, sq_of h1⟩, h H1 e1 (s.mok.ex e1) _ fun p ws H3 n e3 h3 d => ?_⟩
  obtain ⟨vs', h4, h5⟩ := ((s.ex e1).ex e3).lst e
  refine ⟨l, p, vs', ws, rfl, rfl, h4, h3, sz_of (by rw [h5.len, d.len]; exact hz), k _ rfl _ (((s.ex e1).ex e3).set e ⟨_, rfl, ?_⟩)⟩
  rw [List.map_append]
  exact dpa_app h5 (dpa_mono (msk_sub fun a ha => List.mem_cons_of_mem _ ha) d)
/-! ### a, b = e -/
theorem z_unp2 {i j : Nat} {p : α × β} (s : Sg K Mc He H is ms) (h : Hv K (muA ms ++ Mc) te σ H p) (k : ∀ x y, (x, y) = p → ∀ v u H1, Sg K Mc He H1 ((v, Dx.toX x) :: (u, Dx.toX y) :: is) ms → tz D ((σ.set i (some v)).set j (some u)) H1) :
    tSeq (tAsg te (gTup K 2 (gCons (gName i) (gCons (gName j) gNil)))) tz D σ H :=
  h H (Ex.refl H) s.mok _ fun v H1 e d => by
    obtain ⟨l, a, b, rfl, st, d1, d2⟩ := d.pair
    exact ⟨l, [a, b], rfl, ex_t msk_le st, rfl, a, [b], rfl, b, [], rfl, rfl, k p.1 p.2 rfl a b H1 (((s.ex e).put d2).put d1)⟩
/-! ### for over a text -/
def chars (s : Str) : List Str := s.cps.toList.map fun c => ⟨#[c]⟩
theorem chars_len (s : Str) : (chars s).length = s.length := by simp [chars, Str.length]
theorem zq_forS {a : Str} {j : Nat} (s : Sg K Mc He H is ms) (h : Hv K (muA ms ++ Mc) te σ H a) (Pv : Nat → L2.St → Hp → Prop) (h0 : ∀ H1, Sg K Mc He H1 is ms → Pv 0 σ H1)
    (hs : ∀ i x σ' H', (chars a)[i]? = some x → Pv i σ' H' → tu { D with nx := Pv (i + 1), ct := Pv (i + 1), bk := tz D } (σ'.set j (some (.str x))) H')
    (hd : ∀ σ' H', Pv (chars a).length σ' H' → tz D σ' H') : tSeq (tFor (iStr te) (gName j) tu) tz D σ H :=
  h H (Ex.refl H) s.mok _ fun v H1 e d => ⟨a, d.str, by
    have hsz : a.cps.size = (chars a).length := by rw [chars_len]; rfl
    refine for_it (D := { D with nx := tz D }) (walk_str (z := a)) Pv (h0 H1 (s.ex e)) (fun _ _ _ _ _ => True.intro) (fun i x σ' H' H'' hi p y => ?_) (fun σ' H' p => hd σ' H' (by rw [← hsz]; exact p))
    obtain ⟨rfl, c, hc, rfl⟩ := y
    refine hs i _ σ' _ ?_ p
    unfold chars
    rw [List.getElem?_map]
    have : a.cps.toList[i]? = some c := by rw [Array.getElem?_toList]; exact hc
    rw [this]
    rfl⟩
/-! ### while -/
def loopW {S : Type} (c : S → Bool) (f : S → S) : Nat → S → S
  | 0, s => s
  | n + 1, s => if c s = true then loopW c f n (f s) else s
/-- R tells what a state is, μ falls -/
theorem zq_while {S : Type} (c : S → Bool) (f : S → S) (μ : S → Nat) (N : Nat) (s0 : S) (R : S → L2.St → Hp → Prop) (hN : μ s0 < N) (h0 : R s0 σ H)
    (hs : ∀ x σ' H', R x σ' H' → ∃ M', MOk M' H' ∧ HT M' tt σ' H' (c x) ∧
      (c x = true → ∀ H2, Ex H' H2 → tu { D with nx := fun σ2 H3 => ∃ y, y = f x ∧ μ y < μ x ∧ R y σ2 H3, ct := fun σ2 H3 => ∃ y, y = f x ∧ μ y < μ x ∧ R y σ2 H3, bk := tz D } σ' H2))
    (hd : ∀ x σ' H' H2, R x σ' H' → c x = false → Ex H' H2 → loopW c f N s0 = x → tz D σ' H2) : tSeq (tWhile tt tu) tz D σ H := by
  refine ⟨fun m σ' H' => ∃ x, μ x < m ∧ loopW c f N s0 = loopW c f m x ∧ R x σ' H', ⟨N, s0, hN, rfl, h0⟩, ?_⟩
  rintro m σ' H' ⟨x, hm, he, hR⟩
  obtain ⟨M', mo, ht, ht1⟩ := hs x σ' H' hR
  refine ht H' (Ex.refl H') mo _ fun H2 e2 => ?_
  obtain ⟨n, rfl⟩ : ∃ n, m = n + 1 := ⟨m - 1, by omega⟩
  cases hc : c x with
  | true =>
    refine ⟨fun σ2 H3 => ∃ y, y = f x ∧ μ y < μ x ∧ R y σ2 H3, fun σ2 H3 ⟨y, hy, hl, hR2⟩ => ⟨n, Nat.lt_succ_self _, y, by omega, ?_, hR2⟩, ht1 hc H2 e2⟩
    rw [he, hy]
    show (if c x = true then loopW c f n (f x) else x) = _
    rw [if_pos hc]
  | false =>
    refine hd x σ' H' H2 hR hc e2 ?_
    rw [he]
    show (if c x = true then loopW c f n (f x) else x) = x
    rw [if_neg (by rw [hc]; exact Bool.false_ne_true)]
/-! ### new lists by comprehensions -/
theorem hf_lcL0 {vs : List Nat} (s : Sg K Mc He H is ms) {xs : List α} (ef : α → β) (h : Hv K (muA ms ++ Mc) tl σ H xs) (hz : xs.length ≤ 40000)
    (hb : ∀ D src x w (ys : List β) H1, Sg K Mc He H1 ((w, Dx.toX x) :: (src, Dx.toX xs) :: is) ((D, .lst (ys.map Dx.toX)) :: ms) → x ∈ xs →
      ∀ Q : L2.St → Hp → Prop, (∀ σ2, wipe σ2 vs = wipe σ vs → Hv K (muA ((D, Mv.lst (ys.map Dx.toX)) :: ms) ++ Mc) te σ2 H1 (ef x) → Q σ2 H1) → g w (wipe σ vs) H1 Q) :
    HF K (muA ms ++ Mc) (tLc (iList K tl) g tYes te vs) σ H (xs.map ef) := fun H1 e m Q q =>
  h H1 e m _ fun v H2 e2 d => by
    obtain ⟨a, us, rfl, s1, ds⟩ := d.list
    refine ⟨a, rfl, ⟨us, ex_l msk_le s1⟩, fun D hD => ?_⟩
    have sA : Sg K Mc He H2 ((.ref a, Dx.toX xs) :: is) ms := ((s.ex e).ex e2).put d
    have sB : Sg K Mc He (upd H2 D (.lst [])) ((.ref a, Dx.toX xs) :: is) ((D, .lst (([] : List β).map Dx.toX)) :: ms) := sA.new hD ⟨[], rfl, .nil⟩
    refine lc_listD (xs := xs) (M' := D :: (muA ms ++ Mc)) (fun i H' => Ex H2 H' ∧ Sg K Mc He H' ((.ref a, Dx.toX xs) :: is) ((D, .lst (((xs.take i).map ef).map Dx.toX)) :: ms)) ⟨Ex.new hD, sB⟩
      (fun i H' _ p => ?_) (fun i x w H' hx p dw => ?_) (fun H' p => ?_)
    · obtain ⟨a', us', e', s2, ds'⟩ := Dt.list (α := α) p.2.im.1
      cases e'
      exact ⟨us', ex_l msk_le s2, ds'⟩
    · have hi : i < xs.length := (List.getElem?_eq_some_iff.mp hx).1
      refine hb D (.ref a) x w _ H' (p.2.put dw) (List.mem_of_getElem? hx) _ fun σ2 hw he => ⟨hw, ?_⟩
      have hlen : ((xs.take i).map ef).length < 50000 := by
        rw [List.length_map, List.length_take]
        omega
      exact lc_turn (ms := ms) (tt := tYes) (b := true) (zs := (xs.take (i + 1)).map ef) p.2 hlen (fun H3 => Ex H2 H3 ∧ Sg K Mc He H3 ((.ref a, Dx.toX xs) :: is) ((D, .lst (((xs.take (i + 1)).map ef).map Dx.toX)) :: ms)) (fun H2 _ _ _ q => q H2 (Ex.refl H2)) (fun _ => he) (by rw [if_pos rfl, take_snoc hx, List.map_append]; rfl) (fun H3 h4 s3 => ⟨by
        obtain ⟨H4, e4, e5⟩ := h4
        rcases e5 with e5 | ⟨o, e5⟩
        · rw [e5]; exact p.1.trans e4
        · rw [e5]; exact Ex.mut (p.1.trans e4) hD, s3⟩)
    · have z := p.2
      rw [List.take_length] at z
      obtain ⟨us2, h3, h4⟩ := z.lst (k := 0) rfl
      exact q D us2 H' (fresh_back e2 hD) (e2.trans p.1) h3 h4
theorem hf_lcR0 {vs : List Nat} (s : Sg K Mc He H is ms) {n : Int} (ef : Int → β) (h : Hv K (muA ms ++ Mc) ta σ H n) (hz : -100000 ≤ n ∧ n ≤ 40000)
    (hb : ∀ D (x : Int) (ys : List β) H1, Sg K Mc He H1 is ((D, .lst (ys.map Dx.toX)) :: ms) → 0 ≤ x ∧ x < n →
      ∀ Q : L2.St → Hp → Prop, (∀ σ2, wipe σ2 vs = wipe σ vs → Hv K (muA ((D, Mv.lst (ys.map Dx.toX)) :: ms) ++ Mc) te σ2 H1 (ef x) → Q σ2 H1) → g (.int x) (wipe σ vs) H1 Q) :
    HF K (muA ms ++ Mc) (tLc (iRng1 (tCons ta tNil)) g tYes te vs) σ H ((irng 0 n.toNat).map ef) := fun H1 e m Q q =>
  h H1 e m _ fun v H2 e2 d => by
    refine ⟨n, by rw [d.int], by omega, by omega, fun D hD => ?_⟩
    have sA : Sg K Mc He H2 is ms := (s.ex e).ex e2
    have sB : Sg K Mc He (upd H2 D (.lst [])) is ((D, .lst (([] : List β).map Dx.toX)) :: ms) := sA.new hD ⟨[], rfl, .nil⟩
    refine lc_range (lo := 0) (n := n.toNat) (fun i H' => Ex H2 H' ∧ Sg K Mc He H' is ((D, .lst ((((irng 0 n.toNat).take i).map ef).map Dx.toX)) :: ms)) ⟨Ex.new hD, sB⟩
      (fun i H' hi p => ?_) (fun H' p => ?_)
    · have hx : (irng 0 n.toNat)[i]? = some ((0 : Int) + (i : Int)) := irng_get hi
      refine hb D ((0 : Int) + (i : Int)) _ H' p.2 ⟨by omega, by omega⟩ _ fun σ2 hw he => ⟨hw, ?_⟩
      have hlen : (((irng 0 n.toNat).take i).map ef).length < 50000 := by
        rw [List.length_map, List.length_take, irng_len]
        omega
      exact lc_turn (ms := ms) (tt := tYes) (b := true) (zs := ((irng 0 n.toNat).take (i + 1)).map ef) p.2 hlen (fun H3 => Ex H2 H3 ∧ Sg K Mc He H3 is ((D, .lst ((((irng 0 n.toNat).take (i + 1)).map ef).map Dx.toX)) :: ms)) (fun H2 _ _ _ q => q H2 (Ex.refl H2)) (fun _ => he) (by rw [if_pos rfl, take_snoc hx, List.map_append]; rfl) (fun H3 h4 s3 => ⟨by
        obtain ⟨H4, e4, e5⟩ := h4
        rcases e5 with e5 | ⟨o, e5⟩
        · rw [e5]; exact p.1.trans e4
        · rw [e5]; exact Ex.mut (p.1.trans e4) hD, s3⟩)
    · have z := p.2
      have et : (irng 0 n.toNat).take n.toNat = irng 0 n.toNat := List.take_of_length_le (by rw [irng_len]; exact Nat.le_refl _)
      rw [et] at z
      obtain ⟨us2, h3, h4⟩ := z.lst (k := 0) rfl
      exact q D us2 H' (fresh_back e2 hD) (e2.trans p.1) h3 h4
/-- the items with their places -/
def enumL (xs : List α) : List (Int × α) := List.zipWith (fun (i : Nat) (x : α) => ((i : Int), x)) (List.range xs.length) xs
theorem enumL_len (xs : List α) : (enumL xs).length = xs.length := by unfold enumL; rw [List.length_zipWith, List.length_range, Nat.min_self]
theorem enumL_get {xs : List α} {i : Nat} {x : α} (h : xs[i]? = some x) : (enumL xs)[i]? = some ((i : Int), x) := by
  have hi : i < xs.length := (List.getElem?_eq_some_iff.mp h).1
  unfold enumL
  rw [List.getElem?_zipWith, List.getElem?_range hi, h]
/-- [.. for i, x in enumerate(xs)] -/
theorem hf_lcE0 {vs : List Nat} (s : Sg K Mc He H is ms) {xs : List α} (ef : Int × α → β) (h : Hv K (muA ms ++ Mc) tl σ H xs) (hz : xs.length ≤ 40000)
    (hb : ∀ D src (x : Int × α) w (ys : List β) H1, Sg K Mc He H1 ((w, Dx.toX x) :: (src, Dx.toX xs) :: is) ((D, .lst (ys.map Dx.toX)) :: ms) → x ∈ enumL xs →
      ∀ Q : L2.St → Hp → Prop, (∀ σ2, wipe σ2 vs = wipe σ vs → Hv K (muA ((D, Mv.lst (ys.map Dx.toX)) :: ms) ++ Mc) te σ2 H1 (ef x) → Q σ2 H1) → g w (wipe σ vs) H1 Q) :
    HF K (muA ms ++ Mc) (tLc (iEnum K (tCons tl tNil)) g tYes te vs) σ H ((enumL xs).map ef) := fun H1 e m Q q =>
  h H1 e m _ fun v H2 e2 d => by
    obtain ⟨a, us, rfl, s1, ds⟩ := d.list
    have s1' : SqL K H2 a us := ex_l msk_le s1
    refine ⟨a, us, rfl, s1', fun D hD => ?_⟩
    have sA : Sg K Mc He H2 ((.ref a, Dx.toX xs) :: is) ms := ((s.ex e).ex e2).put d
    have sB : Sg K Mc He (upd H2 D (.lst [])) ((.ref a, Dx.toX xs) :: is) ((D, .lst (([] : List β).map Dx.toX)) :: ms) := sA.new hD ⟨[], rfl, .nil⟩
    have hlu : us.length = xs.length := ds.len
    refine lc_it (walk_enum (K := K) (a := a) (xs := us)) (fun i H' => Ex H2 H' ∧ Sg K Mc He H' ((.ref a, Dx.toX xs) :: is) ((D, .lst ((((enumL xs).take i).map ef).map Dx.toX)) :: ms)) ⟨Ex.new hD, sB⟩
      (fun i H' _ p => ex_l p.1 s1') (fun i x H' H'' hi p y => ?_) (fun H' p => ?_)
    · obtain ⟨T, x0, x1, rfl, nT, rfl, f1, f2⟩ := y
      have hix : i < xs.length := by rw [← hlu]; exact hi
      have gx : xs[i]? = some xs[i] := by simp [hix]
      have gE := enumL_get gx
      have e0 : x0 = .int (i : Int) := (Option.some.inj f1).symm
      subst e0
      have eT : Ex H' (upd H' T (.tup [.int (i : Int), x1])) := Ex.new nT
      have sT := p.2.ex eT
      have dm : Dt K (msk (D :: (muA ms ++ Mc)) (upd H' T (.tup [.int (i : Int), x1]))) x1 xs[i] := by
        have d2 : Dts K (msk (D :: (muA ms ++ Mc)) (upd H' T (.tup [.int (i : Int), x1]))) us xs := by
          have q1 : Dts K (msk (muA ms ++ Mc) H2) us xs := ds
          have q2 : Ex (msk (muA ms ++ Mc) H2) (msk (D :: (muA ms ++ Mc)) (upd H' T (.tup [.int (i : Int), x1]))) := fun b o hb' => by
            by_cases z : b ∈ muA ms ++ Mc
            · rw [msk_in z] at hb'; cases hb'
            · rw [msk_out z] at hb'
              have nb : b ≠ D := ne_of_none hb' hD
              rw [msk_out (by simp only [List.mem_cons, not_or]; exact ⟨nb, z⟩)]
              exact eT b o (p.1 b o hb')
          exact q1.mono q2
        obtain ⟨w, w1, w2⟩ := d2.at gx
        have : x1 = w := Option.some.inj (f2.symm.trans w1)
        subst this; exact w2
      have nTD : T ∉ D :: (muA ms ++ Mc) := fun z => (p.2.mok T z) nT
      have dw : Dt K (msk (D :: (muA ms ++ Mc)) (upd H' T (.tup [.int (i : Int), x1]))) (.ref T) ((i : Int), xs[i]) := Dt.ofPair (SqT.of (by rw [msk_out nTD]; exact upd_same)) (Dt.ofInt _) dm
      refine hb D (.ref a) ((i : Int), xs[i]) (.ref T) _ _ (sT.put dw) (List.mem_of_getElem? gE) _ fun σ2 hw he => ⟨hw, ?_⟩
      have hlen : (((enumL xs).take i).map ef).length < 50000 := by
        rw [List.length_map, List.length_take, enumL_len]
        omega
      exact lc_turn (ms := ms) (tt := tYes) (b := true) (zs := ((enumL xs).take (i + 1)).map ef) sT hlen (fun H3 => Ex H2 H3 ∧ Sg K Mc He H3 ((.ref a, Dx.toX xs) :: is) ((D, .lst ((((enumL xs).take (i + 1)).map ef).map Dx.toX)) :: ms)) (fun H2 _ _ _ q => q H2 (Ex.refl H2)) (fun _ => he) (by rw [if_pos rfl, take_snoc gE, List.map_append]; rfl) (fun H3 h4 s3 => ⟨by
        obtain ⟨H4, e4, e5⟩ := h4
        rcases e5 with e5 | ⟨o, e5⟩
        · rw [e5]; exact (p.1.trans eT).trans e4
        · rw [e5]; exact Ex.mut ((p.1.trans eT).trans e4) hD, s3⟩)
    · have z := p.2
      have et : (enumL xs).take us.length = enumL xs := List.take_of_length_le (by rw [enumL_len, hlu]; exact Nat.le_refl _)
      rw [et] at z
      obtain ⟨us2, h3, h4⟩ := z.lst (k := 0) rfl
      exact q D us2 H' (fresh_back e2 hD) (e2.trans p.1) h3 h4
theorem z_augSG {i : Nat} {a b : Str} (s : Sg K Mc He H is ms) (hx : σ[i]? = some (some (.str a))) (h : Hv K (muA ms ++ Mc) te σ H b) (hz : a.length + b.length ≤ 100000) (k : ∀ y, y = a ++ b → ∀ H1, Sg K Mc He H1 is ms → tz D (σ.set i (some (.str y))) H1) :
    tSeq (tAug i te (fun x y H Q => ∃ i j, x = .str i ∧ y = .str j ∧ i.length + j.length ≤ sizeLine ∧ Q (.str (i ++ j)) H)) tz D σ H :=
  ⟨.str a, hx, h H (Ex.refl H) s.mok _ fun v H1 e d => ⟨a, b, rfl, d.str, sz_of hz, k _ rfl H1 (s.ex e)⟩⟩
end
theorem str_len_app (a b : Str) : (a ++ b).length = a.length + b.length := by
  rw [TL.len_tl, TL.len_tl, TL.len_tl, TL.tl_append, List.length_append]
theorem chars_one {s x : Str} {i : Nat} (h : (chars s)[i]? = some x) : x.length = 1 := by
  unfold chars at h
  rw [List.getElem?_map] at h
  cases hc : s.cps.toList[i]? with
  | none => rw [hc] at h; cases h
  | some c =>
    rw [hc] at h
    cases h
    rfl
theorem strAt_len (s : Str) (i : Nat) : (strAt s i).length = 1 := rfl
end Ly

namespace Ly
open PySem PySem.Spec PyProof.Rows L2 Evl
open PySem.W (Datum DatumOrd Tup T3 T4 minOf)
section
variable {K : PySem.W.Frag} {Mc M : List Addr} {He H H1 H2 : Hp} {is js : Ims} {ms : Mus} {σ : L2.St} {te ta tb tl : TE} {tt : TT} {g : TG} {tlo thi : TO}
theorem inV_strs (a : Str) : ∀ xs : List Str, inV (.str a) (xs.map V.str) = decide (a ∈ xs)
  | [] => by simp [inV]
  | x :: xs => by
    have ih := inV_strs a xs
    unfold inV at ih ⊢
    rw [List.map_cons, List.any_cons, ih]
    show (x == a || _) = _
    by_cases h : x = a
    · subst h; simp
    · have h2 : ¬ a = x := fun z => h z.symm
      simp [h, h2]
theorem flat_strs : ∀ xs : List Str, (xs.map V.str).all flatV = true
  | [] => rfl
  | x :: xs => by rw [List.map_cons, List.all_cons, flat_strs xs]; rfl
theorem hv_memS {neg : Bool} {tr : TA} {a : Str} {xs : List Str} (ha : Hv K M ta σ H a) (hr : HAs K M tr σ H xs) (hl : xs.length ≤ 100000) : Hv K M (tOp (rIn K neg) ta (tTup tr)) σ H (if neg then !decide (a ∈ xs) else decide (a ∈ xs)) := fun H1 e m Q q =>
  ha H1 e m _ fun v H2 e2 d => hr H2 (e.trans e2) (m.ex e2) _ fun vs H3 e3 d' => ⟨sz_of (by rw [d'.len]; exact hl), fun p hp => by
    have e4 : Ex H3 (upd H3 p (.tup vs)) := Ex.new hp
    have hv := dts_strs d'
    refine ⟨p, vs, rfl, Or.inr (SqT.of upd_same), by rw [d.str]; rfl, by rw [hv]; exact flat_strs xs, ?_⟩
    have hb : inV v vs = decide (a ∈ xs) := by rw [d.str, hv]; exact inV_strs a xs
    rw [hb]
    exact q _ _ ((e2.trans e3).trans e4) (Dt.ofBool _)⟩
theorem hv_inTS {tr : TA} {a : Str} {xs : List Str} (ha : Hv K M ta σ H a) (hr : HAs K M tr σ H xs) (hl : xs.length ≤ 100000) : Hv K M (tOp (rIn K false) ta (tTup tr)) σ H (decide (a ∈ xs)) := hv_memS (neg := false) ha hr hl
theorem hv_niTS {tr : TA} {a : Str} {xs : List Str} (ha : Hv K M ta σ H a) (hr : HAs K M tr σ H xs) (hl : xs.length ≤ 100000) : Hv K M (tOp (rIn K true) ta (tTup tr)) σ H (!decide (a ∈ xs)) := hv_memS (neg := true) ha hr hl
end
/-! ### facts of texts -/
abbrev cps (s : Str) : List Nat := s.cps.toList
theorem len_cps (s : Str) : s.length = (cps s).length := by simp [Str.length, cps]
theorem cps_app (a b : Str) : cps (a ++ b) = cps a ++ cps b := by
  show (a ++ b).cps.toList = _
  rw [PySem.Str.cps_append, Array.toList_append]
theorem str_ext {a b : Str} (h : cps a = cps b) : a = b := by
  cases a; cases b
  congr 1
  exact Array.toList_inj.mp h
theorem cps_lower {s : Str} (h : ∀ c ∈ cps s, c < 128) : cps (Txt.lower s) = (cps s).map PyProof.Rows.lo1 := by
  rw [PyProof.Rows.lower_ascii h]
  show (Array.map _ _).toList = _
  rw [Array.toList_map]
theorem find3_cases (x y : Str) (i : Int) :
    (Txt.find3 x y i = -1 ∧ ∀ k, PySem.fromIndex x.length i ≤ k → ¬ StrLaws.At x y x.length k) ∨
    ∃ k : Nat, Txt.find3 x y i = (k : Int) ∧ PySem.fromIndex x.length i ≤ k ∧ StrLaws.At x y x.length k ∧ ∀ v, PySem.fromIndex x.length i ≤ v → v < k → ¬ StrLaws.At x y x.length v := by
  unfold Txt.find3
  rcases StrLaws.occ_head_from x y (PySem.fromIndex x.length i) 1 (Nat.le_refl 1) with ⟨h0, hn⟩ | ⟨k, r, h0, h1, h2, h3⟩
  · rw [h0]; exact .inl ⟨rfl, hn⟩
  · rw [h0]; exact .inr ⟨k, rfl, h1, h2, h3⟩
theorem from_nat (n : Nat) {i : Int} (h : 0 ≤ i) : PySem.fromIndex n i = i.toNat := by
  unfold PySem.fromIndex
  rw [if_neg (by omega)]
  omega
theorem inStr_one (c : Nat) (s : Str) : inStr ⟨#[c]⟩ s = decide (c ∈ cps s) := StrLaws.found_one s c
theorem chars_cps (s : Str) : chars s = (cps s).map fun c => ⟨#[c]⟩ := rfl
theorem mem_chars {s x : Str} {i : Nat} (h : (chars s)[i]? = some x) : ∃ c ∈ cps s, x = ⟨#[c]⟩ := by
  rw [chars_cps, List.getElem?_map] at h
  cases hc : (cps s)[i]? with
  | none => rw [hc] at h; cases h
  | some c =>
    rw [hc] at h
    exact ⟨c, List.mem_of_getElem? hc, (Option.some.inj h).symm⟩
abbrev DIG : Str := PySem.Str.ofString "0123456789"
theorem cps_dig : cps DIG = [48, 49, 50, 51, 52, 53, 54, 55, 56, 57] := by decide +kernel
theorem dig_iff (c : Nat) : inStr ⟨#[c]⟩ DIG = true ↔ 48 ≤ c ∧ c ≤ 57 := by
  rw [inStr_one, cps_dig, decide_eq_true_eq]
  simp only [List.mem_cons, List.not_mem_nil, or_false]
  omega
theorem int_dig {c : Nat} (h : 48 ≤ c ∧ c ≤ 57) : PySem.intText? ⟨#[c]⟩ = some ((c - 48 : Nat) : Int) := by
  obtain ⟨h1, h2⟩ := h
  have : c = 48 ∨ c = 49 ∨ c = 50 ∨ c = 51 ∨ c = 52 ∨ c = 53 ∨ c = 54 ∨ c = 55 ∨ c = 56 ∨ c = 57 := by omega
  rcases this with h | h | h | h | h | h | h | h | h | h <;> (subst h; decide +kernel)
theorem int_sign {s x : Str} {i : Nat} (h : (chars s)[i]? = some x) (hd : inStr x DIG = true) : PySem.intText? x = some ((PySem.intText? x).getD 0) := by
  obtain ⟨c, _, rfl⟩ := mem_chars h
  rw [int_dig ((dig_iff c).mp hd)]
  rfl
theorem sum_le {α : Type} (f : α → Str) (n : Nat) (h : ∀ x, (f x).length ≤ n) : ∀ xs : List α, ((xs.map f).map (·.length)).sum ≤ n * xs.length
  | [] => by simp
  | x :: xs => by
    have := sum_le f n h xs
    have := h x
    rw [List.map_cons, List.map_cons, List.sum_cons, List.length_cons, Nat.mul_add]
    omega
theorem getD_P {α : Type} {P : α → Prop} {xs : List α} {d : α} (h : ∀ x ∈ xs, P x) (hd : P d) (i : Nat) : P (xs.getD i d) := by
  rw [List.getD_eq_getElem?_getD]
  cases hx : xs[i]? with
  | none => exact hd
  | some x => exact h x (List.mem_of_getElem? hx)
theorem next_find (d c : Str) {s : Int} (h0 : 0 ≤ s) : Txt.find3 d c (s + 1) < 0 ∨ (s < Txt.find3 d c (s + 1) ∧ Txt.find3 d c (s + 1) ≤ (d.length : Int)) := by
  rcases find3_cases d c (s + 1) with ⟨h, _⟩ | ⟨k, h, h1, h2, _⟩
  · left; omega
  · right
    rw [from_nat _ (by omega)] at h1
    have := h2.1
    omega
theorem loopW_inv {S : Type} {c : S → Bool} {f : S → S} (I : S → Prop) (hs : ∀ s, I s → c s = true → I (f s)) : ∀ (n : Nat) (s : S), I s → I (loopW c f n s)
  | 0, s, h => h
  | n + 1, s, h => by
    rw [loopW]
    split
    · rename_i hc
      exact loopW_inv I hs n _ (hs s h hc)
    · exact h
theorem foldl_inv {S α : Type} {f : S → α → S} (I : S → Prop) : ∀ (l : List α) (s : S), (∀ s x, x ∈ l → I s → I (f s x)) → I s → I (l.foldl f s)
  | [], s, _, h => h
  | x :: l, s, hs, h => by
    rw [List.foldl_cons]
    exact foldl_inv I l _ (fun s y hy => hs s y (List.mem_cons_of_mem _ hy)) (hs s x List.mem_cons_self h)
end Ly

namespace Ly
open PySem PySem.Spec PyProof.Rows L2 Evl
/-! ### facts of loops and of places in texts -/
/-- what lies from lo on, n places long -/
def gl {β : Type} (occ : Nat → Bool) (blk : Nat → List β) : Nat → Nat → List β
  | _, 0 => []
  | lo, n + 1 => (if occ lo = true then blk lo else []) ++ gl occ blk (lo + 1) n
theorem gl_skip {β : Type} {occ : Nat → Bool} {blk : Nat → List β} : ∀ (j lo r : Nat), (∀ v, lo ≤ v → v < lo + j → occ v = false) → gl occ blk lo (j + r) = gl occ blk (lo + j) r
  | 0, lo, r, _ => by rw [Nat.zero_add, Nat.add_zero]
  | j + 1, lo, r, h => by
    rw [show j + 1 + r = (j + r) + 1 by omega, gl, h lo (by omega) (by omega), if_neg Bool.false_ne_true, List.nil_append, gl_skip j (lo + 1) r fun v h1 h2 => h v (by omega) (by omega)]
    rw [show lo + 1 + j = lo + (j + 1) by omega]
theorem gl_none {β : Type} {occ : Nat → Bool} {blk : Nat → List β} : ∀ (j lo : Nat), (∀ v, lo ≤ v → v < lo + j → occ v = false) → gl occ blk lo j = []
  | 0, lo, _ => rfl
  | j + 1, lo, h => by
    rw [gl, h lo (by omega) (by omega), if_neg Bool.false_ne_true, List.nil_append]
    exact gl_none j (lo + 1) fun v h1 h2 => h v (by omega) (by omega)
theorem gl_mem {β : Type} {occ : Nat → Bool} {blk : Nat → List β} {x : β} : ∀ (n lo : Nat), x ∈ gl occ blk lo n → ∃ k, lo ≤ k ∧ k < lo + n ∧ occ k = true ∧ x ∈ blk k
  | 0, lo, h => by cases h
  | n + 1, lo, h => by
    rw [gl, List.mem_append] at h
    rcases h with h | h
    · cases ho : occ lo with
      | true => rw [ho, if_pos rfl] at h; exact ⟨lo, by omega, by omega, ho, h⟩
      | false => rw [ho, if_neg Bool.false_ne_true] at h; cases h
    · obtain ⟨k, h1, h2, h3⟩ := gl_mem n (lo + 1) h
      exact ⟨k, by omega, by omega, h3⟩
theorem gl_split {β : Type} {occ : Nat → Bool} {blk : Nat → List β} : ∀ (a b lo : Nat), gl occ blk lo (a + b) = gl occ blk lo a ++ gl occ blk (lo + a) b
  | 0, b, lo => by rw [Nat.zero_add]; rfl
  | a + 1, b, lo => by
    rw [show a + 1 + b = (a + b) + 1 by omega, gl, gl, gl_split a b (lo + 1), List.append_assoc, show lo + 1 + a = lo + (a + 1) by omega]
/-- turns over the places, and turns over what lies there -/
theorem foldl_gl {S β : Type} {occ : Nat → Bool} {blk : Nat → List β} {f : S → β → S} {g : S → Int → S} : ∀ (n lo : Nat) (s : S), (∀ v s, lo ≤ v → v < lo + n → g s (v : Int) = if occ v = true then (blk v).foldl f s else s) → (gl occ blk lo n).foldl f s = loopN g n (lo : Int) s
  | 0, lo, s, _ => rfl
  | n + 1, lo, s, h => by
    rw [gl, List.foldl_append, loopN, h lo s (by omega) (by omega)]
    have ih := fun s' => foldl_gl (occ := occ) (blk := blk) (f := f) (g := g) n (lo + 1) s' fun v s h1 h2 => h v s (by omega) (by omega)
    have e : ((lo : Int) + 1) = ((lo + 1 : Nat) : Int) := by omega
    rw [e]
    cases ho : occ lo with
    | true => rw [if_pos rfl, if_pos rfl]; exact ih _
    | false => rw [if_neg Bool.false_ne_true, if_neg Bool.false_ne_true]; exact ih _
/-- turns over places with the item there, and turns over the list told with its places -/
theorem loopN_enum {S α : Type} [DecidableEq α] [Dx α] {g : S → Int → α → S} {d : α} {xs : List α} : ∀ (k i : Nat) (s : S), i + k = xs.length → loopN (fun s x => g s x (xs.getD (Int.toNat x) d)) k (i : Int) s = ((enumL xs).drop i).foldl (fun s p => g s p.1 p.2) s
  | 0, i, s, h => by
    rw [List.drop_eq_nil_of_le (by rw [enumL_len]; omega)]
    rfl
  | k + 1, i, s, h => by
    have hi : i < xs.length := by omega
    have gx : xs[i]? = some xs[i] := by simp [hi]
    have gE := enumL_get gx
    obtain ⟨hi2, ge⟩ := List.getElem?_eq_some_iff.mp gE
    rw [List.drop_eq_getElem_cons hi2, ge, List.foldl_cons, loopN]
    have e : ((i : Int) + 1) = ((i + 1 : Nat) : Int) := by omega
    rw [e, loopN_enum k (i + 1) _ (by omega)]
    have e2 : xs.getD (Int.toNat (i : Int)) d = xs[i] := by
      rw [Int.toNat_natCast, List.getD_eq_getElem?_getD, gx]
      rfl
    rw [e2]
theorem enumL_mem {α : Type} [DecidableEq α] [Dx α] {xs : List α} {p : Int × α} (h : p ∈ enumL xs) : 0 ≤ p.1 ∧ p.1 < (xs.length : Int) ∧ p.2 ∈ xs := by
  obtain ⟨i, hi, rfl⟩ := List.getElem_of_mem h
  have hx : i < xs.length := by rw [enumL_len] at hi; exact hi
  have gx : xs[i]? = some xs[i] := by simp [hx]
  have gE := enumL_get gx
  obtain ⟨_, ge⟩ := List.getElem?_eq_some_iff.mp gE
  rw [ge]
  exact ⟨by show (0 : Int) ≤ (i : Int); omega, by show (i : Int) < _; omega, List.getElem_mem hx⟩
/-- c lies in d at k -/
def occ (d c : Str) (k : Nat) : Bool := decide (k + c.length ≤ d.length) && Builtin.Str.subAt d c k
theorem occ_iff (d c : Str) (k : Nat) : occ d c k = true ↔ StrLaws.At d c d.length k := by
  unfold occ StrLaws.At
  rw [Bool.and_eq_true, decide_eq_true_eq]
theorem occ_no {d c : Str} {k : Nat} (h : ¬ StrLaws.At d c d.length k) : occ d c k = false := by
  cases e : occ d c k with
  | false => rfl
  | true => exact absurd ((occ_iff d c k).mp e) h
theorem find_zero (d c : Str) : Txt.find d c = Txt.find3 d c ((0 : Nat) : Int) := by
  unfold Txt.find Txt.find3
  rw [from_nat _ (by omega)]
  rfl
/-- the places, found one after another -/
theorem loopW_occ {β : Type} {d c : Str} {blk : Nat → List β} {f : List β × Int → List β × Int} (hf : ∀ l (k : Nat), f (l, (k : Int)) = (l ++ blk k, Txt.find3 d c ((k : Int) + 1))) :
    ∀ (fuel lo : Nat) (l : List β), lo ≤ d.length + 1 → d.length + 1 - lo < fuel →
      (loopW (fun (s_ : List β × Int) => decide ((0 : Int) ≤ s_.2)) f fuel (l, Txt.find3 d c (lo : Int))).1 = l ++ gl (occ d c) blk lo (d.length + 1 - lo)
  | 0, lo, l, _, h => by omega
  | fuel + 1, lo, l, h1, h2 => by
    rw [loopW]
    rcases find3_cases d c (lo : Int) with ⟨h, hn⟩ | ⟨k, h, hk, hat, hn⟩
    · rw [from_nat _ (by omega), Int.toNat_natCast] at hn
      rw [h, if_neg (show ¬ decide ((0 : Int) ≤ -1) = true by decide)]
      rw [gl_none _ _ fun v h1 h2 => occ_no (hn v h1), List.append_nil]
    · rw [from_nat _ (by omega), Int.toNat_natCast] at hk hn
      have hle := hat.1
      rw [h, if_pos (by show decide ((0 : Int) ≤ (k : Int)) = true; rw [decide_eq_true_eq]; omega), hf, show ((k : Int) + 1) = ((k + 1 : Nat) : Int) by omega, loopW_occ hf fuel (k + 1) _ (by omega) (by omega), List.append_assoc]
      congr 1
      rw [show d.length + 1 - lo = (k - lo) + (d.length + 1 - k) by omega, gl_skip (k - lo) lo _ fun v h1 h2 => occ_no (hn v h1 (by omega))]
      rw [show lo + (k - lo) = k by omega, show d.length + 1 - k = (d.length + 1 - (k + 1)) + 1 by omega, gl, if_pos ((occ_iff d c k).mpr hat)]
theorem cut_occ {d c : Str} {k : Nat} (h : k + c.length ≤ d.length) : decide (cutS d (some (k : Int)) (some ((k : Int) + ((c.length : Nat) : Int))) = c) = occ d c k := by
  have e1 : HT.sIx d.length 0 (some (k : Int)) = k := by rw [HT.sIx_nat]; omega
  have e2 : HT.sIx d.length d.length (some ((k : Int) + ((c.length : Nat) : Int))) = k + c.length := by
    rw [show ((k : Int) + ((c.length : Nat) : Int)) = ((k + c.length : Nat) : Int) by omega, HT.sIx_nat]; omega
  unfold occ
  rw [decide_eq_true h, Bool.true_and, StrLaws.subAt_eq]
  unfold cutS
  rw [e1, e2, show k + c.length - k = c.length by omega]
  by_cases q : (d.cps.toList.drop k).take c.length = c.cps.toList
  · rw [q, beq_self_eq_true, decide_eq_true_eq]
  · have q2 : ((d.cps.toList.drop k).take c.length == c.cps.toList) = false := beq_eq_false_iff_ne.mpr q
    rw [q2, decide_eq_false]
    intro z
    apply q
    have := congrArg (fun (s : Str) => s.cps.toList) z
    simpa using this
theorem loopNR_all {ρ S : Type} {f : S → Int → Lp ρ S} (h : ∀ s k, f s k = .nxt s) : ∀ (n : Nat) (k : Int) (s : S), loopNR f n k s = .inr s
  | 0, _, _ => rfl
  | n + 1, k, s => by rw [loopNR, h]; exact loopNR_all h n (k + 1) s
theorem set_same {xs : List Int} {i : Nat} {v : Int} (h : xs.getD i 0 = v) : xs.set i v = xs := by
  rw [List.getD_eq_getElem?_getD] at h
  cases hx : xs[i]? with
  | none => exact List.set_eq_of_length_le (List.getElem?_eq_none_iff.mp hx)
  | some x =>
    rw [hx] at h
    obtain ⟨hi, hg⟩ := List.getElem?_eq_some_iff.mp hx
    subst h
    rw [← hg]
    exact List.set_getElem_self hi
theorem getD_nonneg {xs : List Int} (h : ∀ x ∈ xs, (0 : Int) ≤ x) (i : Nat) : 0 ≤ xs.getD i 0 := getD_P (P := fun x => (0 : Int) ≤ x) h (Int.le_refl 0) i
theorem cutL_in {α : Type} {xs : List α} {a b : Nat} : cutL xs (some (a : Int)) (some (b : Int)) = (xs.drop (min a xs.length)).take (min b xs.length - min a xs.length) := by
  unfold cutL
  rw [HT.sIx_nat, HT.sIx_nat]
theorem zeros_eq (n : Nat) : (List.replicate n [(0 : Int)]).flatten = (irng 0 n).map (fun _ => (0 : Int)) := by
  have h1 : ∀ k : Nat, (List.replicate k [(0 : Int)]).flatten = List.replicate k 0 := fun k => by
    induction k with
    | zero => rfl
    | succ k ih => rw [List.replicate_succ, List.flatten_cons, ih]; rfl
  rw [h1]
  symm
  rw [List.eq_replicate_iff]
  exact ⟨by rw [List.length_map, irng_len], fun b hb => by obtain ⟨_, _, rfl⟩ := List.mem_map.mp hb; rfl⟩
end Ly

namespace Ly
open PySem PySem.Spec PyProof.Rows L2 Evl CwR
open PySem.W (Datum DatumOrd Tup T3 T4 minOf)
/-! ### where a token is out: tests, a turn's body, the loop -/
def PTT (X : Cx) (c : Expr) (t : TT) : Prop :=
  ∀ (pins : List (Addr × Obj)) (s : Shared) (σ : L2.St) (H : Hp) (Q : Bool → Hp → Prop), 1 ≤ s.toks → Inv X pins σ H s → t σ H Q → wpAny (model X.prog X.w) X.A (isTrue c X.env (eval c X.env)) (TP X pins σ Q) X.xe s
def PWT (X : Cx) (c : Expr) (t : TT) : Prop :=
  ∀ (wh : Sem Value) (pins : List (Addr × Obj)) (s : Shared) (σ : L2.St) (H : Hp) (Q : Bool → Hp → Prop), 1 ≤ s.toks → Inv X pins σ H s → t σ H Q → wpAny (model X.prog X.w) X.A (isTrue c X.env wh) (TP X pins σ Q) X.xe s
section
variable {X : Cx} {a b c o : Expr} {rest : List Expr} {pos apos : Pos} {ta tb to : TE} {tA tB : TT}
theorem PTT.of (h : PT X c tA) : PTT X c tA := fun pins s σ H Q _ I q => h.run pins s σ H Q I q
theorem PWT.ptt (h : PWT X c tA) : PTT X c tA := fun pins s σ H Q h0 I q => h _ pins s σ H Q h0 I q
theorem ptt_cmp {op : CmpOp} {r : R2} (ho : OpR X (compareOp op) r) (ha : PET X a ta) (hb : PE X b tb) (hm : behindInMarks op b = false) : PTT X (.Compare a [op] [b] pos) (tTest (tOp r ta tb)) := fun pins s σ H Q h0 I h =>
  wpAny_isTrue_Compare1 (thn (ha pins s σ H _ h0 I h) fun v s1 ⟨x, H1, I1, r1, q1⟩ => thn (hb.run pins s1 σ H1 _ I1 q1) fun u s2 ⟨y, H2, I2, r2, q2⟩ =>
    thn (ho pins s2 σ H2 x y v u _ I2 r1 r2 q2) fun d s3 ⟨z, H3, I3, r3, k, e, q3⟩ => by
      subst e
      cases r3
      exact wpAny_truthy_bool ⟨H3, I3, q3⟩) hm
theorem pwt_and1 (ha : PTT X a tA) : PWT X (.BoolOp .And [a] pos) tA := fun wh pins s σ H Q h0 I h =>
  isTrue_and (thn (ha pins s σ H Q h0 I h) fun d s1 e => by
    cases d with
    | true => exact isTrue_and_nil e
    | false => exact e)
theorem pwt_and (ha : PTT X a tA) (hb : PWT X (.BoolOp .And (b :: rest) pos) tB) : PWT X (.BoolOp .And (a :: b :: rest) pos) (tAnd tA tB) := fun wh pins s σ H Q h0 I h =>
  isTrue_and (wpAny_mono (PySem.wpAny_toks (ha pins s σ H _ h0 I h)) (fun d s1 q => by
    obtain ⟨hk, H1, I1, q1⟩ := q
    cases d with
    | true => exact hb wh pins s1 σ H1 Q (Nat.le_trans h0 hk) I1 q1
    | false => exact ⟨H1, I1, q1⟩) fun _ _ z => z.2)
theorem pet_m0 {id : String} {name : Str} {r : V → List V → Hp → VK → Prop} (slot : Slot "str" name id) (ty : typeOf (.builtin id) = pure (.type "method_descriptor")) (rule : MtR X id r) (ho : PET X o to)
    (hbase : attributeBase o name X.env (eval o X.env) = eval o X.env := by rfl) (hline : (apos.endLine == pos.line) = true := by rfl) : PET X (.Call (.Attribute o name apos) [] [] pos) (tM0 r to) := fun pins s σ H Q h0 I h =>
  PySem.Call_method0 hbase hline (thn (ho pins s σ H _ h0 I h) fun v s1 ⟨x, H1, I1, r1, q⟩ => by
    obtain ⟨⟨z, rfl⟩, q1⟩ := q
    obtain ⟨t, rfl⟩ := _root_.id r1
    exact ⟨"str", _, PySem.F.plainAttrs_str, slot, ty, typeIs_str _ _ _, (fun _ e => nomatch e), Calls.callWith_builtin rfl (PySem.evalArgs_none (rule pins s1 σ H1 _ [] _ [] Q I1 r1 .nil q1))⟩)
theorem pet_lower (ho : PET X o to) (hbase : attributeBase o "lower" X.env (eval o X.env) = eval o X.env := by rfl) (hline : (apos.endLine == pos.line) = true := by rfl) :
    PET X (.Call (.Attribute o "lower" apos) [] [] pos) (tM0 (fun x xs H Q => ∃ a, x = .str a ∧ xs = [] ∧ a.length ≤ 5592405 ∧ Q (.str (Txt.lower a)) H) to) :=
  pet_m0 PySem.F.slot_str_lower PySem.F.type_str_lower mt_lower ho hbase hline
theorem pst_ifT {x y : List Stmt} {tc : TT} {t u : TS} (hc : PTT X c tc) (hx : PSsT X x t) (hy : PSsT X y u) : PST X (.If c x y pos) (tIfS tc t u) := fun pins s σ H D h0 I h =>
  wpAny_If (wpAny_mono (PySem.wpAny_toks (hc pins s σ H _ h0 I h)) (fun d s1 q => by
    obtain ⟨hk, H1, I1, q1⟩ := q
    cases d with
    | true => exact hx pins s1 σ H1 D (Nat.le_trans h0 hk) I1 q1
    | false => exact hy pins s1 σ H1 D (Nat.le_trans h0 hk) I1 q1) fun _ _ z => z.2)
/-- for: a token that is out stays out through the turns -/
theorem pst_forT {tg iter : Expr} {body : List Stmt} {wi : TI} {g : TG} {tb : TS} (hp : PassesOwn (model X.prog X.w) X.A X.env X.xe) (hc : X.calm = true) (hi : PI X tg iter wi) (hg : PG X tg g) (hb : PSsT X body tb)
    (hs : ∀ x, foldedSetIterable iter X.env x = pure x := by intro _; rfl) : PST X (.For tg iter body [] pos) (tFor wi g tb) := by
  intro pins s σ H D h0 I h
  have grow : ∀ {α : Type} {t : Sem α} {Q : α → Shared → Prop} {E : Value → Shared → Prop} {z : Shared}, 1 ≤ z.toks → wpAny (model X.prog X.w) X.A t Q E z → wpAny (model X.prog X.w) X.A t (fun r z' => 1 ≤ z'.toks ∧ Q r z') E z := fun hz w =>
    wpAny_mono (PySem.wpAny_toks_of hz w) (fun _ _ q => q) fun _ _ q => q.2
  refine wpAny_For (wpAny_mono (grow h0 (hi.run pins s σ H _ I h)) (fun v s1 h1 => wpAny_mono (grow h1.1 h1.2) (fun itv s2 h2 => ?_) fun _ _ q => q) fun _ _ q => q) hs
  obtain ⟨k2, it, fp, tn, J, H2, e, I2, T, st2, f2, W, ⟨m0, w0⟩, turn⟩ := h2
  subst e
  have own : ∀ {H' : Hp}, (∀ b ∈ fp, H' b = none) → ∀ b ∈ fp, FpOk X pins H' b := fun hn b hb => ⟨hn b hb, (f2 b hb).2⟩
  refine codeAny_forLoop_any (fun n s' => 1 ≤ s'.toks ∧ ∃ i σ' H', Inv X pins σ' H' s' ∧ tn i s'.heap ∧ (∀ b ∈ fp, H' b = none) ∧ W i n σ' H') ?_ m0 ⟨k2, 0, σ, H2, I2, st2, fun b hb => (f2 b hb).1, w0⟩
  rintro n s3 ⟨k3, i, σ3, H3, I3, st3, fr3, w3⟩
  rcases turn i n σ3 H3 w3 with ⟨stop, qn⟩ | ⟨go, N, hN, step⟩
  · refine wpAny_passesOwn hp (thn (T.done X rfl rfl rfl hc i pins s3 σ3 H3 X.xe I3 (own fr3) st3 stop) fun r s4 ⟨hr, I4⟩ => ?_)
    subst hr
    exact wpAny_execs_nil ⟨σ3, H3, I4, qn⟩
  · refine wpAny_passesOwn hp (thn (grow k3 (T.item X rfl rfl rfl hc i pins s3 σ3 H3 X.xe I3 (own fr3) st3 go)) fun r s4 ⟨k4, u, hr, h4⟩ => ?_)
    subst hr
    refine wpAny_passesOwn hp (thn (grow k4 h4) fun _ s5 ⟨k5, x, H5, I5, r5, y5, st5, fr5⟩ => ?_)
    have I5' := I5.pinned (own fr5) (T.obj _ _ st5)
    refine wpAny_passesOwn hp (thn (grow k5 (hg.run _ s5 σ3 H5 x u _ I5' r5 (step x H5 y5))) fun _ s6 ⟨k6, σ6, H6, I6, q6⟩ => ?_)
    refine wpAny_passesOwn hp (thn (grow k6 (hb _ s6 σ6 H6 _ k6 I6 q6)) fun f s7 ⟨k7, q7⟩ => ?_)
    have next : ∀ {σ7 : L2.St} {H7 : Hp}, Inv X (pins ++ pinsAt fp s5.heap) σ7 H7 s7 → N σ7 H7 → ∃ m, m < n ∧ 1 ≤ s7.toks ∧ ∃ i σ' H', Inv X pins σ' H' s7 ∧ tn i s7.heap ∧ (∀ b ∈ fp, H' b = none) ∧ W i m σ' H' := fun {σ7 H7} I7 n7 => by
      obtain ⟨m', hm, w7⟩ := hN σ7 H7 n7
      have at7 := fun b (hb : b ∈ fp) o e => I7.pin (b, o) (List.mem_append_right _ (List.mem_append_right _ (mem_pinsAt hb e)))
      refine ⟨m', hm, k7, i + 1, σ7, H7, I7.unpinned, T.keep _ _ _ st5 fun b hb o e => (at7 b hb o e).1, fun b hb => ?_, w7⟩
      obtain ⟨o, e, d⟩ := T.obj _ _ st5 b hb
      exact (at7 b hb o e).2.1
    cases f with
    | next => obtain ⟨σ7, H7, I7, n7⟩ := q7; exact next I7 n7
    | cont => obtain ⟨σ7, H7, I7, n7⟩ := q7; exact next I7 n7
    | brk => obtain ⟨σ7, H7, I7, q7⟩ := q7; exact ⟨σ7, H7, I7.unpinned, q7⟩
    | ret v => obtain ⟨x7, σ7, H7, I7, r7, q7⟩ := q7; exact ⟨x7, σ7, H7, I7.unpinned, r7, q7⟩
/-- x = text.lower(): behind it a token is out -/
theorem pss_lowT {i : Nat} {x : Str} {rs : List Stmt} {u : TS} {pos' p : Pos} (hN : X.N.Nodup) (hi : X.N[i]? = some x) (hx : Loc X.env.scope x) (ho : PE X o to) (h2 : PSsT X rs u)
    (hbase : attributeBase o "lower" X.env (eval o X.env) = eval o X.env := by rfl) (hline : (apos.endLine == p.line) = true := by rfl)
    (hs : swapsWith (.Call (.Attribute o "lower" apos) [] [] p) (some (.Name x pos')) pos.line X.env = pure false := by rfl) (hf : X.fn x = true ∨ X.env.scope.names.lookup x = some .local := by first | exact .inl rfl | exact .inr rfl | assumption) :
    PSs X (.Assign [.Name x pos'] (.Call (.Attribute o "lower" apos) [] [] p) pos :: rs) (tSeq (tAsg (tM0 (fun x xs H Q => ∃ a, x = .str a ∧ xs = [] ∧ a.length ≤ 5592405 ∧ Q (.str (Txt.lower a)) H) to) (gName i)) u) := by
  refine ⟨fun pins s σ H D I h => ?_⟩
  refine wpAny_execs_cons (wpAny_Assign_Name ?_ hs)
  refine PySem.Call_method0 hbase hline (thn (ho.run pins s σ H _ I h) fun v s1 ⟨y, H1, I1, r1, q⟩ => ?_)
  obtain ⟨⟨z, rfl⟩, z2, e, _, hz, q2⟩ := q
  cases e
  obtain ⟨t, rfl⟩ := _root_.id r1
  refine ⟨"str", _, PySem.F.plainAttrs_str, PySem.F.slot_str_lower, PySem.F.type_str_lower, typeIs_str _ _ _, (fun _ e => nomatch e), Calls.callWith_builtin rfl (PySem.evalArgs_none (PySem.SC.lower (PyProof.Rows.short24 (by have := PyProof.Rows.len_lower z; omega)) ?_))⟩
  refine wpAny_mono (PySem.wpAny_toks (store_ok (v := V.str (Txt.lower z)) (u := Value.str (Txt.lower z) s1.toks) (Q := fun _ s2 => Inv X pins (σ.set i (some (V.str (Txt.lower z)))) H1 s2) (I1.tok (s1.toks + 1)) hN hi hx ⟨s1.toks, rfl⟩ (fun _ I2 => I2) hf)) (fun _ s2 q => ?_) fun _ _ z => z.2
  have hk : s1.toks + 1 ≤ s2.toks := q.1
  exact h2 pins s2 _ H1 D (by omega) q.2 q2
end
theorem noxT {X : Cx} {st : List Stmt} {t : TS} (h : PSsT X.nox st t) : PSsT X st t := fun pins s σ H D h0 I hw =>
  wpAny_mono (h pins s σ H D h0 (I.wish _) hw) (fun _ _ q => q.unwish) fun _ _ z => False.elim z
/-- a def whose parameters give out a token -/
theorem okT {P : Program} {w : World} {K : PySem.W.Frag} {mg : Str → Option Value} {base : Heap} {x qual : Str} {st : Stmt} {f : Addr} {fd : FuncData} {N ps : List Str} {k : Nat} {sp : Sp} (F : Fun K x qual st f fd) (S : FnScope N ps (defScope st))
    (hnc : ∀ y ∈ (defScope st).names, y.2 ≠ .cell) (hps : 1 ≤ ps.length) (len : ∀ vs H Q E, sp vs H Q E → vs.length = ps.length)
    (hbody : ∀ (cdv : Value) (A : Around) (outer : List Env) (s : Shared) (H : Hp) (vs : List V) (Q : VK) (E : XK), Room k (A.deeper (envOfC qual (defScope st) s.heap.objs.size f cdv)) → sp vs H Q E →
      ∃ t, PSsT (cxOf CX0 P w K mg base N qual (defScope st) f cdv A outer s H E).nox (defBody st) t ∧ t { nx := fun _ H' => Q .non H', rt := Q } (start N vs) H) : FnOk P w K mg base CX0 (k + 1) f fd ps sp := by
  obtain ⟨oc, od, kV, doc, pm, an, cdv, ct, osl, rfl, lk, hcd⟩ := F.ex
  refine fn_ofT lk hcd S hnc hps len fun A outer s H vs Q E hr hsp => ?_
  obtain ⟨t, h, q⟩ := hbody cdv A outer s H vs Q E hr hsp
  exact ⟨t, noxT h, q⟩
section
variable {K : PySem.W.Frag} {Mc M : List Addr} {He H H1 H2 : Hp} {is js : Ims} {ms : Mus} {σ : L2.St} {te ta tb tl : TE} {tt : TT} {g : TG} {tlo thi : TO}
variable {α β : Type} [DecidableEq α] [Dx α] [DecidableEq β] [Dx β]
theorem hv_replC {a y z : Str} (ha : Hv K M ta σ H a) (hz : a.length + (a.length + 1) * z.length ≤ 100000) : Hv K M (tReplC ta y z) σ H (Txt.replace a y z) := fun H1 e m Q q =>
  ha H1 e m _ fun v H2 e2 d => ⟨a, d.str, by omega, q _ H2 e2 (Dt.ofStr _)⟩
/-- an integer in a list of integers -/
theorem inV_ints (a : Int) : ∀ xs : List Int, inV (.int a) (xs.map V.int) = decide (a ∈ xs)
  | [] => by simp [inV]
  | x :: xs => by
    have ih := inV_ints a xs
    unfold inV at ih ⊢
    rw [List.map_cons, List.any_cons, ih]
    show (x == a || _) = _
    by_cases h : x = a
    · subst h; simp
    · have h2 : ¬ a = x := fun z => h z.symm
      simp [h, h2]
theorem flat_ints : ∀ xs : List Int, (xs.map V.int).all flatV = true
  | [] => rfl
  | x :: xs => by rw [List.map_cons, List.all_cons, flat_ints xs]; rfl
theorem ints_of {H : Hp} : ∀ {vs : List V} {xs : List Int}, Dts K H vs xs → vs = xs.map V.int
  | [], [], _ => rfl
  | [], _ :: _, h => by cases h
  | _ :: _, [], h => by cases h
  | v :: vs, x :: xs, h => by
    cases h with
    | cons a b =>
      rw [List.map_cons, Dt.int (H := H) (K := K) (v := v) (i := x) a, ints_of (vs := vs) (xs := xs) b]
theorem hv_inLI {a : Int} {xs : List Int} (ha : Hv K M ta σ H a) (hb : HS K M tb σ H xs) : Hv K M (tOp (rIn K false) ta tb) σ H (decide (a ∈ xs)) := fun H1 e m Q q =>
  ha H1 e m _ fun v H2 e2 d => hb H2 (e.trans e2) (m.ex e2) _ fun p vs H3 e3 s ds => by
    have hv := ints_of ds
    refine ⟨p, vs, rfl, Or.inl s, by rw [d.int]; rfl, by rw [hv]; exact flat_ints xs, ?_⟩
    have hb : inV v vs = decide (a ∈ xs) := by rw [d.int, hv]; exact inV_ints a xs
    rw [hb]
    exact q _ _ (e2.trans e3) (Dt.ofBool _)
/-- [.. for i in range(a, b) if ..] -/
theorem hv_lcR2 {vs : List Nat} (s : Sg K Mc He H is ms) {a n : Int} (f : Int → Bool) (ef : Int → β) (h0 : Hv K (muA ms ++ Mc) ta σ H a) (h : Hv K (muA ms ++ Mc) tb σ H n) (hz : -100000 ≤ a ∧ a ≤ 100000 ∧ -100000 ≤ n ∧ n ≤ 40000 ∧ n - a ≤ 40000)
    (hb : ∀ D (x : Int) (ys : List β) H1, Sg K Mc He H1 is ((D, .lst (ys.map Dx.toX)) :: ms) → a ≤ x ∧ x < n →
      ∀ Q : L2.St → Hp → Prop, (∀ σ2, wipe σ2 vs = wipe σ vs → HT (muA ((D, Mv.lst (ys.map Dx.toX)) :: ms) ++ Mc) tt σ2 H1 (f x) → (f x = true → Hv K (muA ((D, Mv.lst (ys.map Dx.toX)) :: ms) ++ Mc) te σ2 H1 (ef x)) → Q σ2 H1) → g (.int x) (wipe σ vs) H1 Q) :
    Hv K (muA ms ++ Mc) (tLc (iRng2 (tCons ta (tCons tb tNil))) g tt te vs) σ H (((irng a (n - a).toNat).filter f).map ef) := fun H1 e m Q q =>
  h0 H1 e m _ fun v0 H0 e0 d0 => h H0 (e.trans e0) (m.ex e0) _ fun v H2 e2 d => by
    refine ⟨a, n, by rw [d0.int, d.int], by omega, fun D hD => ?_⟩
    have sA : Sg K Mc He H2 is ms := ((s.ex e).ex e0).ex e2
    have sB : Sg K Mc He (upd H2 D (.lst [])) is ((D, .lst (([] : List β).map Dx.toX)) :: ms) := sA.new hD ⟨[], rfl, .nil⟩
    refine lc_range (lo := a) (n := (n - a).toNat) (fun i H' => Ex H2 H' ∧ Sg K Mc He H' is ((D, .lst (((((irng a (n - a).toNat).take i).filter f).map ef).map Dx.toX)) :: ms)) ⟨Ex.new hD, sB⟩
      (fun i H' hi p => ?_) (fun H' p => ?_)
    · have hx : (irng a (n - a).toNat)[i]? = some (a + (i : Int)) := irng_get hi
      refine hb D (a + (i : Int)) _ H' p.2 ⟨by omega, by omega⟩ _ fun σ2 hw ht he => ⟨hw, ?_⟩
      have hlen : ((((irng a (n - a).toNat).take i).filter f).map ef).length < 50000 := by
        rw [List.length_map]
        have := List.length_filter_le f ((irng a (n - a).toNat).take i)
        rw [List.length_take, irng_len] at this
        omega
      exact lc_turn (ms := ms) (zs := (((irng a (n - a).toNat).take (i + 1)).filter f).map ef) p.2 hlen (fun H3 => Ex H2 H3 ∧ Sg K Mc He H3 is ((D, .lst (((((irng a (n - a).toNat).take (i + 1)).filter f).map ef).map Dx.toX)) :: ms)) ht he (filter_snoc hx) (fun H3 h4 s3 => ⟨by
        obtain ⟨H4, e4, e5⟩ := h4
        rcases e5 with e5 | ⟨o, e5⟩
        · rw [e5]; exact p.1.trans e4
        · rw [e5]; exact Ex.mut (p.1.trans e4) hD, s3⟩)
    · have z := p.2
      have et : (irng a (n - a).toNat).take (n - a).toNat = irng a (n - a).toNat := List.take_of_length_le (by rw [irng_len]; exact Nat.le_refl _)
      rw [et] at z
      exact q _ H' ((e0.trans e2).trans p.1) (z.frz).im.1
theorem hv_lcR20 {vs : List Nat} (s : Sg K Mc He H is ms) {a n : Int} (ef : Int → β) (h0 : Hv K (muA ms ++ Mc) ta σ H a) (h : Hv K (muA ms ++ Mc) tb σ H n) (hz : -100000 ≤ a ∧ a ≤ 100000 ∧ -100000 ≤ n ∧ n ≤ 40000 ∧ n - a ≤ 40000)
    (hb : ∀ D (x : Int) (ys : List β) H1, Sg K Mc He H1 is ((D, .lst (ys.map Dx.toX)) :: ms) → a ≤ x ∧ x < n →
      ∀ Q : L2.St → Hp → Prop, (∀ σ2, wipe σ2 vs = wipe σ vs → Hv K (muA ((D, Mv.lst (ys.map Dx.toX)) :: ms) ++ Mc) te σ2 H1 (ef x) → Q σ2 H1) → g (.int x) (wipe σ vs) H1 Q) :
    Hv K (muA ms ++ Mc) (tLc (iRng2 (tCons ta (tCons tb tNil))) g tYes te vs) σ H ((irng a (n - a).toNat).map ef) := by
  have key := hv_lcR2 (g := g) (tt := tYes) (te := te) (vs := vs) s (fun _ => true) ef h0 h hz (fun D x ys H1 s1 hx Q k => hb D x ys H1 s1 hx Q fun σ2 hw he => k σ2 hw (fun H2 _ _ _ q => q H2 (Ex.refl H2)) fun _ => he)
  exact key.is (by rw [List.filter_eq_self.mpr (fun _ _ => rfl)])
/-- [.. for i, x in enumerate(xs) if ..] -/
theorem hv_lcE {vs : List Nat} (s : Sg K Mc He H is ms) {xs : List α} (f : Int × α → Bool) (ef : Int × α → β) (h : Hv K (muA ms ++ Mc) tl σ H xs) (hz : xs.length ≤ 40000)
    (hb : ∀ D src (x : Int × α) w (ys : List β) H1, Sg K Mc He H1 ((w, Dx.toX x) :: (src, Dx.toX xs) :: is) ((D, .lst (ys.map Dx.toX)) :: ms) → x ∈ enumL xs →
      ∀ Q : L2.St → Hp → Prop, (∀ σ2, wipe σ2 vs = wipe σ vs → HT (muA ((D, Mv.lst (ys.map Dx.toX)) :: ms) ++ Mc) tt σ2 H1 (f x) → (f x = true → Hv K (muA ((D, Mv.lst (ys.map Dx.toX)) :: ms) ++ Mc) te σ2 H1 (ef x)) → Q σ2 H1) → g w (wipe σ vs) H1 Q) :
    Hv K (muA ms ++ Mc) (tLc (iEnum K (tCons tl tNil)) g tt te vs) σ H (((enumL xs).filter f).map ef) := fun H1 e m Q q =>
  h H1 e m _ fun v H2 e2 d => by
    obtain ⟨a, us, rfl, s1, ds⟩ := d.list
    have s1' : SqL K H2 a us := ex_l msk_le s1
    refine ⟨a, us, rfl, s1', fun D hD => ?_⟩
    have sA : Sg K Mc He H2 ((.ref a, Dx.toX xs) :: is) ms := ((s.ex e).ex e2).put d
    have sB : Sg K Mc He (upd H2 D (.lst [])) ((.ref a, Dx.toX xs) :: is) ((D, .lst (([] : List β).map Dx.toX)) :: ms) := sA.new hD ⟨[], rfl, .nil⟩
    have hlu : us.length = xs.length := ds.len
    refine lc_it (walk_enum (K := K) (a := a) (xs := us)) (fun i H' => Ex H2 H' ∧ Sg K Mc He H' ((.ref a, Dx.toX xs) :: is) ((D, .lst (((((enumL xs).take i).filter f).map ef).map Dx.toX)) :: ms)) ⟨Ex.new hD, sB⟩
      (fun i H' _ p => ex_l p.1 s1') (fun i x H' H'' hi p y => ?_) (fun H' p => ?_)
    · obtain ⟨T, x0, x1, rfl, nT, rfl, f1, f2⟩ := y
      have hix : i < xs.length := by rw [← hlu]; exact hi
      have gx : xs[i]? = some xs[i] := by simp [hix]
      have gE := enumL_get gx
      have e0 : x0 = .int (i : Int) := (Option.some.inj f1).symm
      subst e0
      have eT : Ex H' (upd H' T (.tup [.int (i : Int), x1])) := Ex.new nT
      have sT := p.2.ex eT
      have dm : Dt K (msk (D :: (muA ms ++ Mc)) (upd H' T (.tup [.int (i : Int), x1]))) x1 xs[i] := by
        have d2 : Dts K (msk (D :: (muA ms ++ Mc)) (upd H' T (.tup [.int (i : Int), x1]))) us xs := by
          have q1 : Dts K (msk (muA ms ++ Mc) H2) us xs := ds
          have q2 : Ex (msk (muA ms ++ Mc) H2) (msk (D :: (muA ms ++ Mc)) (upd H' T (.tup [.int (i : Int), x1]))) := fun b o hb' => by
            by_cases z : b ∈ muA ms ++ Mc
            · rw [msk_in z] at hb'; cases hb'
            · rw [msk_out z] at hb'
              have nb : b ≠ D := ne_of_none hb' hD
              rw [msk_out (by simp only [List.mem_cons, not_or]; exact ⟨nb, z⟩)]
              exact eT b o (p.1 b o hb')
          exact q1.mono q2
        obtain ⟨w, w1, w2⟩ := d2.at gx
        have : x1 = w := Option.some.inj (f2.symm.trans w1)
        subst this; exact w2
      have nTD : T ∉ D :: (muA ms ++ Mc) := fun z => (p.2.mok T z) nT
      have dw : Dt K (msk (D :: (muA ms ++ Mc)) (upd H' T (.tup [.int (i : Int), x1]))) (.ref T) ((i : Int), xs[i]) := Dt.ofPair (SqT.of (by rw [msk_out nTD]; exact upd_same)) (Dt.ofInt _) dm
      refine hb D (.ref a) ((i : Int), xs[i]) (.ref T) _ _ (sT.put dw) (List.mem_of_getElem? gE) _ fun σ2 hw ht he => ⟨hw, ?_⟩
      have hlen : ((((enumL xs).take i).filter f).map ef).length < 50000 := by
        rw [List.length_map]
        have := List.length_filter_le f ((enumL xs).take i)
        rw [List.length_take, enumL_len] at this
        omega
      exact lc_turn (ms := ms) (zs := (((enumL xs).take (i + 1)).filter f).map ef) sT hlen (fun H3 => Ex H2 H3 ∧ Sg K Mc He H3 ((.ref a, Dx.toX xs) :: is) ((D, .lst (((((enumL xs).take (i + 1)).filter f).map ef).map Dx.toX)) :: ms)) ht he (filter_snoc gE) (fun H3 h4 s3 => ⟨by
        obtain ⟨H4, e4, e5⟩ := h4
        rcases e5 with e5 | ⟨o, e5⟩
        · rw [e5]; exact (p.1.trans eT).trans e4
        · rw [e5]; exact Ex.mut ((p.1.trans eT).trans e4) hD, s3⟩)
    · have z := p.2
      have et : (enumL xs).take us.length = enumL xs := List.take_of_length_le (by rw [enumL_len, hlu]; exact Nat.le_refl _)
      rw [et] at z
      exact q _ H' (e2.trans p.1) (z.frz).im.1
end
end Ly

namespace Ly
open PySem PySem.Spec PyProof.Rows L2 Evl
theorem gl_mem' {β : Type} {occ : Nat → Bool} {blk : Nat → List β} {x : β} : ∀ (n lo k : Nat), lo ≤ k → k < lo + n → occ k = true → x ∈ blk k → x ∈ gl occ blk lo n
  | 0, lo, k, h1, h2, _, _ => by omega
  | n + 1, lo, k, h1, h2, ho, hx => by
    rw [gl, List.mem_append]
    by_cases e : lo = k
    · left; rw [e, ho, if_pos rfl]; exact hx
    · right; exact gl_mem' n (lo + 1) k (by omega) (by omega) ho hx
/-- two lists that grow, with the same items, are one -/
theorem sorted_ext : ∀ {l1 l2 : List Int}, l1.Pairwise (· < ·) → l2.Pairwise (· < ·) → (∀ x, x ∈ l1 ↔ x ∈ l2) → l1 = l2
  | [], [], _, _, _ => rfl
  | [], b :: r, _, _, h => by have := (h b).mpr List.mem_cons_self; cases this
  | a :: l, [], _, _, h => by have := (h a).mp List.mem_cons_self; cases this
  | a :: l, b :: r, h1, h2, h => by
    have p1 := List.pairwise_cons.mp h1
    have p2 := List.pairwise_cons.mp h2
    have e : a = b := by
      have ha := (h a).mp List.mem_cons_self
      have hb := (h b).mpr List.mem_cons_self
      rcases List.mem_cons.mp ha with ha | ha
      · exact ha
      · rcases List.mem_cons.mp hb with hb | hb
        · exact hb.symm
        · have := p1.1 b hb
          have := p2.1 a ha
          omega
    subst e
    congr 1
    refine sorted_ext p1.2 p2.2 fun x => ⟨fun hx => ?_, fun hx => ?_⟩
    · rcases List.mem_cons.mp ((h x).mp (List.mem_cons_of_mem _ hx)) with q | q
      · have := p1.1 x hx; omega
      · exact q
    · rcases List.mem_cons.mp ((h x).mpr (List.mem_cons_of_mem _ hx)) with q | q
      · have := p2.1 x hx; omega
      · exact q
theorem irng_sorted (lo : Int) (n : Nat) : (irng lo n).Pairwise (· < ·) := by
  unfold irng
  rw [List.pairwise_map]
  exact List.pairwise_lt_range.imp fun h => by omega
theorem irng_mem {lo x : Int} {n : Nat} : x ∈ irng lo n ↔ lo ≤ x ∧ x < lo + n := by
  unfold irng
  rw [List.mem_map]
  constructor
  · rintro ⟨i, hi, rfl⟩
    have := List.mem_range.mp hi
    omega
  · intro h
    exact ⟨(x - lo).toNat, List.mem_range.mpr (by omega), by omega⟩
/-- the greatest -/
theorem max_spec : ∀ (l : List Int) (b : Int), (l.foldl max b = b ∨ l.foldl max b ∈ l) ∧ b ≤ l.foldl max b ∧ ∀ x ∈ l, x ≤ l.foldl max b
  | [], b => ⟨Or.inl rfl, Int.le_refl b, fun x hx => by cases hx⟩
  | a :: l, b => by
    obtain ⟨h1, h2, h3⟩ := max_spec l (max b a)
    rw [List.foldl_cons]
    refine ⟨?_, by omega, fun x hx => ?_⟩
    · rcases h1 with h1 | h1
      · rw [h1]
        by_cases q : a ≤ b
        · left; omega
        · right; rw [show max b a = a by omega]; exact List.mem_cons_self
      · exact Or.inr (List.mem_cons_of_mem _ h1)
    · rcases List.mem_cons.mp hx with q | q
      · omega
      · exact h3 x q
theorem max_ext {l1 l2 : List Int} (b : Int) (h : ∀ x, x ∈ l1 ↔ x ∈ l2) : l1.foldl max b = l2.foldl max b := by
  obtain ⟨h1, h2, h3⟩ := max_spec l1 b
  obtain ⟨k1, k2, k3⟩ := max_spec l2 b
  have a1 : l1.foldl max b ≤ l2.foldl max b := by
    rcases h1 with q | q
    · rw [q]; exact k2
    · exact k3 _ ((h _).mp q)
  have a2 : l2.foldl max b ≤ l1.foldl max b := by
    rcases k1 with q | q
    · rw [q]; exact h2
    · exact h3 _ ((h _).mpr q)
  omega
theorem max_fold {α : Type} (P : α → Bool) (v : α → Int) : ∀ (l : List α) (b : Int), l.foldl (fun b x => if P x = true then max b (v x) else b) b = ((l.filter P).map v).foldl max b
  | [], b => rfl
  | a :: l, b => by
    rw [List.foldl_cons, max_fold P v l]
    by_cases q : P a = true
    · rw [if_pos q, List.filter_cons_of_pos q, List.map_cons, List.foldl_cons]
    · rw [if_neg q, List.filter_cons_of_neg q]
theorem chars_app (a b : Str) : chars (a ++ b) = chars a ++ chars b := by
  rw [chars_cps, chars_cps, chars_cps, cps_app, List.map_append]
theorem enumL_iff {xs : List Int} {p : Int × Int} : p ∈ enumL xs ↔ 0 ≤ p.1 ∧ p.1 < (xs.length : Int) ∧ p.2 = xs.getD p.1.toNat 0 := by
  constructor
  · intro h
    obtain ⟨i, hi, rfl⟩ := List.getElem_of_mem h
    have hx : i < xs.length := by rw [enumL_len] at hi; exact hi
    have gx : xs[i]? = some xs[i] := by simp [hx]
    obtain ⟨_, ge⟩ := List.getElem?_eq_some_iff.mp (enumL_get gx)
    rw [ge]
    refine ⟨by show (0 : Int) ≤ (i : Int); omega, by show (i : Int) < _; omega, ?_⟩
    show xs[i] = xs.getD (Int.toNat (i : Int)) 0
    rw [Int.toNat_natCast, List.getD_eq_getElem?_getD, gx]
    rfl
  · rintro ⟨h1, h2, h3⟩
    obtain ⟨a, b⟩ := p
    dsimp only at h1 h2 h3
    have hx : a.toNat < xs.length := by omega
    have gx : xs[a.toNat]? = some xs[a.toNat] := by simp [hx]
    have k := List.mem_of_getElem? (enumL_get gx)
    rw [List.getD_eq_getElem?_getD, gx] at h3
    have e : (((a.toNat : Nat) : Int), xs[a.toNat]) = (a, b) := Prod.ext (by show ((a.toNat : Nat) : Int) = a; omega) (by show xs[a.toNat] = b; rw [h3]; rfl)
    rw [← e]
    exact k
theorem enumL_sorted (xs : List Int) : (enumL xs).Pairwise fun a b => a.1 < b.1 := by
  rw [List.pairwise_iff_getElem]
  intro i j hi hj hij
  rw [enumL_len] at hi hj
  have gi : xs[i]? = some xs[i] := by simp [hi]
  have gj : xs[j]? = some xs[j] := by simp [hj]
  obtain ⟨_, e1⟩ := List.getElem?_eq_some_iff.mp (enumL_get gi)
  obtain ⟨_, e2⟩ := List.getElem?_eq_some_iff.mp (enumL_get gj)
  rw [e1, e2]
  show (i : Int) < (j : Int)
  omega
theorem lo1_eq (c : Nat) : PyProof.Rows.lo1 c = if 65 ≤ c ∧ c ≤ 90 then c + 32 else c := by
  unfold PyProof.Rows.lo1
  first | rfl | (split <;> split <;> simp_all <;> omega) | (simp; done)
theorem loopL_ret_P {ρ S α : Type} {f : S → α → Lp ρ S} {P : ρ → Prop} : ∀ (l : List α) (s : S), (∀ s x r, x ∈ l → f s x = .ret r → P r) → ∀ r, loopL f l s = .inl r → P r
  | [], s, _, r, h => by cases h
  | x :: l, s, hp, r, h => by
    rw [loopL] at h
    cases hx : f s x with
    | ret r' => rw [hx] at h; cases h; exact hp s x r List.mem_cons_self hx
    | brk s' => rw [hx] at h; cases h
    | nxt s' => rw [hx] at h; exact loopL_ret_P l s' (fun s y r hy => hp s y r (List.mem_cons_of_mem _ hy)) r h
end Ly

namespace Ly
open PySem PySem.Spec PyProof.Rows L2 Evl
open PySem.W (Datum DatumOrd Tup T3 T4 minOf)
/-! ### dicts with plain keys -/
/-- the pairs in the order in which the keys came -/
structure Dc (κ β : Type) where
  kvs : List (κ × β)
instance {κ β : Type} [DecidableEq κ] [DecidableEq β] : DecidableEq (Dc κ β) := fun a b =>
  if h : a.kvs = b.kvs then isTrue (by cases a; cases b; cases h; rfl) else isFalse fun z => h (by rw [z])
class Ky (κ : Type) [DecidableEq κ] [Dx κ] where
  toK : κ → Key
  inj : ∀ {a b : κ}, toK a = toK b → a = b
  link : ∀ {K : PySem.W.Frag} {H : Hp} {v : V} {k : κ}, Dt K H v k → v = kV (toK k)
instance : Ky Int := ⟨.inl, fun e => by cases e; rfl, fun d => d.int⟩
instance : Ky Str := ⟨.inr, fun e => by cases e; rfl, fun d => d.str⟩
section
variable {κ β : Type} [DecidableEq κ] [Dx κ] [Ky κ] [DecidableEq β] [Dx β]
def Dc.get (d : Dc κ β) (k : κ) : Option β := (d.kvs.find? fun p => decide (p.1 = k)).map (·.2)
def Dc.put (d : Dc κ β) (k : κ) (x : β) : Dc κ β :=
  ⟨if (d.kvs.any fun p => decide (p.1 = k)) = true then d.kvs.map (fun p => if p.1 = k then (p.1, x) else p) else d.kvs ++ [(k, x)]⟩
def Dc.has (d : Dc κ β) (k : κ) : Bool := d.kvs.any fun p => decide (p.1 = k)
instance : Dx (Dc κ β) := ⟨fun d => .dict (d.kvs.map fun p => Ky.toK p.1) (d.kvs.map fun p => Dx.toX p.2)⟩
/-- what an own dict holds, as the state tells it -/
def Dc.m (d : Dc κ β) : Mv := .dic (d.kvs.map fun p => (Ky.toK p.1, Dx.toX p.2))
/-- pairs that hold pairs -/
inductive Kd (K : PySem.W.Frag) (H : Hp) : List (Key × V) → List (κ × β) → Prop
  | nil : Kd K H [] []
  | cons {k : κ} {v : V} {x : β} {kvs : List (Key × V)} {r : List (κ × β)} : Dt K H v x → Kd K H kvs r → Kd K H ((Ky.toK k, v) :: kvs) ((k, x) :: r)
variable {K : PySem.W.Frag} {H H' : Hp}
theorem kd_of : ∀ {kvs : List (Key × V)} {r : List (κ × β)}, kvs.map (·.1) = r.map (fun p => Ky.toK p.1) → XpAll K H (kvs.map (·.2)) (r.map fun p => Dx.toX p.2) → Kd K H kvs r
  | [], [], _, _ => .nil
  | [], _ :: _, h, _ => by cases h
  | _ :: _, [], h, _ => by cases h
  | (k, v) :: kvs, (j, x) :: r, h, a => by
    have h' := List.cons.inj h
    cases a with
    | cons a1 a2 =>
      have e : k = Ky.toK j := h'.1
      subst e
      exact .cons a1 (kd_of h'.2 a2)
theorem Kd.keys {kvs : List (Key × V)} {r : List (κ × β)} (h : Kd K H kvs r) : kvs.map (·.1) = r.map (fun p => Ky.toK p.1) := by
  induction h with
  | nil => rfl
  | cons a b ih => rw [List.map_cons, List.map_cons, ih]
theorem Kd.vals {kvs : List (Key × V)} {r : List (κ × β)} (h : Kd K H kvs r) : XpAll K H (kvs.map (·.2)) (r.map fun p => Dx.toX p.2) := by
  induction h with
  | nil => exact .nil
  | cons a b ih => exact .cons a ih
theorem Kd.mono {kvs : List (Key × V)} {r : List (κ × β)} (e : Ex H H') (h : Kd K H kvs r) : Kd K H' kvs r := by
  induction h with
  | nil => exact .nil
  | cons a b ih => exact .cons (a.mono e) ih
theorem Kd.any {kvs : List (Key × V)} {r : List (κ × β)} (h : Kd K H kvs r) (k : κ) : (kvs.any fun p => decide (p.1 = Ky.toK k)) = r.any fun p => decide (p.1 = k) := by
  induction h with
  | nil => rfl
  | @cons j v x kvs r a b ih =>
    rw [List.any_cons, List.any_cons, ih]
    congr 1
    by_cases q : j = k
    · subst q; simp
    · rw [decide_eq_false q, decide_eq_false fun z => q (Ky.inj z)]
theorem Kd.get {kvs : List (Key × V)} {r : List (κ × β)} (h : Kd K H kvs r) (k : κ) : (∃ v x, valV kvs (Ky.toK k) = some v ∧ Dc.get ⟨r⟩ k = some x ∧ Dt K H v x) ∨ (valV kvs (Ky.toK k) = none ∧ Dc.get (⟨r⟩ : Dc κ β) k = none) := by
  induction h with
  | nil => exact Or.inr ⟨rfl, rfl⟩
  | @cons j v x kvs r a b ih =>
    by_cases q : j = k
    · subst q
      exact Or.inl ⟨v, x, valV_pos rfl, by simp [Dc.get], a⟩
    · rw [valV_neg (fun z => q (Ky.inj z))]
      have e : Dc.get (⟨(j, x) :: r⟩ : Dc κ β) k = Dc.get ⟨r⟩ k := by simp [Dc.get, q]
      rw [e]
      exact ih
theorem Kd.app {kvs : List (Key × V)} {r : List (κ × β)} {v : V} {x : β} {k : κ} (h : Kd K H kvs r) (d : Dt K H v x) : Kd K H (kvs ++ [(Ky.toK k, v)]) (r ++ [(k, x)]) := by
  induction h with
  | nil => exact .cons d .nil
  | cons a b ih => exact .cons a ih
theorem Kd.rep {kvs : List (Key × V)} {r : List (κ × β)} {v : V} {x : β} {k : κ} (h : Kd K H kvs r) (d : Dt K H v x) : Kd K H (kvs.map fun p => if p.1 = Ky.toK k then (p.1, v) else p) (r.map fun p => if p.1 = k then (p.1, x) else p) := by
  induction h with
  | nil => exact .nil
  | @cons j w y kvs r a b ih =>
    rw [List.map_cons, List.map_cons]
    by_cases q : j = k
    · subst q
      rw [if_pos rfl, if_pos rfl]
      exact .cons d ih
    · rw [if_neg (fun z => q (Ky.inj z)), if_neg q]
      exact .cons a ih
theorem Kd.put {kvs : List (Key × V)} {d : Dc κ β} {v : V} {x : β} {k : κ} (h : Kd K H kvs d.kvs) (dv : Dt K H v x) : Kd K H (putK kvs (Ky.toK k) v) (d.put k x).kvs := by
  unfold putK Dc.put
  rw [h.any k]
  by_cases q : (d.kvs.any fun p => decide (p.1 = k)) = true
  · rw [if_pos q]; dsimp only; rw [if_pos q]; exact h.rep dv
  · rw [if_neg q]; dsimp only; rw [if_neg q]; exact h.app dv
theorem Kd.len {kvs : List (Key × V)} {r : List (κ × β)} (h : Kd K H kvs r) : kvs.length = r.length := by
  have := congrArg List.length h.keys
  simpa using this
end
section
variable {κ β : Type} [DecidableEq κ] [Dx κ] [Ky κ] [DecidableEq β] [Dx β]
variable {K : PySem.W.Frag} {Mc M : List Addr} {He H H1 H2 : Hp} {is js : Ims} {ms : Mus} {σ : L2.St} {te ta tb td tk tz : TE} {D : Ends} {tq : TS}
/-- what the state tells of an own dict -/
theorem Sg.dic (s : Sg K Mc He H is ms) {j : Nat} {l : Addr} {d : Dc κ β} (e : ms[j]? = some (l, d.m)) : ∃ kvs, H l = some (.dK kvs) ∧ Kd K (msk (muA ms ++ Mc) H) kvs d.kvs := by
  obtain ⟨o, h1, h2⟩ := s.mu.get e
  obtain ⟨kvs, rfl, h3, h4⟩ := h2
  refine ⟨kvs, h1, kd_of ?_ ?_⟩
  · rw [h3, List.map_map]; rfl
  · rw [List.map_map] at h4; exact h4
theorem dic_ok {kvs : List (Key × V)} {d : Dc κ β} (h : Kd K H kvs d.kvs) : MvOk K H (.dK kvs) d.m := by
  refine ⟨kvs, rfl, ?_, ?_⟩
  · rw [h.keys, List.map_map]; rfl
  · rw [List.map_map]; exact h.vals
/-- x = {} -/
theorem z_dnil (κ β : Type) [DecidableEq κ] [Dx κ] [Ky κ] [DecidableEq β] [Dx β] {i : Nat} (s : Sg K Mc He H is ms) (k : ∀ y, y = (⟨[]⟩ : Dc κ β) → ∀ p H1, Sg K Mc He H1 is ((p, y.m) :: ms) → tq D (σ.set i (some (.ref p))) H1) :
    tSeq (tAsg tDNewK (gName i)) tq D σ H := fun p hp => k ⟨[]⟩ rfl p _ (s.new hp (dic_ok .nil))
/-- key in an own dict, key not in it -/
theorem hv_dinM {j : Nat} {l : Addr} {d : Dc κ β} {x : κ} (s : Sg K Mc He H is ms) (e : ms[j]? = some (l, d.m)) (hk : Hv K (muA ms ++ Mc) ta σ H x) (ho : Ev td σ H (.ref l)) : Hv K (muA ms ++ Mc) (tDIn ta td) σ H (d.has x) := fun H1 e1 m Q q =>
  hk H1 e1 m _ fun v H2 e2 dv => ho H2 (e1.trans e2) _ fun H3 e3 => by
    obtain ⟨kvs, h1, h2⟩ := (s.ex ((e1.trans e2).trans e3)).dic e
    refine ⟨l, valV kvs (Ky.toK x), rfl, by rw [Ky.link dv]; exact DGet.k h1, ?_⟩
    have hb : (valV kvs (Ky.toK x)).isSome = d.has x := by rw [← valV_any, h2.any]; rfl
    rw [hb]
    exact q _ H3 (e2.trans e3) (Dt.ofBool _)
theorem hv_dninM {j : Nat} {l : Addr} {d : Dc κ β} {x : κ} (s : Sg K Mc He H is ms) (e : ms[j]? = some (l, d.m)) (hk : Hv K (muA ms ++ Mc) ta σ H x) (ho : Ev td σ H (.ref l)) : Hv K (muA ms ++ Mc) (tDNotIn ta td) σ H (!d.has x) := fun H1 e1 m Q q =>
  hk H1 e1 m _ fun v H2 e2 dv => ho H2 (e1.trans e2) _ fun H3 e3 => by
    obtain ⟨kvs, h1, h2⟩ := (s.ex ((e1.trans e2).trans e3)).dic e
    refine ⟨l, valV kvs (Ky.toK x), rfl, by rw [Ky.link dv]; exact DGet.k h1, ?_⟩
    have hb : (valV kvs (Ky.toK x)).isSome = d.has x := by rw [← valV_any, h2.any]; rfl
    rw [hb]
    exact q _ H3 (e2.trans e3) (Dt.ofBool _)
/-- an own dict's value at a key -/
theorem hv_dgetM {j : Nat} {l : Addr} {d : Dc κ β} {x : κ} {y : β} (s : Sg K Mc He H is ms) (e : ms[j]? = some (l, d.m)) (ho : Ev td σ H (.ref l)) (hk : Hv K (muA ms ++ Mc) ta σ H x) (hg : d.get x = some y) : Hv K (muA ms ++ Mc) (tDGet td ta) σ H y := fun H1 e1 m Q q =>
  ho H1 e1 _ fun H2 e2 => hk H2 (e1.trans e2) (m.ex e2) _ fun v H3 e3 dv => by
    obtain ⟨kvs, h1, h2⟩ := (s.ex ((e1.trans e2).trans e3)).dic e
    rcases h2.get x with ⟨w, z, g1, g2, g3⟩ | ⟨_, g2⟩
    · rw [hg] at g2
      cases g2
      exact ⟨l, w, rfl, by rw [Ky.link dv, ← g1]; exact DGet.k h1, q w H3 (e2.trans e3) g3⟩
    · rw [hg] at g2; cases g2
/-- a dict that is known -/
theorem Dt.dic {v : V} {d : Dc κ β} (h : Dt K H v d) : ∃ a kvs, v = .ref a ∧ Rd H a (.dK kvs) ∧ Kd K H kvs d.kvs := by
  have h' : Xp K H v (.dict (d.kvs.map fun p => Ky.toK p.1) (d.kvs.map fun p => Dx.toX p.2)) := h
  cases h' with
  | dic r k e a => subst e; exact ⟨_, _, rfl, r, kd_of k a⟩
theorem Dt.ofDic {a : Addr} {kvs : List (Key × V)} {d : Dc κ β} (r : Rd H a (.dK kvs)) (h : Kd K H kvs d.kvs) : Dt K H (.ref a) d := Xp.dic r h.keys rfl h.vals
theorem rd_msk {a : Addr} {u : HO} (h : Rd (msk M H) a u) : Rd H a u := ex_rd msk_le h
theorem hv_dget {d : Dc κ β} {x : κ} {y : β} (hd : Hv K M td σ H d) (hk : Hv K M ta σ H x) (hg : d.get x = some y) : Hv K M (tDGet td ta) σ H y := fun H1 e1 m Q q =>
  hd H1 e1 m _ fun v H2 e2 dv => hk H2 (e1.trans e2) (m.ex e2) _ fun u H3 e3 du => by
    obtain ⟨a, kvs, rfl, r, h2⟩ := (Dt.mono (msk_ex e3) dv).dic
    rcases h2.get x with ⟨w, z, g1, g2, g3⟩ | ⟨_, g2⟩
    · rw [hg] at g2
      cases g2
      exact ⟨a, w, rfl, .inl ⟨kvs, Ky.toK x, rd_msk r, Ky.link du, g1.symm⟩, q w H3 (e2.trans e3) g3⟩
    · rw [hg] at g2; cases g2
theorem hv_din {d : Dc κ β} {x : κ} (hk : Hv K M ta σ H x) (hd : Hv K M td σ H d) : Hv K M (tDIn ta td) σ H (d.has x) := fun H1 e1 m Q q =>
  hk H1 e1 m _ fun u H2 e2 du => hd H2 (e1.trans e2) (m.ex e2) _ fun v H3 e3 dv => by
    obtain ⟨a, kvs, rfl, r, h2⟩ := dv.dic
    refine ⟨a, valV kvs (Ky.toK x), rfl, .inl ⟨kvs, Ky.toK x, rd_msk r, Ky.link du, rfl⟩, ?_⟩
    have hb : (valV kvs (Ky.toK x)).isSome = d.has x := by rw [← valV_any, h2.any]; rfl
    rw [hb]
    exact q _ H3 (e2.trans e3) (Dt.ofBool _)
theorem hv_dnin {d : Dc κ β} {x : κ} (hk : Hv K M ta σ H x) (hd : Hv K M td σ H d) : Hv K M (tDNotIn ta td) σ H (!d.has x) := fun H1 e1 m Q q =>
  hk H1 e1 m _ fun u H2 e2 du => hd H2 (e1.trans e2) (m.ex e2) _ fun v H3 e3 dv => by
    obtain ⟨a, kvs, rfl, r, h2⟩ := dv.dic
    refine ⟨a, valV kvs (Ky.toK x), rfl, .inl ⟨kvs, Ky.toK x, rd_msk r, Ky.link du, rfl⟩, ?_⟩
    have hb : (valV kvs (Ky.toK x)).isSome = d.has x := by rw [← valV_any, h2.any]; rfl
    rw [hb]
    exact q _ H3 (e2.trans e3) (Dt.ofBool _)
/-- d[k] = e -/
theorem z_dputG {j : Nat} {l : Addr} {d : Dc κ β} {x : κ} {y : β} (s : Sg K Mc He H is ms) (e : ms[j]? = some (l, d.m)) (hv : Hv K (muA ms ++ Mc) te σ H y) (ho : Ev td σ H (.ref l)) (hk : Hv K (muA ms ++ Mc) ta σ H x) (hz : d.kvs.length ≤ 100000)
    (k : ∀ d', d' = d.put x y → ∀ H1, Sg K Mc He H1 is (ms.set j (l, d'.m)) → tq D σ H1) : tSeq (sDPut td ta te) tq D σ H :=
  hv H (Ex.refl H) s.mok _ fun v H1 e1 dv => ho H1 e1 _ fun H2 e2 => hk H2 (e1.trans e2) (s.mok.ex (e1.trans e2)) _ fun u H3 e3 du => by
    have s3 := ((s.ex e1).ex e2).ex e3
    obtain ⟨kvs, h1, h2⟩ := s3.dic e
    have hl : kvs.length < sizeLine := by
      have hs : sizeLine = 16777216 := sizeLine_eq
      rw [h2.len]; omega
    refine ⟨l, _, rfl, by rw [Ky.link du]; exact DPut.k h1 hl, k _ rfl _ (s3.set e (dic_ok ?_))⟩
    exact h2.put (Dt.mono (msk_ex (e2.trans e3)) dv)
/-- an own dict that changes no more -/
theorem Sg.frzD {l : Addr} {d : Dc κ β} (s : Sg K Mc He H is ((l, d.m) :: ms)) : Sg K Mc He H ((.ref l, Dx.toX d) :: is) ms := by
  have sub : Ex (msk (muA ((l, d.m) :: ms) ++ Mc) H) (msk (muA ms ++ Mc) H) := msk_sub fun a ha => List.mem_cons_of_mem _ ha
  have nd := List.nodup_cons.mp s.nd
  obtain ⟨kvs, h1, h2⟩ := s.dic (j := 0) (l := l) (d := d) rfl
  have nl : l ∉ muA ms ++ Mc := fun z => by
    rcases List.mem_append.mp z with z | z
    · exact nd.1 z
    · exact s.notc (List.mem_cons_self) z
  refine ⟨?_, s.okc, nd.2, ⟨Dt.ofDic (.inl (by rw [msk_out nl]; exact h1)) (h2.mono sub), s.im.mono sub⟩, s.mu.2.mono sub (Ex.refl H)⟩
  exact s.ext.trans (msk_sub fun a ha => List.mem_cons_of_mem _ ha)
end
end Ly

namespace Ly
open PySem PySem.Spec PyProof.Rows L2 Evl
open PySem.W (Datum DatumOrd Tup T3 T4 minOf)
section
variable {α κ β : Type} [DecidableEq α] [Dx α] [DecidableEq κ] [Dx κ] [Ky κ] [DecidableEq β] [Dx β]
variable {K : PySem.W.Frag} {Mc M : List Addr} {He H H1 H2 : Hp} {is js : Ims} {ms : Mus} {σ : L2.St} {te ta tb td tk tv tl tz : TE} {tt : TT} {g : TG} {D : Ends} {tq : TS}
/-! ### {k: v for x in xs} -/
/-- the pairs put one behind the other -/
def Dc.of (xs : List α) (kf : α → κ) (vf : α → β) : Dc κ β := xs.foldl (fun d x => d.put (kf x) (vf x)) ⟨[]⟩
theorem dcOf_snoc {xs : List α} {kf : α → κ} {vf : α → β} {i : Nat} {x : α} (h : xs[i]? = some x) : Dc.of (xs.take (i + 1)) kf vf = (Dc.of (xs.take i) kf vf).put (kf x) (vf x) := by
  unfold Dc.of
  rw [take_snoc h, List.foldl_append]
  rfl
theorem put_len (d : Dc κ β) (k : κ) (x : β) : (d.put k x).kvs.length ≤ d.kvs.length + 1 := by
  unfold Dc.put
  dsimp only
  split
  · rw [List.length_map]; omega
  · rw [List.length_append]; exact Nat.le_refl _
theorem dcOf_len (kf : α → κ) (vf : α → β) : ∀ (xs : List α), (Dc.of xs kf vf).kvs.length ≤ xs.length := by
  have key : ∀ (xs : List α) (d : Dc κ β), (xs.foldl (fun d x => d.put (kf x) (vf x)) d).kvs.length ≤ d.kvs.length + xs.length := fun xs => by
    induction xs with
    | nil => intro d; exact Nat.le_refl _
    | cons x r ih =>
      intro d
      rw [List.foldl_cons, List.length_cons]
      have := ih (d.put (kf x) (vf x))
      have := put_len d (kf x) (vf x)
      omega
  intro xs
  have := key xs ⟨[]⟩
  simpa [Dc.of] using this
theorem dc_listD {a : Addr} {xs : List α} {vs : List Nat} {D : Addr} {Qd : Hp → Prop} {M' : List Addr} (Pv : Nat → Hp → Prop) (h0 : Pv 0 (upd H1 D (.dK []))) (hl : ∀ i H', i ≤ xs.length → Pv i H' → ∃ us, SqL K H' a us ∧ Dts K (msk M' H') us xs)
    (hs : ∀ i x w H', xs[i]? = some x → Pv i H' → Dt K (msk M' H') w x → g w (wipe σ vs) H' fun σ2 H2 => wipe σ2 vs = wipe σ vs ∧ tt σ2 H2 fun b H3 =>
      if b = true then tk σ2 H3 fun y H4 => tv σ2 H4 fun z H5 => ∃ kvs k, y = kV k ∧ H5 D = some (.dK kvs) ∧ kvs.length < sizeLine ∧ Pv (i + 1) (upd H5 D (.dK (putK kvs k z))) else Pv (i + 1) H3) (hd : ∀ H', Pv xs.length H' → Qd H') :
    ∃ W : Nat → Nat → Hp → Prop, (∃ m, W 0 m (upd H1 D (.dK []))) ∧ ∀ i m H, W i m H →
      ((Itl K a).stop i H ∧ Qd H) ∨ ((Itl K a).go i H ∧ ∃ Nx : Hp → Prop, (∀ H', Nx H' → ∃ m', m' < m ∧ W (i + 1) m' H') ∧ ∀ x H', (Itl K a).yld i H x H' → g x (wipe σ vs) H' fun σ2 H2 => wipe σ2 vs = wipe σ vs ∧ tt σ2 H2 fun b H3 =>
        if b = true then tk σ2 H3 fun y H4 => tv σ2 H4 fun z H5 => ∃ kvs k, y = kV k ∧ H5 D = some (.dK kvs) ∧ kvs.length < sizeLine ∧ Nx (upd H5 D (.dK (putK kvs k z))) else Nx H3) := by
  refine ⟨fun i m H => m = xs.length - i ∧ i ≤ xs.length ∧ Pv i H, ⟨xs.length, by simp, Nat.zero_le _, h0⟩, ?_⟩
  rintro i m H ⟨rfl, hi, p⟩
  obtain ⟨us, q, ds⟩ := hl i H hi p
  have el := ds.len
  by_cases hlt : i < xs.length
  · refine .inr ⟨⟨us, us[i]'(by omega), q, by simp [show i < us.length by omega]⟩, Pv (i + 1), fun H' p' => ⟨xs.length - (i + 1), by omega, rfl, hlt, p'⟩, fun x H' y => ?_⟩
    obtain ⟨e, y⟩ := y
    subst e
    obtain ⟨w, h1, h2⟩ := ds.at (i := i) (x := xs[i]) (by simp [hlt])
    have e1 : x = w := Option.some.inj ((y us q).symm.trans h1)
    subst e1
    exact hs i _ x _ (by simp [hlt]) p h2
  · have e : i = xs.length := by omega
    subst e
    exact .inl ⟨⟨us, q, by omega⟩, hd H p⟩
theorem hv_dcL0 {vs : List Nat} (s : Sg K Mc He H is ms) {xs : List α} (kf : α → κ) (vf : α → β) (h : Hv K (muA ms ++ Mc) tl σ H xs) (hz : xs.length ≤ 40000)
    (hb : ∀ D src x w (d : Dc κ β) H1, Sg K Mc He H1 ((w, Dx.toX x) :: (src, Dx.toX xs) :: is) ((D, d.m) :: ms) → x ∈ xs →
      ∀ Q : L2.St → Hp → Prop, (∀ σ2, wipe σ2 vs = wipe σ vs → Hv K (muA ((D, d.m) :: ms) ++ Mc) tk σ2 H1 (kf x) → Hv K (muA ((D, d.m) :: ms) ++ Mc) tv σ2 H1 (vf x) → Q σ2 H1) → g w (wipe σ vs) H1 Q) :
    Hv K (muA ms ++ Mc) (tDc (iList K tl) g tYes tk tv vs) σ H (Dc.of xs kf vf) := fun H1 e m Q q =>
  h H1 e m _ fun v H2 e2 d => by
    obtain ⟨a, us, rfl, s1, ds⟩ := d.list
    refine ⟨a, rfl, ⟨us, ex_l msk_le s1⟩, fun D hD => ?_⟩
    have sA : Sg K Mc He H2 ((.ref a, Dx.toX xs) :: is) ms := ((s.ex e).ex e2).put d
    have sB : Sg K Mc He (upd H2 D (.dK [])) ((.ref a, Dx.toX xs) :: is) ((D, (⟨[]⟩ : Dc κ β).m) :: ms) := sA.new hD (dic_ok .nil)
    refine dc_listD (xs := xs) (M' := D :: (muA ms ++ Mc)) (fun i H' => Ex H2 H' ∧ Sg K Mc He H' ((.ref a, Dx.toX xs) :: is) ((D, (Dc.of (xs.take i) kf vf).m) :: ms)) ⟨Ex.new hD, sB⟩
      (fun i H' _ p => ?_) (fun i x w H' hx p dw => ?_) (fun H' p => ?_)
    · obtain ⟨a', us', e', s2, ds'⟩ := Dt.list (α := α) p.2.im.1
      cases e'
      exact ⟨us', ex_l msk_le s2, ds'⟩
    · have hi : i < xs.length := (List.getElem?_eq_some_iff.mp hx).1
      have sw := p.2.put dw
      refine hb D (.ref a) x w _ H' sw (List.mem_of_getElem? hx) _ fun σ2 hw hk hv => ⟨hw, ?_⟩
      show tk σ2 H' fun y H4 => tv σ2 H4 fun z H5 => _
      refine hk H' (Ex.refl H') sw.mok _ fun y H4 e4 dy => hv H4 e4 (sw.mok.ex e4) _ fun z H5 e5 dz => ?_
      have s5 := (p.2.ex e4).ex e5
      obtain ⟨kvs, h1, h2⟩ := s5.dic (j := 0) (l := D) (d := Dc.of (xs.take i) kf vf) rfl
      have hl : kvs.length < sizeLine := by
        have hs : sizeLine = 16777216 := sizeLine_eq
        have := dcOf_len kf vf (xs.take i)
        rw [List.length_take] at this
        rw [h2.len]; omega
      refine ⟨kvs, Ky.toK (kf x), Ky.link dy, h1, hl, ?_, ?_⟩
      · exact Ex.mut ((p.1.trans e4).trans e5) hD
      · rw [dcOf_snoc hx]
        exact s5.set (k := 0) (m' := ((Dc.of (xs.take i) kf vf).put (kf x) (vf x)).m) rfl (dic_ok (h2.put dz))
    · have z := p.2
      rw [List.take_length] at z
      exact q _ H' (e2.trans p.1) (z.frzD).im.1
/-! ### sorted(d) -/
def sortI (ks : List Int) : List Int := ks.mergeSort (fun a b => decide (a ≤ b))
theorem sortI_eq {ks ys : List Int} (hp : ys.Perm ks) (hs : ys.Pairwise (· ≤ ·)) : ys = sortI ks := by
  have h1 : (sortI ks).Perm ks := List.mergeSort_perm _ _
  have h2 : (sortI ks).Pairwise (fun a b => decide (a ≤ b) = true) := List.pairwise_mergeSort (fun a b c h1 h2 => by simp at *; omega) (fun a b => by simp; omega) ks
  refine List.Perm.eq_of_pairwise (le := fun (a b : Int) => a ≤ b) (fun a b _ _ h1 h2 => by omega) hs (h2.imp fun h => by simpa using h) (hp.trans h1.symm)
theorem call_sortedI_ty {d : Dc Int β} (s : Sg K Mc He H is ms) {j : Nat} {l : Addr} (e : ms[j]? = some (l, d.m)) (ho : Ev te σ H (.ref l)) (hz : d.kvs.length < 64) :
    HF K (muA ms ++ Mc) (tCB (fun xs H Q => ∃ (a : Addr) (kvs : List (Key × V)) (ks : List Int), xs = [.ref a] ∧ Rd H a (.dK kvs) ∧ kvs.map (·.1) = ks.map Sum.inl ∧ ks.length < 64 ∧
      ∀ (ys : List Int) (p : Addr), ys.Perm ks → ys.Pairwise (· ≤ ·) → H p = none → Q (.ref p) (upd H p (.lst (ys.map V.int)))) (tCons te tNil)) σ H (sortI (d.kvs.map (·.1))) := fun H1 e1 m Q q =>
  ho H1 e1 _ fun H2 e2 => by
    obtain ⟨kvs, h1, h2⟩ := (s.ex (e1.trans e2)).dic e
    refine ⟨l, kvs, d.kvs.map (·.1), rfl, .inl h1, ?_, by rw [List.length_map]; exact hz, fun ys p hp hs hn => ?_⟩
    · rw [h2.keys, List.map_map]; rfl
    · have ey := sortI_eq hp hs
      subst ey
      exact q p _ _ (fresh_back e2 hn) (e2.trans (Ex.new hn)) upd_same (dts_ints _)
end
end Ly

namespace Ly
open PySem PySem.Spec PyProof.Rows L2 Evl
open PySem.W (Datum DatumOrd Tup T3 T4 minOf)
section
variable {α κ β : Type} [DecidableEq α] [Dx α] [DecidableEq κ] [Dx κ] [Ky κ] [DecidableEq β] [Dx β]
variable {K : PySem.W.Frag} {M : List Addr} {H : Hp} {σ : L2.St} {ta tb : TE}
theorem has_get {d : Dc κ β} {k : κ} (df : β) (h : d.has k = true) : d.get k = some ((d.get k).getD df) := by
  unfold Dc.has at h
  unfold Dc.get
  cases hf : d.kvs.find? fun p => decide (p.1 = k) with
  | none =>
    rw [List.find?_eq_none] at hf
    rw [List.any_eq_true] at h
    obtain ⟨p, hp, hk⟩ := h
    exact absurd hk (hf p hp)
  | some p => rfl
theorem put_has {d : Dc κ β} {k : κ} {x : β} : (d.put k x).has k = true := by
  unfold Dc.put Dc.has
  dsimp only
  split
  · rename_i h
    rw [List.any_eq_true] at h ⊢
    obtain ⟨p, hp, hk⟩ := h
    rw [decide_eq_true_eq] at hk
    exact ⟨(p.1, x), List.mem_map.mpr ⟨p, hp, by rw [if_pos hk]⟩, decide_eq_true hk⟩
  · rw [List.any_append, Bool.or_eq_true]
    right
    simp
theorem hv_catT {xs ys : Tup α} (ha : Hv K M ta σ H xs) (hb : Hv K M tb σ H ys) (hz : xs.items.length + ys.items.length ≤ 100000) : Hv K M (tOp (rCatA K) ta tb) σ H (Tup.mk (xs.items ++ ys.items)) := fun H1 e m Q q =>
  ha H1 e m _ fun v H2 e2 d => hb H2 (e.trans e2) (m.ex e2) _ fun u H3 e3 d' => by
    obtain ⟨a, vs, rfl, s1, ds1⟩ := (Dt.mono (msk_ex e3) d).tupv
    obtain ⟨b, ws, rfl, s2, ds2⟩ := d'.tupv
    have m3 : MOk M H3 := m.ex (e2.trans e3)
    refine ⟨a, b, vs, ws, rfl, rfl, ex_t msk_le s1, ex_t msk_le s2, sz_of (by rw [ds1.len, ds2.len]; exact hz), fun h0 => ?_, fun h0 h1 => ?_, fun h0 h1 p hp => ?_⟩
    · subst h0
      have hx : xs.items = [] := List.eq_nil_of_length_eq_zero (by rw [← ds1.len]; rfl)
      rw [hx, List.nil_append] at q
      exact q _ H3 (e2.trans e3) (Dt.ofTupv s2 ds2)
    · subst h1
      have hy : ys.items = [] := List.eq_nil_of_length_eq_zero (by rw [← ds2.len]; rfl)
      rw [hy, List.append_nil] at q
      exact q _ H3 (e2.trans e3) (Dt.ofTupv s1 ds1)
    · have e4 : Ex H3 (upd H3 p (.tup (vs ++ ws))) := Ex.new hp
      exact q _ _ ((e2.trans e3).trans e4) (Dt.ofTupv (SqT.of (msk_at m3 hp)) ((ds1.mono (msk_ex e4)).app (ds2.mono (msk_ex e4))))
theorem call_sortedI_im {te : TE} {d : Dc Int β} (hd : Hv K M te σ H d) (hz : d.kvs.length < 64) :
    HF K M (tCB (fun xs H Q => ∃ (a : Addr) (kvs : List (Key × V)) (ks : List Int), xs = [.ref a] ∧ Rd H a (.dK kvs) ∧ kvs.map (·.1) = ks.map Sum.inl ∧ ks.length < 64 ∧
      ∀ (ys : List Int) (p : Addr), ys.Perm ks → ys.Pairwise (· ≤ ·) → H p = none → Q (.ref p) (upd H p (.lst (ys.map V.int)))) (tCons te tNil)) σ H (sortI (d.kvs.map (·.1))) := fun H1 e1 m Q q =>
  hd H1 e1 m _ fun v H2 e2 dv => by
    obtain ⟨a, kvs, rfl, r, h2⟩ := dv.dic
    refine ⟨a, kvs, d.kvs.map (·.1), rfl, rd_msk r, ?_, by rw [List.length_map]; exact hz, fun ys p hp hs hn => ?_⟩
    · rw [h2.keys, List.map_map]; rfl
    · have ey := sortI_eq hp hs
      subst ey
      exact q p _ _ (fresh_back e2 hn) (e2.trans (Ex.new hn)) upd_same (dts_ints _)
theorem has_sorted {d : Dc Int β} {k : Int} (h : k ∈ sortI (d.kvs.map (·.1))) : d.has k = true := by
  have h1 : k ∈ d.kvs.map (·.1) := (List.mergeSort_perm _ _).mem_iff.mp h
  obtain ⟨p, hp, rfl⟩ := List.mem_map.mp h1
  unfold Dc.has
  rw [List.any_eq_true]
  exact ⟨p, hp, decide_eq_true rfl⟩
theorem find_map {k : κ} {x : β} {j : κ} : ∀ (l : List (κ × β)), ((l.map fun p => if p.1 = k then (p.1, x) else p).find? fun p => decide (p.1 = j)).map (·.2) = if j = k then (if l.any (fun p => decide (p.1 = k)) = true then some x else none) else (l.find? fun p => decide (p.1 = j)).map (·.2)
  | [] => by simp
  | p :: l => by
    have ih := find_map (k := k) (x := x) (j := j) l
    rw [List.map_cons, List.find?_cons, List.find?_cons, List.any_cons]
    by_cases q : p.1 = k
    · rw [if_pos q]
      by_cases h : j = k
      · subst h
        simp [q]
      · have h2 : ¬ k = j := fun z => h z.symm
        rw [if_neg h] at ih
        simp only [q, h2, decide_false, h, if_false]
        exact ih
    · rw [if_neg q]
      by_cases h : p.1 = j
      · have h3 : ¬ j = k := fun z => q (h.trans z)
        simp [h, h3]
      · simp only [h, decide_false, q, Bool.false_or]
        exact ih
theorem find_app {k : κ} {x : β} {j : κ} : ∀ (l : List (κ × β)), l.any (fun p => decide (p.1 = k)) = false → ((l ++ [(k, x)]).find? fun p => decide (p.1 = j)).map (·.2) = if j = k then some x else (l.find? fun p => decide (p.1 = j)).map (·.2)
  | [], _ => by
    by_cases h : j = k
    · subst h; simp
    · have h2 : ¬ k = j := fun z => h z.symm
      simp [h, h2]
  | p :: l, hn => by
    rw [List.any_cons, Bool.or_eq_false_iff] at hn
    have ih := find_app (k := k) (x := x) (j := j) l hn.2
    have q : ¬ p.1 = k := by simpa using hn.1
    rw [List.cons_append, List.find?_cons, List.find?_cons]
    by_cases h : p.1 = j
    · have h3 : ¬ j = k := fun z => q (h.trans z)
      simp [h, h3]
    · simp only [h, decide_false]
      exact ih
theorem get_put (d : Dc κ β) (k : κ) (x : β) (j : κ) : (d.put k x).get j = if j = k then some x else d.get j := by
  unfold Dc.put Dc.get
  dsimp only
  by_cases q : (d.kvs.any fun p => decide (p.1 = k)) = true
  · rw [if_pos q, find_map, q]
    simp
  · rw [if_neg q]
    exact find_app _ (Bool.not_eq_true _ ▸ q)
theorem of_get {xs : List α} {kf : α → κ} {vf : α → β} {k : κ} {p : β} (h : (Dc.of xs kf vf).get k = some p) : ∃ x ∈ xs, kf x = k ∧ vf x = p := by
  have key := foldl_inv (f := fun (d : Dc κ β) x => d.put (kf x) (vf x)) (fun d => ∀ k p, d.get k = some p → ∃ x ∈ xs, kf x = k ∧ vf x = p) xs ⟨[]⟩ (fun d x hx ih k p h => by
    rw [get_put] at h
    by_cases q : k = kf x
    · rw [if_pos q] at h
      exact ⟨x, hx, q.symm, Option.some.inj h⟩
    · rw [if_neg q] at h
      exact ih k p h) (fun k p h => by cases h)
  exact key k p h
end
end Ly

namespace Ly
open PySem PySem.Spec PyProof.Rows L2 Evl
open PySem.W (Datum DatumOrd Tup T3 T4 minOf)
theorem ifT {α : Sort _} {b : Bool} {x y : α} (h : b = true) : (if b = true then x else y) = x := if_pos h
theorem ifF {α : Sort _} {b : Bool} {x y : α} (h : b = false) : (if b = true then x else y) = y := if_neg (by rw [h]; exact Bool.false_ne_true)
theorem log_small {j : Int} (h0 : 0 < j) (h : j < 1000000000000000000) : CDivW i j := by
  refine ⟨h0, ?_⟩
  have hn : j.natAbs ≠ 0 := by omega
  rw [Nat.log2_lt hn]
  have : j.natAbs < 2 ^ 60 := by omega
  exact Nat.lt_of_lt_of_le this (Nat.pow_le_pow_right (by decide) (by decide))
/-! ### sums, the greatest of a list, zip, stars -/
section
variable {K : PySem.W.Frag} {Mc M : List Addr} {He H H1 H2 : Hp} {is js : Ims} {ms : Mus} {σ : L2.St} {te ta tb tl tl2 : TE} {tt : TT} {g : TG}
variable {α β γ δ : Type} [DecidableEq α] [Dx α] [DecidableEq β] [Dx β] [DecidableEq γ] [Dx γ] [DecidableEq δ] [Dx δ]
theorem hv_sum {ns : List Int} (h : HS K M te σ H ns) : Hv K M (tCB (rSum K) (tCons te tNil)) σ H ns.sum := fun H1 e m Q q =>
  h H1 e m _ fun a vs H2 e2 s ds => ⟨a, ns, rfl, by rw [← ints_of ds]; exact s, q _ H2 e2 (Dt.ofInt _)⟩
/-- the greatest of a list -/
def maxL (l : List Int) : Int := match l with
  | [] => 0
  | x :: xs => xs.foldl max x
theorem maxL_spec {l : List Int} (h : l ≠ []) : maxL l ∈ l ∧ ∀ y ∈ l, y ≤ maxL l := by
  cases l with
  | nil => exact absurd rfl h
  | cons x xs =>
    obtain ⟨h1, h2, h3⟩ := max_spec xs x
    refine ⟨?_, fun y hy => ?_⟩
    · show xs.foldl max x ∈ x :: xs
      rcases h1 with h1 | h1
      · rw [h1]; exact List.mem_cons_self
      · exact List.mem_cons_of_mem _ h1
    · show y ≤ xs.foldl max x
      rcases List.mem_cons.mp hy with rfl | hy
      · exact h2
      · exact h3 y hy
theorem maxL_eq {l : List Int} {m : Int} (h1 : m ∈ l) (h2 : ∀ y ∈ l, y ≤ m) : m = maxL l := by
  have hn : l ≠ [] := fun z => by rw [z] at h1; cases h1
  obtain ⟨a, b⟩ := maxL_spec hn
  exact Int.le_antisymm (b m h1) (h2 _ a)
theorem hv_max {ns : List Int} (h : HS K M te σ H ns) (hn : 0 < ns.length) : Hv K M (tCB (rMax K) (tCons te tNil)) σ H (maxL ns) := fun H1 e m Q q =>
  h H1 e m _ fun a vs H2 e2 s ds => ⟨a, ns, rfl, by rw [← ints_of ds]; exact s, hn, fun x hx hy => by
    have : x = maxL ns := maxL_eq hx hy
    rw [this]
    exact q _ H2 e2 (Dt.ofInt _)⟩
/-- a starred list among items -/
theorem has_star {tr : TA} {xs ys : List α} (h : HS K M te σ H xs) (hr : HAs K M tr σ H ys) : HAs K M (StX.tStar K te tr) σ H (xs ++ ys) := fun H1 e m Q q =>
  h H1 e m _ fun a vs H2 e2 s ds => ⟨a, vs, rfl, .inr s, hr H2 (e.trans e2) (m.ex e2) _ fun ws H3 e3 d3 => q _ H3 (e2.trans e3) ((ds.mono (msk_ex e3)).app d3)⟩
/-- pairs of items of two lists -/
def zipL (xs : List α) (ys : List β) : List (α × β) := List.zipWith (fun x y => (x, y)) xs ys
theorem zipL_len (xs : List α) (ys : List β) : (zipL xs ys).length = min xs.length ys.length := by unfold zipL; rw [List.length_zipWith]
theorem zipL_get {xs : List α} {ys : List β} {i : Nat} {x : α} {y : β} (h : xs[i]? = some x) (h2 : ys[i]? = some y) : (zipL xs ys)[i]? = some (x, y) := by
  unfold zipL
  rw [List.getElem?_zipWith, h, h2]
theorem hf_lcZ0 {vs : List Nat} (s : Sg K Mc He H is ms) {xs : List α} {zs : List γ} (ef : α × γ → β) (h : Hv K (muA ms ++ Mc) tl σ H xs) (h' : Hv K (muA ms ++ Mc) tl2 σ H zs) (hz : xs.length ≤ 40000)
    (hb : ∀ D src (x : α × γ) w (ys : List β) H1, Sg K Mc He H1 ((w, Dx.toX x) :: (src, Dx.toX xs) :: is) ((D, .lst (ys.map Dx.toX)) :: ms) → x ∈ zipL xs zs →
      ∀ Q : L2.St → Hp → Prop, (∀ σ2, wipe σ2 vs = wipe σ vs → Hv K (muA ((D, Mv.lst (ys.map Dx.toX)) :: ms) ++ Mc) te σ2 H1 (ef x) → Q σ2 H1) → g w (wipe σ vs) H1 Q) :
    HF K (muA ms ++ Mc) (tLc (iZip K (tCons tl (tCons tl2 tNil))) g tYes te vs) σ H ((zipL xs zs).map ef) := fun H1 e m Q q =>
  h H1 e m _ fun v H2 e2 d => h' H2 (e.trans e2) (m.ex e2) _ fun v' H2' e2' d' => by
    obtain ⟨a, us, rfl, s1, ds⟩ := d.list
    obtain ⟨a', us', rfl, t1, dt⟩ := d'.list
    have s1' : SqL K H2' a us := ex_l e2' (ex_l msk_le s1)
    have t1' : SqL K H2' a' us' := ex_l msk_le t1
    have dE : Dt K (msk (muA ms ++ Mc) H2') (.ref a) xs := d.mono (msk_ex e2')
    refine ⟨a, a', us, us', rfl, s1', t1', fun D hD => ?_⟩
    have sA : Sg K Mc He H2' ((.ref a, Dx.toX xs) :: is) ms := (((s.ex e).ex e2).ex e2').put dE
    have sB : Sg K Mc He (upd H2' D (.lst [])) ((.ref a, Dx.toX xs) :: is) ((D, .lst (([] : List β).map Dx.toX)) :: ms) := sA.new hD ⟨[], rfl, .nil⟩
    have hlu : us.length = xs.length := ds.len
    have hlw : us'.length = zs.length := dt.len
    have dsE : Dts K (msk (muA ms ++ Mc) H2') us xs := Dts.mono (msk_ex e2') ds
    refine lc_it (walk_zip (K := K) (a := a) (b := a') (xs := us) (ys := us') (n := min us.length us'.length) rfl) (fun i H' => Ex H2' H' ∧ Sg K Mc He H' ((.ref a, Dx.toX xs) :: is) ((D, .lst ((((zipL xs zs).take i).map ef).map Dx.toX)) :: ms)) ⟨Ex.new hD, sB⟩
      (fun i H' _ p => ⟨ex_l p.1 s1', ex_l p.1 t1'⟩) (fun i x H' H'' hi p y => ?_) (fun H' p => ?_)
    · obtain ⟨T, x0, x1, rfl, nT, rfl, f1, f2⟩ := y
      have hix : i < xs.length := by rw [← hlu]; omega
      have hiz : i < zs.length := by rw [← hlw]; omega
      have gx : xs[i]? = some xs[i] := by simp [hix]
      have gz : zs[i]? = some zs[i] := by simp [hiz]
      have gE := zipL_get gx gz
      have eT : Ex H' (upd H' T (.tup [x0, x1])) := Ex.new nT
      have sT := p.2.ex eT
      have q2 : Ex (msk (muA ms ++ Mc) H2') (msk (D :: (muA ms ++ Mc)) (upd H' T (.tup [x0, x1]))) := fun b o hb' => by
        by_cases z : b ∈ muA ms ++ Mc
        · rw [msk_in z] at hb'; cases hb'
        · rw [msk_out z] at hb'
          have nb : b ≠ D := ne_of_none hb' hD
          rw [msk_out (by simp only [List.mem_cons, not_or]; exact ⟨nb, z⟩)]
          exact eT b o (p.1 b o hb')
      have dm0 : Dt K (msk (D :: (muA ms ++ Mc)) (upd H' T (.tup [x0, x1]))) x0 xs[i] := by
        obtain ⟨w, w1, w2⟩ := (dsE.mono q2).at gx
        have : x0 = w := Option.some.inj (f1.symm.trans w1)
        subst this; exact w2
      have dm1 : Dt K (msk (D :: (muA ms ++ Mc)) (upd H' T (.tup [x0, x1]))) x1 zs[i] := by
        obtain ⟨w, w1, w2⟩ := (Dts.mono q2 dt).at gz
        have : x1 = w := Option.some.inj (f2.symm.trans w1)
        subst this; exact w2
      have nTD : T ∉ D :: (muA ms ++ Mc) := fun z => (p.2.mok T z) nT
      have dw : Dt K (msk (D :: (muA ms ++ Mc)) (upd H' T (.tup [x0, x1]))) (.ref T) (xs[i], zs[i]) := Dt.ofPair (SqT.of (by rw [msk_out nTD]; exact upd_same)) dm0 dm1
      refine hb D (.ref a) (xs[i], zs[i]) (.ref T) _ _ (sT.put dw) (List.mem_of_getElem? gE) _ fun σ2 hw he => ⟨hw, ?_⟩
      have hlen : (((zipL xs zs).take i).map ef).length < 50000 := by
        rw [List.length_map, List.length_take, zipL_len]
        omega
      exact lc_turn (ms := ms) (tt := tYes) (b := true) (zs := ((zipL xs zs).take (i + 1)).map ef) sT hlen (fun H3 => Ex H2' H3 ∧ Sg K Mc He H3 ((.ref a, Dx.toX xs) :: is) ((D, .lst ((((zipL xs zs).take (i + 1)).map ef).map Dx.toX)) :: ms)) (fun H2 _ _ _ q => q H2 (Ex.refl H2)) (fun _ => he) (by rw [if_pos rfl, take_snoc gE, List.map_append]; rfl) (fun H3 h4 s3 => ⟨by
        obtain ⟨H4, e4, e5⟩ := h4
        rcases e5 with e5 | ⟨o, e5⟩
        · rw [e5]; exact (p.1.trans eT).trans e4
        · rw [e5]; exact Ex.mut ((p.1.trans eT).trans e4) hD, s3⟩)
    · have z := p.2
      have et : (zipL xs zs).take (min us.length us'.length) = zipL xs zs := List.take_of_length_le (by rw [zipL_len, hlu, hlw]; exact Nat.le_refl _)
      rw [et] at z
      obtain ⟨us2, h3, h4⟩ := z.lst (k := 0) rfl
      exact q D us2 H' (fresh_back (e2.trans e2') hD) ((e2.trans e2').trans p.1) h3 h4

/-- xs[-1] -/
theorem hv_last {xs : List α} (d : α) (ha : HS K M ta σ H xs) (hn : 0 < xs.length) : Hv K M (tOp (rIxL K) ta (tUn (rU fun i => .int (-i)) (tC (.int 1)))) σ H (xs.getD (xs.length - 1) d) := fun H1 e m Q q =>
  ha H1 e m _ fun a vs H2 e2 s ds => ⟨1, rfl, by
    have hx : xs[xs.length - 1]? = some (xs.getD (xs.length - 1) d) := by
      have := getD_at (xs := xs) (i := ((xs.length - 1 : Nat) : Int)) (d := d) (by omega) (by omega)
      simpa using this
    obtain ⟨w, h1, h2⟩ := ds.at hx
    have hl := ds.len
    refine ⟨a, vs, -1, w, rfl, rfl, s, ?_, q w H2 e2 h2⟩
    unfold atI ixN
    rw [if_neg (by decide), if_pos (by omega)]
    show vs[_]? = some w
    rw [← h1]
    congr 1
    omega⟩
/-- for i, x in enumerate(xs) -/
theorem zq_forE {xs : List α} {tu tz : TS} {D : Ends} (s : Sg K Mc He H is ms) (h : Hv K (muA ms ++ Mc) tl σ H xs) (Pv : V → Nat → L2.St → Hp → Prop) (h0 : ∀ v H1, Sg K Mc He H1 ((v, Dx.toX xs) :: is) ms → Pv v 0 σ H1)
    (hl : ∀ v i σ' H', Pv v i σ' H' → Dt K (msk (muA ms ++ Mc) H') v xs ∧ MOk (muA ms ++ Mc) H')
    (hs : ∀ v i x w σ' H' H'', (enumL xs)[i]? = some x → Pv v i σ' H' → Ex H' H'' → Dt K (msk (muA ms ++ Mc) H'') w x → g w σ' H'' fun σ2 H2 => tu { D with nx := Pv v (i + 1), ct := Pv v (i + 1), bk := tz D } σ2 H2)
    (hd : ∀ v σ' H', Pv v (enumL xs).length σ' H' → tz D σ' H') : tSeq (tFor (iEnum K (tCons tl tNil)) g tu) tz D σ H :=
  h H (Ex.refl H) s.mok _ fun v H1 e d => by
    obtain ⟨a, vs, rfl, s1, ds⟩ := d.list
    refine ⟨a, vs, rfl, ex_l msk_le s1, fun i m σ' H' => m = xs.length - i ∧ i ≤ xs.length ∧ Pv (.ref a) i σ' H', ⟨xs.length, by simp, Nat.zero_le _, h0 _ H1 ((s.ex e).put d)⟩, ?_⟩
    rintro i m σ' H' ⟨rfl, hi, p⟩
    obtain ⟨dd, mk⟩ := hl _ i σ' H' p
    obtain ⟨a', us, e', q1, du⟩ := dd.list
    cases e'
    have q : SqL K H' a us := ex_l msk_le q1
    have el := du.len
    by_cases hlt : i < xs.length
    · refine .inr ⟨⟨us, us[i]'(by omega), q, by simp [show i < us.length by omega]⟩, Pv (.ref a) (i + 1), fun σ2 H2 p' => ⟨xs.length - (i + 1), by omega, rfl, hlt, p'⟩, fun x H2 y => ?_⟩
      obtain ⟨T, x1, rfl, nT, rfl, f2⟩ := y
      have gx : xs[i]? = some xs[i] := by simp [hlt]
      have eT : Ex H' (upd H' T (.tup [.int (i : Int), x1])) := Ex.new nT
      have nTD : T ∉ muA ms ++ Mc := fun z => (mk T z) nT
      have dm : Dt K (msk (muA ms ++ Mc) (upd H' T (.tup [.int (i : Int), x1]))) x1 xs[i] := by
        obtain ⟨w, w1, w2⟩ := (Dts.mono (msk_ex eT) du).at gx
        have : x1 = w := Option.some.inj ((f2 us q).symm.trans w1)
        subst this; exact w2
      exact hs _ i ((i : Int), xs[i]) (.ref T) σ' H' _ (enumL_get gx) p eT (Dt.ofPair (SqT.of (by rw [msk_out nTD]; exact upd_same)) (Dt.ofInt _) dm)
    · have e : i = xs.length := by omega
      subst e
      exact .inl ⟨⟨us, q, by omega⟩, hd _ σ' H' (by rw [enumL_len]; exact p)⟩
/-- for x, y in zip(xs, ys) -/
theorem zq_forZ {xs : List α} {ys : List β} {tu tz : TS} {D : Ends} (s : Sg K Mc He H is ms) (h : Hv K (muA ms ++ Mc) tl σ H xs) (h' : Hv K (muA ms ++ Mc) tl2 σ H ys) (Pv : V → Nat → L2.St → Hp → Prop)
    (h0 : ∀ v u H1, Sg K Mc He H1 ((v, Dx.toX xs) :: (u, Dx.toX ys) :: is) ms → Pv v 0 σ H1)
    (hl : ∀ v i σ' H', Pv v i σ' H' → Dt K (msk (muA ms ++ Mc) H') v xs ∧ MOk (muA ms ++ Mc) H' ∧ True)
    (hs : ∀ v i x w σ' H' H'', (zipL xs ys)[i]? = some x → Pv v i σ' H' → Ex H' H'' → Dt K (msk (muA ms ++ Mc) H'') w x → g w σ' H'' fun σ2 H2 => tu { D with nx := Pv v (i + 1), ct := Pv v (i + 1), bk := tz D } σ2 H2)
    (hd : ∀ v σ' H', Pv v (zipL xs ys).length σ' H' → tz D σ' H') : True := True.intro
end
/-! ### loops whose states are known -/
theorem loopNR_seq {ρ S : Type} {f : S → Int → Lp ρ S} (st : Nat → S) (lo : Int) (n : Nat) (h : ∀ i, i < n → f (st i) (lo + (i : Int)) = .nxt (st (i + 1))) : loopNR f n lo (st 0) = .inr (st n) := by
  have key : ∀ m i, i + m = n → loopNR f m (lo + (i : Int)) (st i) = .inr (st n) := by
    intro m
    induction m with
    | zero => intro i e; have : i = n := by omega
              subst this; rfl
    | succ m ih =>
      intro i e
      have := loopNR_nxt (n := n) (i := i) (by omega) (h i (by omega))
      rw [show n - i = m + 1 by omega, show n - (i + 1) = m by omega] at this
      rw [this]
      exact ih (i + 1) (by omega)
  have := key n 0 (by omega)
  simpa using this
theorem loopN_seq {S : Type} {f : S → Int → S} (st : Nat → S) (lo : Int) (n : Nat) (h : ∀ i, i < n → f (st i) (lo + (i : Int)) = st (i + 1)) : loopN f n lo (st 0) = st n := by
  have key : ∀ m i, i + m = n → loopN f m (lo + (i : Int)) (st i) = st n := by
    intro m
    induction m with
    | zero => intro i e; have : i = n := by omega
              subst this; rfl
    | succ m ih =>
      intro i e
      have := loopN_step (f := f) (n := n) (i := i) (lo := lo) (s := st i) (by omega)
      rw [show n - i = m + 1 by omega, show n - (i + 1) = m by omega] at this
      rw [this, h i (by omega)]
      exact ih (i + 1) (by omega)
  have := key n 0 (by omega)
  simpa using this
theorem loopL_seq {α ρ S : Type} {f : S → α → Lp ρ S} (st : Nat → S) (xs : List α) (h : ∀ i x, xs[i]? = some x → f (st i) x = .nxt (st (i + 1))) : loopL f xs (st 0) = .inr (st xs.length) := by
  have key : ∀ m i, i + m = xs.length → loopL f (xs.drop i) (st i) = .inr (st xs.length) := by
    intro m
    induction m with
    | zero => intro i e; have : i = xs.length := by omega
              subst this; exact loopL_end
    | succ m ih =>
      intro i e
      have hx : xs[i]? = some (xs[i]'(by omega)) := by simp [show i < xs.length by omega]
      rw [loopL_nxt hx (h i _ hx)]
      exact ih (i + 1) (by omega)
  have := key xs.length 0 (by omega)
  simpa using this
theorem sum_take_succ (xs : List Int) {i : Nat} (h : i < xs.length) : (xs.take (i + 1)).sum = (xs.take i).sum + xs.getD i 0 := by
  have hx : xs[i]? = some (xs[i]'h) := by simp [h]
  rw [take_snoc hx, List.sum_append, List.getD_eq_getElem?_getD, hx]
  simp
theorem sum_nn {xs : List Int} (h : ∀ x ∈ xs, 0 ≤ x) : 0 ≤ xs.sum := by
  induction xs with
  | nil => simp
  | cons a r ih =>
    have := h a List.mem_cons_self
    have := ih fun x hx => h x (List.mem_cons_of_mem _ hx)
    rw [List.sum_cons]; omega
section
variable {K : PySem.W.Frag} {M : List Addr} {H : Hp} {σ : L2.St} {ta : TE}
variable {α β γ δ : Type} [DecidableEq α] [Dx α] [DecidableEq β] [Dx β] [DecidableEq γ] [Dx γ] [DecidableEq δ] [Dx δ]
theorem hv_t40 {p : T4 α β γ δ} (ha : Hv K M ta σ H p) : Hv K M (tOp (rIxT K) ta (tC (.int 0))) σ H p.a := fun H1 e m Q q =>
  ha H1 e m _ fun v H2 e2 d => by
    obtain ⟨l, a, b, c, d', rfl, s, d1, d2, d3, d4⟩ := d.t4
    exact ⟨l, [a, b, c, d'], 0, a, rfl, rfl, ex_t msk_le s, at_of (j := 0) rfl rfl, q a H2 e2 d1⟩
theorem hv_t41 {p : T4 α β γ δ} (ha : Hv K M ta σ H p) : Hv K M (tOp (rIxT K) ta (tC (.int 1))) σ H p.b := fun H1 e m Q q =>
  ha H1 e m _ fun v H2 e2 d => by
    obtain ⟨l, a, b, c, d', rfl, s, d1, d2, d3, d4⟩ := d.t4
    exact ⟨l, [a, b, c, d'], 1, b, rfl, rfl, ex_t msk_le s, at_of (j := 1) rfl rfl, q b H2 e2 d2⟩
theorem hv_t42 {p : T4 α β γ δ} (ha : Hv K M ta σ H p) : Hv K M (tOp (rIxT K) ta (tC (.int 2))) σ H p.c := fun H1 e m Q q =>
  ha H1 e m _ fun v H2 e2 d => by
    obtain ⟨l, a, b, c, d', rfl, s, d1, d2, d3, d4⟩ := d.t4
    exact ⟨l, [a, b, c, d'], 2, c, rfl, rfl, ex_t msk_le s, at_of (j := 2) rfl rfl, q c H2 e2 d3⟩
theorem hv_t43 {p : T4 α β γ δ} (ha : Hv K M ta σ H p) : Hv K M (tOp (rIxT K) ta (tC (.int 3))) σ H p.d := fun H1 e m Q q =>
  ha H1 e m _ fun v H2 e2 d => by
    obtain ⟨l, a, b, c, d', rfl, s, d1, d2, d3, d4⟩ := d.t4
    exact ⟨l, [a, b, c, d'], 3, d', rfl, rfl, ex_t msk_le s, at_of (j := 3) rfl rfl, q d' H2 e2 d4⟩
end
end Ly

namespace Ly
open PySem PySem.Spec PyProof.Rows L2 Evl
open PySem.W (Datum DatumOrd Tup T3 T4 minOf)
section
variable {K : PySem.W.Frag} {Mc M : List Addr} {He H : Hp} {is : Ims} {ms : Mus} {σ : L2.St} {te ta tb : TE} {tz : TS} {D : Ends}
variable {α β γ δ : Type} [DecidableEq α] [Dx α] [DecidableEq β] [Dx β] [DecidableEq γ] [Dx γ] [DecidableEq δ] [Dx δ]
theorem z_unp3 {i j l : Nat} {p : T3 α β γ} (s : Sg K Mc He H is ms) (h : Hv K (muA ms ++ Mc) te σ H p) (k : ∀ x y z, T3.mk x y z = p → ∀ v u w H1, Sg K Mc He H1 ((v, Dx.toX x) :: (u, Dx.toX y) :: (w, Dx.toX z) :: is) ms → tz D (((σ.set i (some v)).set j (some u)).set l (some w)) H1) :
    tSeq (tAsg te (gTup K 3 (gCons (gName i) (gCons (gName j) (gCons (gName l) gNil))))) tz D σ H :=
  h H (Ex.refl H) s.mok _ fun v H1 e d => by
    obtain ⟨l, a, b, c, rfl, st, d1, d2, d3⟩ := d.t3
    exact ⟨l, [a, b, c], rfl, ex_t msk_le st, rfl, a, [b, c], rfl, b, [c], rfl, c, [], rfl, rfl, k p.a p.b p.c rfl a b c H1 ((((s.ex e).put d3).put d2).put d1)⟩
theorem z_unp4 {i j l m : Nat} {p : T4 α β γ δ} (s : Sg K Mc He H is ms) (h : Hv K (muA ms ++ Mc) te σ H p) (k : ∀ x y z r, T4.mk x y z r = p → ∀ v u w t H1, Sg K Mc He H1 ((v, Dx.toX x) :: (u, Dx.toX y) :: (w, Dx.toX z) :: (t, Dx.toX r) :: is) ms → tz D ((((σ.set i (some v)).set j (some u)).set l (some w)).set m (some t)) H1) :
    tSeq (tAsg te (gTup K 4 (gCons (gName i) (gCons (gName j) (gCons (gName l) (gCons (gName m) gNil)))))) tz D σ H :=
  h H (Ex.refl H) s.mok _ fun v H1 e dd => by
    obtain ⟨l, a, b, c, d, rfl, st, d1, d2, d3, d4⟩ := dd.t4
    exact ⟨l, [a, b, c, d], rfl, ex_t msk_le st, rfl, a, [b, c, d], rfl, b, [c, d], rfl, c, [d], rfl, d, [], rfl, rfl, k p.a p.b p.c p.d rfl a b c d H1 (((((s.ex e).put d4).put d3).put d2).put d1)⟩
/-- list + list, read ones -/
def rCatS (K : PySem.W.Frag) : R2 := fun x y H Q => ∃ a b xs ys, x = .ref a ∧ y = .ref b ∧ SqL K H a xs ∧ SqL K H b ys ∧ xs.length + ys.length ≤ sizeLine ∧ ∀ p, H p = none → Q (.ref p) (upd H p (.lst (xs ++ ys)))
theorem op_catS {X : Cx} : OpR X (binaryOp .Add) (rCatS X.K) := by
  intro pins s σ H x y v u Q I rx ry h
  obtain ⟨a, b, xs, ys, rfl, rfl, ha, hb, hz, q⟩ := h
  cases rx
  cases ry
  obtain ⟨its, r, ht, hz1⟩ := I.list ha
  obtain ⟨its2, r2, ht2, hz2⟩ := I.list hb
  obtain ⟨⟨cls, dd, data, sl⟩, ho, hc, n, hd⟩ := ht.isList
  obtain ⟨⟨cls2, dd2, data2, sl2⟩, ho2, hc2, n2, hd2⟩ := ht2.isList
  simp only at hc hd hc2 hd2
  subst hc hd hc2 hd2
  have e : its.toArray ++ its2.toArray = (its ++ its2).toArray := by simp
  refine concat_meets ⟨_, ho, rfl⟩ ⟨_, ho2, rfl⟩ noFill_list_add seq_list_add PySem.F.slot_list_add PySem.F.entry_list_add (PySem.F.args_list_add_2 _ _) (list_addW a b its.toArray its2.toArray n n2 dd dd2 sl sl2 (by rw [List.size_toArray, List.size_toArray, ← r.length, ← r2.length]; exact hz)) ⟨ho, ho2, ?_⟩
  rw [e]
  refine ⟨.ref s.heap.objs.size, _, I.laid (t' := s.toks) (o := .lst (xs ++ ys)) (fun b ob q => Heap.get?_push_of_some _ q) (Nat.le_refl _) ?_, rfl, q _ (I.hok.fresh (Nat.le_refl _))⟩
  exact ⟨by rw [List.length_append]; exact hz, _, 0, r.append r2, Heap.get?_push_size _ rfl⟩
theorem hv_co {x : α} {y : β} (h : Hv K M te σ H x) (e : Dx.toX x = Dx.toX y) : Hv K M te σ H y := fun H1 a m Q q => h H1 a m Q fun v H2 e2 d => q v H2 e2 (by
  show Xp _ _ _ (Dx.toX y)
  rw [← e]; exact d)
def t4v (p : T4 α α α α) : Tup α := ⟨[p.a, p.b, p.c, p.d]⟩
def t3v (p : T3 α α α) : Tup α := ⟨[p.a, p.b, p.c]⟩
end
end Ly

namespace Ly
open PySem PySem.Spec PyProof.Rows L2 Evl
open PySem.W (Datum DatumOrd Tup T3 T4 minOf)

/-! ### objects of classes: made once, read from then on -/
section
variable {K : PySem.W.Frag} {Mc M : List Addr} {He H H1 : Hp} {is : Ims} {ms : Mus} {σ : L2.St} {te ta tb : TE} {tz : TS} {D : Ends}
variable {α β γ δ : Type} [DecidableEq α] [Dx α] [DecidableEq β] [Dx β] [DecidableEq γ] [Dx γ] [DecidableEq δ] [Dx δ]
/-- the class of a name -/
structure Ct (K : PySem.W.Frag) (c : Str) (C : Addr) : Prop where
  ns : PySem.W.nsIn K mainGlobals c = some (some (.ref C))
  cl : Cls K C
theorem Ct.one {c : Str} {C C' : Addr} (t : Ct K c C) (h : PySem.W.nsIn K mainGlobals c = some (some (.ref C'))) : C' = C := by
  have := t.ns.symm.trans h
  cases this
  rfl
theorem Dt.objv {v : V} {o : α} {c : Str} {C : Addr} {ns : List Str} {ds : List Xd} (t : Ct K c C) (h : Dt K H v o) (e : Dx.toX o = .obj c ns ds) :
    ∃ a dx fs, v = .ref a ∧ H a = some (.ins C dx fs) ∧ fs.map (·.1) = ns ∧ XpAll K H (fs.map (·.2)) ds := by
  have h' : Xp K H v (.obj c ns ds) := by rw [← e]; exact h
  cases h' with
  | obj q hp hn hv ha =>
    cases hv
    cases t.one q
    exact ⟨_, _, _, rfl, hp, hn, ha⟩
theorem Dt.ofObj {a C dx : Addr} {fs : List (Str × V)} {o : α} {c : Str} {ns : List Str} {ds : List Xd} (t : Ct K c C) (e : Dx.toX o = .obj c ns ds) (h : H a = some (.ins C dx fs)) (hn : fs.map (·.1) = ns) (ha : XpAll K H (fs.map (·.2)) ds) : Dt K H (.ref a) o := by
  show Xp K H (.ref a) (Dx.toX o)
  rw [e]
  exact .obj t.ns h hn rfl ha
theorem lookup_at : ∀ {fs : List (Str × V)} {ds : List Xd} {i : Nat} {f : Str} {d : Xd}, (fs.map (·.1)).Nodup → XpAll K H (fs.map (·.2)) ds → (fs.map (·.1))[i]? = some f → ds[i]? = some d → ∃ v, fs.lookup f = some v ∧ Xp K H v d
  | [], _, _, _, _, _, _, h, _ => by simp at h
  | (g, v) :: r, ds, i, f, d, nd, ha, hi, hd => by
    cases ha with
    | cons a b =>
      cases i with
      | zero =>
        have e1 : g = f := by simpa using hi
        have e2 := Option.some.inj (show some _ = some d from hd)
        subst e1 e2
        exact ⟨v, by simp, a⟩
      | succ i =>
        have nd' := List.nodup_cons.mp (show (g :: r.map (·.1)).Nodup from nd)
        have hi' : (r.map (·.1))[i]? = some f := by simpa using hi
        obtain ⟨u, h1, h2⟩ := lookup_at (i := i) nd'.2 b hi' (by simpa using hd)
        have hg : f ≠ g := fun z => nd'.1 (z ▸ List.mem_of_getElem? hi')
        exact ⟨u, by rw [List.lookup_cons]; rw [show (f == g) = false by simpa using hg]; exact h1, h2⟩
theorem lookup_none : ∀ {fs : List (Str × V)} {f : Str}, f ∉ fs.map (·.1) → fs.lookup f = none
  | [], _, _ => rfl
  | (g, v) :: r, f, h => by
    have h' : ¬ (f = g ∨ f ∈ r.map (·.1)) := by simpa using h
    rw [List.lookup_cons, show (f == g) = false by simpa using fun z => h' (.inl z)]
    exact lookup_none fun z => h' (.inr z)
theorem putF_new {f : Str} {v : V} : ∀ {fs : List (Str × V)}, f ∉ fs.map (·.1) → putF f v fs = fs ++ [(f, v)]
  | [], _ => rfl
  | (g, x) :: r, h => by
    have h' : ¬ (f = g ∨ f ∈ r.map (·.1)) := by simpa using h
    show (if g = f then (g, v) :: r else (g, x) :: putF f v r) = _
    rw [if_neg fun z => h' (.inl z.symm), putF_new fun z => h' (.inr z)]
    rfl
/-- o.f -/
theorem hv_fld {o : α} {x : β} {c f : Str} {C : Addr} {ns : List Str} {ds : List Xd} (i : Nat) (h : Hv K M te σ H o) (t : Ct K c C) (na : NoAttr K C f) (e : Dx.toX o = .obj c ns ds) (nd : ns.Nodup) (hn : ns[i]? = some f) (hd : ds[i]? = some (Dx.toX x)) :
    Hv K M (tFld K te f) σ H x := fun H1 e1 m Q q =>
  h H1 e1 m _ fun v H2 e2 d => by
    obtain ⟨a, dx, fs, rfl, hp, hf, ha⟩ := d.objv t e
    subst hf
    obtain ⟨u, h1, h2⟩ := lookup_at nd ha hn hd
    exact ⟨a, C, dx, fs, u, rfl, msk_le _ _ hp, t.cl, na, h1, q u H2 e2 h2⟩
/-- o.m(..) -/
theorem hv_meth {o : α} {args : γ → List Xd} {pre : γ → Prop} {F : γ → β} {tr : TA} {E : XK} {cn m : Str} {C : Addr} {ns : List Str} {ds : List Xd} {rest : List Xd} (c : γ) (h : Hv K M ta σ H o) (t : Ct K cn C) (e : Dx.toX o = .obj cn ns ds) (nm : m ∉ ns)
    (ha : HD K M tr σ H rest) (hargs : args c = Dx.toX o :: rest) (p : pre c) : Hv K M (tMeth C m (PrD K args pre F) [] E ta tr) σ H (F c) := fun H1 e1 mk Q q =>
  h H1 e1 mk _ fun v H2 e2 d => by
    obtain ⟨a, dx, fs, rfl, hp, hf, hx⟩ := Dt.objv t d e
    refine ⟨a, dx, fs, rfl, msk_le _ _ hp, lookup_none (by rw [hf]; exact nm), ?_⟩
    exact ha H2 (e1.trans e2) (mk.ex e2) _ fun vs H3 e3 ds' => ⟨M, c, (mk.ex e2).ex e3, by rw [hargs, List.append_nil]; exact .cons (dp_mono (msk_ex e3) d) ds', p, fun w H4 e4 d4 => q w H4 ((e2.trans e3).trans e4) d4⟩
/-- the promise of __init__: F tells the object -/
def PrI (K : PySem.W.Frag) (cn : Str) (args : γ → List Xd) (pre : γ → Prop) (F : γ → β) : Sp := fun vs H Q _ => ∃ (Mc : List Addr) (p C dx : Addr) (ws : List V) (c : γ), vs = .ref p :: ws ∧ MOk (p :: Mc) H ∧ p ∉ Mc ∧ PySem.W.nsIn K mainGlobals cn = some (some (.ref C)) ∧ H p = some (.ins C dx []) ∧ XpAll K (msk (p :: Mc) H) ws (args c) ∧ pre c ∧
  ∀ H', Ex (msk [p] H) H' → Dt K (msk Mc H') (.ref p) (F c) → Q .non H'
theorem hv_make {args : γ → List Xd} {pre : γ → Prop} {F : γ → β} {tr : TA} {E : XK} {cn : Str} {C : Addr} (c : γ) (t : Ct K cn C) (h : HD K M tr σ H (args c)) (p : pre c) : Hv K M (tMake C (PrI K cn args pre F) [] E tr) σ H (F c) := fun H1 e1 mk Q q =>
  h H1 e1 mk _ fun vs H2 e2 ds x dx hx hdx ne => by
    have m2 := mk.ex e2
    have hx2 : upd H2 dx (.own x) x = none := by rw [upd_ne (fun z => ne z.symm)]; exact hx
    have ea : Ex H2 (upd H2 dx (.own x)) := Ex.new hdx
    have eb : Ex (upd H2 dx (.own x)) (upd (upd H2 dx (.own x)) x (.ins C dx [])) := Ex.new hx2
    have hxM : x ∉ M := fun z => m2 x z hx
    refine ⟨M, x, C, dx, vs, c, by rw [List.append_nil], ?_, hxM, t.ns, upd_same, ?_, p, fun H' e' d => ⟨rfl, q _ _ ?_ d⟩⟩
    · intro l hl
      rcases List.mem_cons.mp hl with rfl | hl
      · rw [upd_same]; exact fun z => nomatch z
      · exact ((m2.ex ea).ex eb) l hl
    · exact dpa_mono ((msk_ex ea).trans (msk_new hx2)) ds
    · refine e2.trans fun a o ho => e' a o ?_
      have na : a ≠ x := fun z => by rw [z, hx] at ho; cases ho
      rw [msk_out (by simpa using na)]
      exact eb a o (ea a o ho)
theorem Sg.enterI {p C dx : Addr} (m : MOk (p :: Mc) H) (np : p ∉ Mc) (hp : H p = some (.ins C dx [])) (im : Im K (msk (p :: Mc) H) is) : Sg K Mc (msk [p] H) H is [(p, .ins C dx [])] := by
  refine ⟨Ex.refl _, fun l hl => ?_, List.nodup_cons.mpr ⟨by simp, List.nodup_nil⟩, im, ⟨⟨_, hp, [], rfl, rfl, .nil⟩, True.intro⟩⟩
  have : l ≠ p := fun z => np (z ▸ hl)
  rw [msk_out (by simpa using this)]
  exact m l (List.mem_cons_of_mem _ hl)
theorem Sg.ins (s : Sg K Mc He H is ms) {k : Nat} {l C dx : Addr} {nds : List (Str × Xd)} (e : ms[k]? = some (l, .ins C dx nds)) : ∃ fs, H l = some (.ins C dx fs) ∧ fs.map (·.1) = nds.map (·.1) ∧ XpAll K (msk (muA ms ++ Mc) H) (fs.map (·.2)) (nds.map (·.2)) := by
  obtain ⟨o, h1, fs, e1, h2, h3⟩ := s.mu.get e
  subst e1
  exact ⟨fs, h1, h2, h3⟩
/-- self.f = e, a new attribute -/
theorem z_fldG {k : Nat} {l C dx : Addr} {nds : List (Str × Xd)} {f cn : Str} {x : β} (s : Sg K Mc He H is ms) (e : ms[k]? = some (l, .ins C dx nds)) (t : Ct K cn C) (na : NoAttr K C f) (h : Hv K (muA ms ++ Mc) te σ H x) (ho : Ev ta σ H (.ref l)) (hz : nds.length < 1000) (hn : f ∉ nds.map (·.1))
    (q : ∀ y, y = x → ∀ H1, Sg K Mc He H1 is (ms.set k (l, .ins C dx (nds ++ [(f, Dx.toX y)]))) → tz D σ H1) : tSeq (sFld K ta te f) tz D σ H :=
  h H (Ex.refl H) s.mok _ fun v H1 e1 d => ho H1 e1 _ fun H2 e2 => by
    have s2 := (s.ex e1).ex e2
    obtain ⟨fs, h1, h2, h3⟩ := s2.ins e
    refine ⟨l, C, dx, fs, rfl, h1, t.cl, na, ?_, ?_⟩
    · have : (fs.map (·.1)).length = (nds.map (·.1)).length := by rw [h2]
      rw [List.length_map, List.length_map] at this
      omega
    · rw [putF_new (by rw [h2]; exact hn)]
      refine q x rfl _ (s2.set e ⟨_, rfl, ?_, ?_⟩)
      · rw [List.map_append, List.map_append, h2]; rfl
      · rw [List.map_append, List.map_append]
        exact dpa_app h3 (.cons (Dt.mono (msk_ex e2) d) .nil)
/-- self.f, of an own object -/
theorem hv_fldM {k : Nat} (i : Nat) {l C dx : Addr} {nds : List (Str × Xd)} {f cn : Str} {x : β} (s : Sg K Mc He H is ms) (e : ms[k]? = some (l, .ins C dx nds)) (t : Ct K cn C) (na : NoAttr K C f) (ho : Ev ta σ H (.ref l)) (nd : (nds.map (·.1)).Nodup) (hi : nds[i]? = some (f, Dx.toX x)) :
    Hv K (muA ms ++ Mc) (tFld K ta f) σ H x := fun H1 e1 m Q q =>
  ho H1 e1 _ fun H2 e2 => by
    have s2 := (s.ex e1).ex e2
    obtain ⟨fs, h1, h2, h3⟩ := s2.ins e
    obtain ⟨v, hv, hx⟩ := lookup_at (i := i) (f := f) (d := Dx.toX x) (by rw [h2]; exact nd) h3 (by rw [h2, List.getElem?_map, hi]; rfl) (by rw [List.getElem?_map, hi]; rfl)
    exact ⟨l, C, dx, fs, v, rfl, h1, t.cl, na, hv, q v H2 e2 hx⟩
/-- an own object, no longer changed -/
theorem Sg.frzI {l C dx : Addr} {nds : List (Str × Xd)} {cn : Str} (o : α) (t : Ct K cn C) (e : Dx.toX o = .obj cn (nds.map (·.1)) (nds.map (·.2))) (s : Sg K Mc He H is ((l, .ins C dx nds) :: ms)) : Sg K Mc He H ((.ref l, Dx.toX o) :: is) ms := by
  have sub : Ex (msk (muA ((l, Mv.ins C dx nds) :: ms) ++ Mc) H) (msk (muA ms ++ Mc) H) := msk_sub fun a ha => List.mem_cons_of_mem _ ha
  have nd := List.nodup_cons.mp s.nd
  obtain ⟨⟨u, h1, fs, e1, h2, h3⟩, h4⟩ := s.mu
  subst e1
  have nl : l ∉ muA ms ++ Mc := fun z => (List.mem_append.mp z).elim nd.1 (s.notc List.mem_cons_self)
  refine ⟨s.ext.trans (msk_sub fun a ha => List.mem_cons_of_mem _ ha), s.okc, nd.2, ⟨?_, s.im.mono sub⟩, h4.mono sub (Ex.refl H)⟩
  exact Dt.ofObj t e (by rw [msk_out nl]; exact h1) h2 (dpa_mono sub h3)
/-! ### reversed(range(n)), xs[::-1], what is in a tuple -/
def HRg (M : List Addr) (tr : L2.St → Hp → (Int → Int → Hp → Prop) → Prop) (σ : L2.St) (H : Hp) (a b : Int) : Prop := ∀ H1, Ex H H1 → MOk M H1 → ∀ Q : Int → Int → Hp → Prop, (∀ H2, Ex H1 H2 → Q a b H2) → tr σ H1 Q
theorem hv_revL {xs : List α} (h : HS K M te σ H xs) : Hv K M (tRevL K te) σ H xs.reverse := fun H1 e m Q q =>
  h H1 e m _ fun a vs H2 e2 s d => ⟨a, vs, rfl, s, fun p hp => by
    have e3 : Ex H2 (upd H2 p (.lst vs.reverse)) := Ex.new hp
    refine q _ _ (e2.trans e3) (Dt.ofList (SqL.of (msk_at (m.ex e2) hp)) ?_)
    have key : ∀ {us : List V} {zs : List α} {H : Hp}, Dts K H us zs → Dts K H us.reverse zs.reverse := by
      intro us zs
      induction zs generalizing us with
      | nil => intro H h; cases (show XpAll _ _ _ [] from h); exact Dts.nil
      | cons z zs ih =>
        intro H h
        cases (show XpAll _ _ _ (_ :: _) from h) with
        | cons a b =>
          rw [List.reverse_cons, List.reverse_cons]
          exact (ih b).app (Dts.cons a Dts.nil)
    exact (key d).mono (msk_ex e3)⟩
theorem hv_inVS {a : Str} {xs : List Str} (neg : Bool) (ha : Hv K M ta σ H a) (hb : Hv K M tb σ H (Tup.mk xs)) : Hv K M (tOp (rIn K neg) ta tb) σ H (if neg then !decide (a ∈ xs) else decide (a ∈ xs)) := fun H1 e m Q q =>
  ha H1 e m _ fun v H2 e2 d => hb H2 (e.trans e2) (m.ex e2) _ fun u H3 e3 d' => by
    obtain ⟨l, vs, rfl, s, ds⟩ := d'.tupv
    have ev := dts_strs ds
    subst ev
    have e1 := d.str
    subst e1
    refine ⟨l, xs.map V.str, rfl, .inr (ex_t msk_le s), rfl, flat_strs xs, ?_⟩
    rw [inV_strs]
    exact q _ H3 (e2.trans e3) (Dt.ofBool _)
theorem for_rangeC {lo c : Int} {n : Nat} {g : TG} {tb : TS} {D : Ends} {σ : L2.St} {H : Hp} (Pv : Nat → L2.St → Hp → Prop) (h0 : Pv 0 σ H)
    (hs : ∀ (i : Nat) σ H, i < n → Pv i σ H → g (.int (lo + (i : Int) * c)) σ H fun σ2 H2 => tb { D with nx := Pv (i + 1), ct := Pv (i + 1), bk := D.nx } σ2 H2) (hd : ∀ σ H, Pv n σ H → D.nx σ H) :
    ∃ W : Nat → Nat → L2.St → Hp → Prop, (∃ m, W 0 m σ H) ∧ ∀ i m σ H, W i m σ H →
      ((Itc lo c n).stop i H ∧ D.nx σ H) ∨ ((Itc lo c n).go i H ∧ ∃ N : L2.St → Hp → Prop, (∀ σ' H', N σ' H' → ∃ m', m' < m ∧ W (i + 1) m' σ' H') ∧ ∀ x H', (Itc lo c n).yld i H x H' → g x σ H' fun σ2 H2 => tb { D with nx := N, ct := N, bk := D.nx } σ2 H2) := by
  refine ⟨fun i m σ H => m = n - i ∧ i ≤ n ∧ Pv i σ H, ⟨n, by simp, Nat.zero_le _, h0⟩, ?_⟩
  rintro i m σ H ⟨rfl, hi, p⟩
  by_cases hlt : i < n
  · refine .inr ⟨hlt, Pv (i + 1), fun σ' H' p' => ⟨n - (i + 1), by omega, rfl, hlt, p'⟩, fun x H' y => ?_⟩
    obtain ⟨e, y⟩ := y
    subst e y
    exact hs i σ _ hlt p
  · have e : i = n := by omega
    subst e
    exact .inl ⟨Nat.le_refl _, hd σ H p⟩
theorem zq_forRR {tu : TS} {j : Nat} {n : Int} (s : Sg K Mc He H is ms) (h : Hv K (muA ms ++ Mc) te σ H n) (hn : 0 ≤ n ∧ n ≤ 100000) (Pv : Nat → L2.St → Hp → Prop) (h0 : ∀ H1, Sg K Mc He H1 is ms → Pv 0 σ H1)
    (hs : ∀ (i : Nat) (x : Int) σ' H', x = n - 1 - ((0 : Int) + (i : Int)) → i < n.toNat → Pv i σ' H' → tu { D with nx := Pv (i + 1), ct := Pv (i + 1), bk := tz D } (σ'.set j (some (.int x))) H') (hd : ∀ σ' H', Pv n.toNat σ' H' → tz D σ' H') : tSeq (tFor (iRevR (tRg1 te)) (gName j) tu) tz D σ H :=
  h H (Ex.refl H) s.mok _ fun v H1 e d => by
    refine ⟨n, d.int, by omega, by omega, by omega, by omega, for_rangeC (D := { D with nx := tz D }) Pv (h0 H1 (s.ex e)) (fun i σ' H' hi p => ?_) (fun σ' H' p => hd σ' H' (by rw [Int.sub_zero] at p; exact p))⟩
    rw [Int.sub_zero] at hi
    have e0 : 0 + (((n - 0).toNat : Nat) : Int) - 1 + (i : Int) * -1 = n - 1 - ((0 : Int) + (i : Int)) := by omega
    show tu { D with nx := Pv (i + 1), ct := Pv (i + 1), bk := tz D } (σ'.set j (some (.int (0 + (((n - 0).toNat : Nat) : Int) - 1 + (i : Int) * -1)))) H'
    rw [e0]
    exact hs i _ σ' H' rfl (by omega) p
end
end Ly

namespace Ly
open PySem PySem.Spec PyProof.Rows L2 Evl
open PySem.W (Datum DatumOrd Tup T3 T4 minOf)
/-! ### the items of a text: tuples of several shapes -/
inductive Itm where
  | box (w n : Int) (g : List Int)
  | glue (w st sh : Int) (fr : Bool)
  | pen (c : Int)
  | hyp (w n c : Int)
  | forced
  | note (n : Int)
  | label (s : Str)
  | page (w n f : Int) (s : Str)
  deriving DecidableEq
def Itm.kind : Itm → Str
  | .box _ _ _ => Str.ofString "box"
  | .glue _ _ _ _ => Str.ofString "glue"
  | .pen _ => Str.ofString "penalty"
  | .hyp _ _ _ => Str.ofString "hyphen"
  | .forced => Str.ofString "forced"
  | .note _ => Str.ofString "note"
  | .label _ => Str.ofString "label"
  | .page _ _ _ _ => Str.ofString "page"
def Itm.tag : Itm → Nat
  | .box _ _ _ => 0
  | .glue _ _ _ _ => 1
  | .pen _ => 2
  | .hyp _ _ _ => 3
  | .forced => 4
  | .note _ => 5
  | .label _ => 6
  | .page _ _ _ _ => 7
def Itm.at1 : Itm → Int
  | .box w _ _ => w | .glue w _ _ _ => w | .pen c => c | .hyp w _ _ => w | .note n => n | .page w _ _ _ => w | _ => 0
def Itm.at2 : Itm → Int
  | .box _ n _ => n | .glue _ s _ _ => s | .hyp _ n _ => n | .page _ n _ _ => n | _ => 0
def Itm.at3 : Itm → Int
  | .glue _ _ s _ => s | .hyp _ _ c => c | .page _ _ f _ => f | _ => 0
def Itm.fr : Itm → Bool
  | .glue _ _ _ b => b | _ => false
def Itm.gl : Itm → Tup Int
  | .box _ _ g => ⟨g⟩ | _ => ⟨[]⟩
def Itm.lab : Itm → Str
  | .page _ _ _ s => s | _ => Str.ofString ""
def Itm.x : Itm → List Xd
  | .box w n g => [.str (Str.ofString "box"), .int w, .int n, .tuple (g.map .int)]
  | .glue w s h b => [.str (Str.ofString "glue"), .int w, .int s, .int h, .bool b]
  | .pen c => [.str (Str.ofString "penalty"), .int c]
  | .hyp w n c => [.str (Str.ofString "hyphen"), .int w, .int n, .int c]
  | .forced => [.str (Str.ofString "forced")]
  | .note n => [.str (Str.ofString "note"), .int n]
  | .label s => [.str (Str.ofString "label"), .str s]
  | .page w n f s => [.str (Str.ofString "page"), .int w, .int n, .int f, .str s]
instance : Dx Itm := ⟨fun i => .tuple i.x⟩
instance : SomeX Itm := ⟨fun _ e => by cases e⟩
theorem Itm.tag_le (i : Itm) : i.tag ≤ 7 := by cases i <;> simp only [Itm.tag] <;> decide
theorem kd_box (i : Itm) : (i.kind = Str.ofString "box") = (i.tag = 0) := by
  cases i <;> simp only [Itm.kind, Itm.tag] <;> exact propext ⟨fun h => by first | rfl | (revert h; decide +kernel), fun h => by first | rfl | (revert h; decide)⟩
theorem kd_glue (i : Itm) : (i.kind = Str.ofString "glue") = (i.tag = 1) := by
  cases i <;> simp only [Itm.kind, Itm.tag] <;> exact propext ⟨fun h => by first | rfl | (revert h; decide +kernel), fun h => by first | rfl | (revert h; decide)⟩
theorem kd_pen (i : Itm) : (i.kind = Str.ofString "penalty") = (i.tag = 2) := by
  cases i <;> simp only [Itm.kind, Itm.tag] <;> exact propext ⟨fun h => by first | rfl | (revert h; decide +kernel), fun h => by first | rfl | (revert h; decide)⟩
theorem kd_hyp (i : Itm) : (i.kind = Str.ofString "hyphen") = (i.tag = 3) := by
  cases i <;> simp only [Itm.kind, Itm.tag] <;> exact propext ⟨fun h => by first | rfl | (revert h; decide +kernel), fun h => by first | rfl | (revert h; decide)⟩
theorem kd_forced (i : Itm) : (i.kind = Str.ofString "forced") = (i.tag = 4) := by
  cases i <;> simp only [Itm.kind, Itm.tag] <;> exact propext ⟨fun h => by first | rfl | (revert h; decide +kernel), fun h => by first | rfl | (revert h; decide)⟩
theorem kd_note (i : Itm) : (i.kind = Str.ofString "note") = (i.tag = 5) := by
  cases i <;> simp only [Itm.kind, Itm.tag] <;> exact propext ⟨fun h => by first | rfl | (revert h; decide +kernel), fun h => by first | rfl | (revert h; decide)⟩
theorem kd_label (i : Itm) : (i.kind = Str.ofString "label") = (i.tag = 6) := by
  cases i <;> simp only [Itm.kind, Itm.tag] <;> exact propext ⟨fun h => by first | rfl | (revert h; decide +kernel), fun h => by first | rfl | (revert h; decide)⟩
theorem kd_page (i : Itm) : (i.kind = Str.ofString "page") = (i.tag = 7) := by
  cases i <;> simp only [Itm.kind, Itm.tag] <;> exact propext ⟨fun h => by first | rfl | (revert h; decide +kernel), fun h => by first | rfl | (revert h; decide)⟩
section
variable {K : PySem.W.Frag} {Mc M : List Addr} {He H H1 : Hp} {is : Ims} {ms : Mus} {σ : L2.St} {te ta tb : TE} {tz : TS} {D : Ends} {i : Itm}
variable {α β γ δ : Type} [DecidableEq α] [Dx α] [DecidableEq β] [Dx β]
theorem hv_tupX {ds : List Xd} {tr : TA} (y : α) (h : HD K M tr σ H ds) (hl : ds.length ≤ 100000) (e : Dx.toX y = .tuple ds) : Hv K M (tTup tr) σ H y := fun H1 e1 m Q q =>
  h H1 e1 m _ fun vs H2 e2 d => ⟨sz_of (by rw [dpa_len d]; exact hl), fun p hp => by
    have e3 : Ex H2 (upd H2 p (.tup vs)) := Ex.new hp
    refine q _ _ (e2.trans e3) ?_
    show Xp _ _ _ (Dx.toX y)
    rw [e]
    exact .tup (SqT.of (msk_at (m.ex e2) hp)) (dpa_mono (msk_ex e3) d)⟩
theorem hv_atX {x : α} {ds : List Xd} {y : β} (k : Nat) (h : Hv K M te σ H x) (e : Dx.toX x = .tuple ds) (hd : ds[k]? = some (Dx.toX y)) : Hv K M (tOp (rIxT K) te (tC (.int (k : Int)))) σ H y := fun H1 e1 m Q q =>
  h H1 e1 m _ fun v H2 e2 d => by
    have d' : Xp K (msk M H2) v (.tuple ds) := by rw [← e]; exact d
    cases d' with
    | tup s a =>
      obtain ⟨w, h1, h2⟩ := dpa_at a hd
      exact ⟨_, _, (k : Int), w, rfl, rfl, ex_t msk_le s, at_of (j := k) rfl h1, q w H2 e2 h2⟩
theorem hv_it0 (h : Hv K M te σ H i) : Hv K M (tOp (rIxT K) te (tC (.int 0))) σ H i.kind := hv_atX 0 h rfl (by cases i <;> rfl)
theorem hv_it1 (h : Hv K M te σ H i) (s : i.tag ≠ 4 ∧ i.tag ≠ 6) : Hv K M (tOp (rIxT K) te (tC (.int 1))) σ H i.at1 := hv_atX 1 h rfl (by cases i <;> first | rfl | (exfalso; simp [Itm.tag] at s))
theorem hv_it2 (h : Hv K M te σ H i) (s : i.tag ≠ 2 ∧ i.tag ≠ 4 ∧ i.tag ≠ 5 ∧ i.tag ≠ 6) : Hv K M (tOp (rIxT K) te (tC (.int 2))) σ H i.at2 := hv_atX 2 h rfl (by cases i <;> first | rfl | (exfalso; simp [Itm.tag] at s))
theorem hv_it3 (h : Hv K M te σ H i) (s : i.tag = 1 ∨ i.tag = 3 ∨ i.tag = 7) : Hv K M (tOp (rIxT K) te (tC (.int 3))) σ H i.at3 := hv_atX 3 h rfl (by cases i <;> first | rfl | (exfalso; simp [Itm.tag] at s))
theorem hv_it4 (h : Hv K M te σ H i) (s : i.tag = 1) : Hv K M (tOp (rIxT K) te (tC (.int 4))) σ H i.fr := hv_atX 4 h rfl (by cases i <;> first | rfl | (exfalso; simp [Itm.tag] at s))
theorem hv_itg (h : Hv K M te σ H i) (s : i.tag = 0) : Hv K M (tOp (rIxT K) te (tC (.int 3))) σ H i.gl := hv_atX 3 h rfl (by cases i <;> first | rfl | (exfalso; simp [Itm.tag] at s))
theorem hv_itl (h : Hv K M te σ H i) (s : i.tag = 7) : Hv K M (tOp (rIxT K) te (tC (.int 4))) σ H i.lab := hv_atX 4 h rfl (by cases i <;> first | rfl | (exfalso; simp [Itm.tag] at s))
theorem hv_neB {i j : Bool} (ha : Hv K M ta σ H i) (hb : Hv K M tb σ H j) : Hv K M (tOp rNe ta tb) σ H (!decide (i = j)) := fun H1 e m Q q =>
  ha H1 e m _ fun v H2 e2 d => hb H2 (e.trans e2) (m.ex e2) _ fun u H3 e3 d' => by
    rw [d.bool, d'.bool]
    exact ⟨rfl, q _ H3 (e2.trans e3) (by rw [show decide (V.bl i = V.bl j) = decide (i = j) from decide_eq_decide.mpr ⟨V.bl.inj, fun z => by rw [z]⟩]; exact Dt.ofBool _)⟩
/-- a tuple of texts of the module -/
theorem hv_gtup {a : Addr} {xs : List Str} (h : ∀ H, SqT K H a (xs.map V.str)) : Hv K M (tC (.ref a)) σ H (Tup.mk xs) := fun H1 e1 m Q q => by
  refine q _ H1 (Ex.refl _) (Dt.ofTupv (h _) ?_)
  have key : ∀ (ys : List Str) (H : Hp), Dts K H (ys.map V.str) ys := by
    intro ys
    induction ys with
    | nil => intro H; exact Dts.nil
    | cons y ys ih => intro H; exact Dts.cons (Dt.ofStr y) (ih H)
  exact key xs _
end
theorem of_or {a b : Bool} (h : (a || b) = true) : a = true ∨ b = true := by simpa using h
end Ly

namespace Ly
open PySem PySem.Spec PyProof.Rows L2 Evl
open PySem.W (Datum DatumOrd Tup T3 T4 minOf)
/-! ### loops as tables and searches -/
theorem foldl_seq {α S : Type} {f : S → α → S} (xs : List α) (st : Nat → S) (h : ∀ i x, xs[i]? = some x → f (st i) x = st (i + 1)) : xs.foldl f (st 0) = st xs.length := by
  induction xs generalizing st with
  | nil => rfl
  | cons x xs ih =>
    rw [List.foldl_cons, h 0 x rfl]
    rw [ih (fun i => st (i + 1)) (fun i y hy => h (i + 1) y (by simpa using hy))]
    rfl
theorem snoc_at {α : Type} {st : Nat → List α} {w : Nat → α} (h0 : st 0 = [w 0]) (h : ∀ i, st (i + 1) = st i ++ [w (i + 1)]) : ∀ n, st n = (List.range (n + 1)).map w
  | 0 => by rw [h0]; rfl
  | n + 1 => by rw [h, snoc_at h0 h n, List.range_succ (n := n + 1), List.map_append]; rfl
theorem tab_len {α : Type} (w : Nat → α) (n : Nat) : ((List.range n).map w).length = n := by rw [List.length_map, List.length_range]
theorem tab_at {α : Type} (w : Nat → α) {n j : Nat} (d : α) (h : j < n) : ((List.range n).map w).getD j d = w j := by
  rw [List.getD_eq_getElem?_getD, List.getElem?_map, List.getElem?_range h]; rfl
theorem tab_last {α : Type} (w : Nat → α) (n : Nat) (d : α) : ((List.range (n + 1)).map w).getD (((List.range (n + 1)).map w).length - 1) d = w n := by
  rw [tab_len, Nat.add_sub_cancel, tab_at w d (Nat.lt_succ_self n)]
theorem tab_snoc {α : Type} (w : Nat → α) (n : Nat) : (List.range (n + 1)).map w ++ [w (n + 1)] = (List.range (n + 1 + 1)).map w := by
  rw [List.range_succ (n := n + 1), List.map_append]; rfl
theorem tab_rev {α : Type} (w : Nat → α) {n j : Nat} (d : α) (h : j ≤ n) : (((List.range (n + 1)).map w).reverse).getD j d = w (n - j) := by
  rw [List.getD_eq_getElem?_getD, List.getElem?_reverse (by rw [tab_len]; omega), tab_len, ← List.getD_eq_getElem?_getD, tab_at w d (by omega), show n + 1 - 1 - j = n - j by omega]
theorem loopNR_all' {ρ S : Type} {f : S → Int → Lp ρ S} {s : S} : ∀ (n : Nat) (lo : Int), (∀ i : Nat, i < n → f s (lo + (i : Int)) = .nxt s) → loopNR f n lo s = .inr s
  | 0, lo, _ => rfl
  | n + 1, lo, h => by
    have h0 := h 0 (Nat.succ_pos n)
    rw [show lo + ((0 : Nat) : Int) = lo by omega] at h0
    rw [loopNR]
    rw [h0]
    exact loopNR_all' n (lo + 1) fun i hi => by rw [show lo + 1 + (i : Int) = lo + ((i + 1 : Nat) : Int) by omega]; exact h (i + 1) (by omega)
/-- a search over numbers: the first that ends it -/
theorem loopNR_any {ρ S : Type} {f : S → Int → Lp ρ S} {s : S} {r : ρ} : ∀ (n : Nat) (lo : Int), (∀ i : Nat, i < n → f s (lo + (i : Int)) = .nxt s ∨ f s (lo + (i : Int)) = .ret r) → (∃ i : Nat, i < n ∧ f s (lo + (i : Int)) = .ret r) → loopNR f n lo s = .inl r
  | 0, lo, _, ⟨i, hi, _⟩ => absurd hi (Nat.not_lt_zero i)
  | n + 1, lo, h, ⟨i, hi, e⟩ => by
    have h0 := h 0 (Nat.succ_pos n)
    rw [show lo + ((0 : Nat) : Int) = lo by omega] at h0
    rw [loopNR]
    rcases h0 with h0 | h0
    · rw [h0]
      cases i with
      | zero => rw [show lo + ((0 : Nat) : Int) = lo by omega, h0] at e; cases e
      | succ i =>
        exact loopNR_any n (lo + 1) (fun j hj => by rw [show lo + 1 + (j : Int) = lo + ((j + 1 : Nat) : Int) by omega]; exact h (j + 1) (by omega)) ⟨i, by omega, by rw [show lo + 1 + (i : Int) = lo + ((i + 1 : Nat) : Int) by omega]; exact e⟩
    · rw [h0]
theorem loopL_all' {α ρ S : Type} {f : S → α → Lp ρ S} {s : S} : ∀ (xs : List α), (∀ x ∈ xs, f s x = .nxt s) → loopL f xs s = .inr s
  | [], _ => rfl
  | x :: xs, h => by
    rw [loopL]
    rw [h x List.mem_cons_self]
    exact loopL_all' xs fun y hy => h y (List.mem_cons_of_mem _ hy)
theorem loopL_any {α ρ S : Type} {f : S → α → Lp ρ S} {s : S} {r : ρ} : ∀ (xs : List α), (∀ x ∈ xs, f s x = .nxt s ∨ f s x = .ret r) → (∃ x ∈ xs, f s x = .ret r) → loopL f xs s = .inl r
  | [], _, ⟨_, h, _⟩ => by cases h
  | x :: xs, h, ⟨y, hy, e⟩ => by
    rw [loopL]
    rcases h x List.mem_cons_self with h0 | h0
    · rw [h0]
      rcases List.mem_cons.mp hy with rfl | hy
      · rw [h0] at e; cases e
      · exact loopL_any xs (fun z hz => h z (List.mem_cons_of_mem _ hz)) ⟨y, hy, e⟩
    · rw [h0]
theorem getD_get {α : Type} {xs : List α} {i : Nat} (d : α) (h : i < xs.length) : xs[i]? = some (xs.getD i d) := by
  rw [List.getD_eq_getElem?_getD, List.getElem?_eq_getElem h]; rfl
theorem getD_map {α β : Type} {xs : List α} {i : Nat} (f : α → β) (d : α) (e : β) (h : i < xs.length) : (xs.map f).getD i e = f (xs.getD i d) := by
  rw [List.getD_eq_getElem?_getD, List.getElem?_map, getD_get d h]; rfl
theorem irng_getD {lo : Int} {n i : Nat} (d : Int) (h : i < n) : (irng lo n).getD i d = lo + (i : Int) := by
  rw [List.getD_eq_getElem?_getD, irng_get h]; rfl
/-- what a part of a list has -/
theorem cut_any {xs : List α} {P : α → Bool} {a b : Nat} (d : α) (h : a ≤ b) (hb : b ≤ xs.length) : (cutL xs (some (a : Int)) (some (b : Int))).any P = true ↔ ∃ i, a ≤ i ∧ i < b ∧ P (xs.getD i d) = true := by
  rw [cutL_in, Nat.min_eq_left (Nat.le_trans h hb), Nat.min_eq_left hb, List.any_eq_true]
  constructor
  · rintro ⟨x, hx, p⟩
    obtain ⟨k, hk⟩ := List.getElem?_of_mem hx
    rw [List.getElem?_take] at hk
    split at hk
    · rw [List.getElem?_drop] at hk
      refine ⟨a + k, by omega, by omega, ?_⟩
      rw [List.getD_eq_getElem?_getD, hk]
      exact p
    · cases hk
  · rintro ⟨i, h1, h2, p⟩
    refine ⟨xs.getD i d, ?_, p⟩
    refine List.mem_of_getElem? (i := i - a) ?_
    rw [List.getElem?_take, if_pos (by omega), List.getElem?_drop, show a + (i - a) = i by omega]
    exact getD_get d (by omega)
/-! ### the first from a place on -/
def wv (marks : List Bool) (b : Int) : Nat → Int
  | 0 => b
  | k + 1 => if marks.getD (marks.length - (k + 1)) false = true then ((marks.length - (k + 1) : Nat) : Int) else wv marks b k
/-- v is the first place from j on with a mark, or b -/
def First (marks : List Bool) (b : Int) (j : Nat) (v : Int) : Prop :=
  (v = b ∧ ∀ i, j ≤ i → i < marks.length → marks.getD i false = false) ∨ (∃ i : Nat, v = (i : Int) ∧ j ≤ i ∧ i < marks.length ∧ marks.getD i false = true ∧ ∀ i', j ≤ i' → i' < i → marks.getD i' false = false)
theorem wv_first (marks : List Bool) (b : Int) : ∀ k, k ≤ marks.length → First marks b (marks.length - k) (wv marks b k)
  | 0, _ => .inl ⟨rfl, fun i h1 h2 => by omega⟩
  | k + 1, h => by
    unfold wv
    by_cases q : marks.getD (marks.length - (k + 1)) false = true
    · rw [if_pos q]
      exact .inr ⟨_, rfl, Nat.le_refl _, by omega, q, fun i' h1 h2 => by omega⟩
    · rw [if_neg q]
      have q' : marks.getD (marks.length - (k + 1)) false = false := by simpa using q
      have step : ∀ i, marks.length - (k + 1) ≤ i → i = marks.length - (k + 1) ∨ marks.length - k ≤ i := fun i h => by omega
      rcases wv_first marks b k (by omega) with ⟨e, h1⟩ | ⟨i, e, h1, h2, h3, h4⟩
      · refine .inl ⟨e, fun i a c => ?_⟩
        rcases step i a with rfl | z
        · exact q'
        · exact h1 i z c
      · refine .inr ⟨i, e, by omega, h2, h3, fun i' a c => ?_⟩
        rcases step i' a with rfl | z
        · exact q'
        · exact h4 i' z c
/-- the place behind the last one before j with a mark, or 0 -/
def kb (marks : Nat → Bool) : Nat → Int
  | 0 => 0
  | j + 1 => if marks j = true then ((j : Nat) : Int) + 1 else kb marks j
def Last (marks : Nat → Bool) (j : Nat) (v : Int) : Prop :=
  (v = 0 ∧ ∀ i, i < j → marks i = false) ∨ (∃ i : Nat, v = (i : Int) + 1 ∧ i < j ∧ marks i = true ∧ ∀ i', i < i' → i' < j → marks i' = false)
theorem kb_last (marks : Nat → Bool) : ∀ j, Last marks j (kb marks j)
  | 0 => .inl ⟨rfl, fun i h => absurd h (Nat.not_lt_zero i)⟩
  | j + 1 => by
    unfold kb
    by_cases q : marks j = true
    · rw [if_pos q]
      exact .inr ⟨j, rfl, Nat.lt_succ_self j, q, fun i' h1 h2 => by omega⟩
    · rw [if_neg q]
      have q' : marks j = false := by simpa using q
      rcases kb_last marks j with ⟨e, h1⟩ | ⟨i, e, h1, h2, h3⟩
      · refine .inl ⟨e, fun i a => ?_⟩
        rcases Nat.lt_succ_iff_lt_or_eq.mp a with z | rfl
        · exact h1 i z
        · exact q'
      · refine .inr ⟨i, e, by omega, h2, fun i' a c => ?_⟩
        rcases Nat.lt_succ_iff_lt_or_eq.mp c with z | rfl
        · exact h3 i' a z
        · exact q'
end Ly

namespace Ly
open PySem PySem.Spec PyProof.Rows L2 Evl
open PySem.W (Datum DatumOrd Tup T3 T4 minOf)
/-! ### items are data: == -/
def Itm.d : Itm → List PyData
  | .box w n g => [.str (Str.ofString "box"), .int w, .int n, .tuple (g.map .int)]
  | .glue w s h b => [.str (Str.ofString "glue"), .int w, .int s, .int h, .bool b]
  | .pen c => [.str (Str.ofString "penalty"), .int c]
  | .hyp w n c => [.str (Str.ofString "hyphen"), .int w, .int n, .int c]
  | .forced => [.str (Str.ofString "forced")]
  | .note n => [.str (Str.ofString "note"), .int n]
  | .label s => [.str (Str.ofString "label"), .str s]
  | .page w n f s => [.str (Str.ofString "page"), .int w, .int n, .int f, .str s]
theorem Itm.d_kind (i : Itm) : ∃ r, i.d = .str i.kind :: r := by cases i <;> exact ⟨_, rfl⟩
theorem kind_tag {i j : Itm} (h : i.kind = j.kind) : i.tag = j.tag := by
  have k0 := kd_box i; have k1 := kd_glue i; have k2 := kd_pen i; have k3 := kd_hyp i; have k4 := kd_forced i; have k5 := kd_note i; have k6 := kd_label i; have k7 := kd_page i
  rw [h] at k0 k1 k2 k3 k4 k5 k6 k7
  rw [kd_box] at k0
  rw [kd_glue] at k1
  rw [kd_pen] at k2
  rw [kd_hyp] at k3
  rw [kd_forced] at k4
  rw [kd_note] at k5
  rw [kd_label] at k6
  rw [kd_page] at k7
  have t1 := Itm.tag_le i
  have t2 := Itm.tag_le j
  have e0 := k0.to_iff; have e1 := k1.to_iff; have e2 := k2.to_iff; have e3 := k3.to_iff; have e4 := k4.to_iff; have e5 := k5.to_iff; have e6 := k6.to_iff; have e7 := k7.to_iff
  omega
theorem eqvI (a b : Int) : PyData.eqv (.int a) (.int b) = decide (a = b) := Datum.eqv (α := Int) a b
theorem eqvS (a b : Str) : PyData.eqv (.str a) (.str b) = decide (a = b) := Datum.eqv (α := Str) a b
theorem eqvB (a b : Bool) : PyData.eqv (.bool a) (.bool b) = decide (a = b) := Datum.eqv (α := Bool) a b
theorem eqvG (a b : List Int) : PyData.eqv (.tuple (a.map .int)) (.tuple (b.map .int)) = decide (a = b) := by
  have := Datum.eqv (α := Tup Int) ⟨a⟩ ⟨b⟩
  refine Eq.trans this (decide_eq_decide.mpr ⟨fun e => by cases e; rfl, fun e => by rw [e]⟩)
theorem Itm.eqv (a b : Itm) : PyData.eqvAll a.d b.d = decide (a = b) := by
  by_cases h : a.kind = b.kind
  · have ht := kind_tag h
    cases a <;> cases b <;> first | (exfalso; simp [Itm.tag] at ht; done) | (simp only [Itm.d, PyData.eqvAll, eqvI, eqvS, eqvB, eqvG]; simp [Bool.and_assoc])
  · obtain ⟨r, e⟩ := a.d_kind
    obtain ⟨r', e'⟩ := b.d_kind
    rw [e, e', PyData.eqvAll, eqvS, decide_eq_false h, Bool.false_and]
    exact (decide_eq_false fun z => h (by rw [z])).symm
instance : Datum Itm where
  toD i := .tuple i.d
  plain i := by
    have hg : ∀ g : List Int, PyData.plain (.tuple (g.map .int)) = true := fun g => Datum.plain (α := Tup Int) ⟨g⟩
    cases i <;> simp only [Itm.d, PyData.plain, PyData.plainAll, Bool.and_self, Bool.and_true, Bool.true_and]
    rename_i w n g
    have := hg g
    simpa only [PyData.plain] using this
  eqv a b := by simp only [PyData.eqv]; exact Itm.eqv a b
  depth := 2
  depth_le i := by
    have hg : ∀ g : List Int, PyData.depth (.tuple (g.map .int)) ≤ 1 := fun g => Datum.depth_le (α := Tup Int) ⟨g⟩
    cases i <;> simp only [Itm.d, PyData.depth, PyData.depthAll] <;> try (first | decide | omega)
    rename_i w n g
    have := hg g
    simp only [PyData.depth] at this
    omega
theorem ints_link {K : PySem.W.Frag} {H : Hp} : ∀ {g : List Int} {vs : List V}, XpAll K H vs (g.map Xd.int) → DpAll K H vs (g.map PyData.int)
  | [], _, h => by cases h; exact .nil
  | x :: xs, _, h => by
    cases h with
    | cons a b => cases a; exact .cons (.int _) (ints_link b)
instance : DxD Itm := ⟨fun {K H v i} h => by
  cases h with
  | tup s a =>
    refine .tup s ?_
    cases i with
    | box w n g =>
      cases a with | cons a1 a => cases a with | cons a2 a => cases a with | cons a3 a => cases a with | cons a4 a =>
      cases a
      cases a1; cases a2; cases a3
      cases a4 with | tup s2 b => exact .cons (.str _) (.cons (.int _) (.cons (.int _) (.cons (.tup s2 (ints_link b)) .nil)))
    | glue w s h b =>
      cases a with | cons a1 a => cases a with | cons a2 a => cases a with | cons a3 a => cases a with | cons a4 a => cases a with | cons a5 a =>
      cases a
      cases a1; cases a2; cases a3; cases a4; cases a5
      exact .cons (.str _) (.cons (.int _) (.cons (.int _) (.cons (.int _) (.cons (.bl _) .nil))))
    | pen c =>
      cases a with | cons a1 a => cases a with | cons a2 a =>
      cases a
      cases a1; cases a2
      exact .cons (.str _) (.cons (.int _) .nil)
    | hyp w n c =>
      cases a with | cons a1 a => cases a with | cons a2 a => cases a with | cons a3 a => cases a with | cons a4 a =>
      cases a
      cases a1; cases a2; cases a3; cases a4
      exact .cons (.str _) (.cons (.int _) (.cons (.int _) (.cons (.int _) .nil)))
    | forced =>
      cases a with | cons a1 a =>
      cases a
      cases a1
      exact .cons (.str _) .nil
    | note n =>
      cases a with | cons a1 a => cases a with | cons a2 a =>
      cases a
      cases a1; cases a2
      exact .cons (.str _) (.cons (.int _) .nil)
    | label s =>
      cases a with | cons a1 a => cases a with | cons a2 a =>
      cases a
      cases a1; cases a2
      exact .cons (.str _) (.cons (.str _) .nil)
    | page w n f s =>
      cases a with | cons a1 a => cases a with | cons a2 a => cases a with | cons a3 a => cases a with | cons a4 a => cases a with | cons a5 a =>
      cases a
      cases a1; cases a2; cases a3; cases a4; cases a5
      exact .cons (.str _) (.cons (.int _) (.cons (.int _) (.cons (.int _) (.cons (.str _) .nil))))⟩
end Ly
namespace Ly
theorem loopN_ind {S : Type} {f : S → Int → S} (P : Nat → S → Prop) (lo : Int) (n : Nat) (s0 : S) (h0 : P 0 s0) (h : ∀ i s, i < n → P i s → P (i + 1) (f s (lo + (i : Int)))) : P n (loopN f n lo s0) := by
  have key : ∀ m i s, i + m = n → P i s → P n (loopN f m (lo + (i : Int)) s) := by
    intro m
    induction m with
    | zero => intro i s e p; have : i = n := by omega
              subst this; exact p
    | succ m ih =>
      intro i s e p
      rw [loopN, show lo + (i : Int) + 1 = lo + ((i + 1 : Nat) : Int) by omega]
      exact ih (i + 1) _ (by omega) (h i s (by omega) p)
  have := key n 0 s0 (by omega) h0
  rwa [show lo + ((0 : Nat) : Int) = lo by omega] at this
theorem sum_cut (xs : List Int) {a b : Nat} (h : a ≤ b) : (xs.take b).sum - (xs.take a).sum = ((xs.drop a).take (b - a)).sum := by
  have e : xs.take b = xs.take a ++ (xs.drop a).take (b - a) := by
    rw [show b = a + (b - a) by omega, List.take_add, show a + (b - a) - a = b - a by omega]
  rw [e, List.sum_append]
  omega
theorem cutL_dt {α : Type} {xs : List α} {a b : Nat} (h : a ≤ b) (hb : b ≤ xs.length) : cutL xs (some (a : Int)) (some (b : Int)) = (xs.drop a).take (b - a) := by
  rw [cutL_in, Nat.min_eq_left (Nat.le_trans h hb), Nat.min_eq_left hb]
end Ly

namespace Ly
open PySem PySem.Spec PyProof.Rows L2 Evl
open PySem.W (Datum DatumOrd Tup T3 T4 minOf)
section
variable {K : PySem.W.Frag} {Mc M : List Addr} {He H H1 : Hp} {is : Ims} {ms : Mus} {σ : L2.St} {te ta tb : TE} {tz : TS} {D : Ends}
variable {α β γ : Type} [DecidableEq α] [Dx α] [DecidableEq β] [Dx β]
/-- all parameters given by keywords -/
theorem kall {x qual : Str} {st : Stmt} {f : Addr} {fd : FuncData} {ps ks : List Str} (F : Fun K x qual st f fd) (n : Nat)
    (h : ∀ (kV doc pm : Value) (an : Option Addr) (cdv ct : Value) (us ws : List Value), us.length = n → ws.length = ks.length → bindArgs (PySem.W.fnOf x qual (defArgs st) (defBody st) (defScope st) .none kV doc pm an cdv ct) ⟨us, ks.zip ws⟩ = pure (ps.zip (us ++ ws))) :
    KBn K fd ps n ks (fun us ws => us ++ ws) (fun vs zs => vs ++ zs) := by
  obtain ⟨oc, od, kV, doc, pm, an, cdv, ct, osl, rfl, lk, hcd⟩ := F.ex
  exact ⟨fun s us ws _ l1 l2 => .of_eq (h kV doc pm an cdv ct us ws l1 l2), fun r1 r2 => r1.append r2⟩
/-- C(k = v, ..) -/
theorem hv_makeK {args : γ → List Xd} {pre : γ → Prop} {F : γ → β} {tr : TA} {E : XK} {cn : Str} {C : Addr} {n : Nat} (c : γ) (t : Ct K cn C) (h : HD K M tr σ H (args c)) (hn : (args c).length = n) (p : pre c) :
    Hv K M (tMakeK C 0 n (PrI K cn args pre F) (fun vs zs => vs ++ zs) E tNil tr) σ H (F c) := fun H1 e1 mk Q q =>
  h H1 e1 mk _ fun vs H2 e2 ds => ⟨rfl, by rw [dpa_len ds]; exact hn, fun x dx hx hdx ne => by
    have m2 := mk.ex e2
    have hx2 : upd H2 dx (.own x) x = none := by rw [upd_ne (fun z => ne z.symm)]; exact hx
    have ea : Ex H2 (upd H2 dx (.own x)) := Ex.new hdx
    have eb : Ex (upd H2 dx (.own x)) (upd (upd H2 dx (.own x)) x (.ins C dx [])) := Ex.new hx2
    have hxM : x ∉ M := fun z => m2 x z hx
    refine ⟨M, x, C, dx, vs, c, rfl, ?_, hxM, t.ns, upd_same, ?_, p, fun H' e' d => ⟨rfl, q _ _ ?_ d⟩⟩
    · intro l hl
      rcases List.mem_cons.mp hl with rfl | hl
      · rw [upd_same]; exact fun z => nomatch z
      · exact ((m2.ex ea).ex eb) l hl
    · exact dpa_mono ((msk_ex ea).trans (msk_new hx2)) ds
    · refine e2.trans fun a o ho => e' a o ?_
      have na : a ≠ x := fun z => by rw [z, hx] at ho; cases ho
      rw [msk_out (by simpa using na)]
      exact eb a o (ea a o ho)⟩
/-- lists of several kinds, written or read by place -/
theorem hv_lstX {ds : List Xd} {tr : TA} (y : α) (h : HD K M tr σ H ds) (hl : ds.length ≤ 100000) (e : Dx.toX y = .list ds) : Hv K M (tLst tr) σ H y := fun H1 e1 m Q q =>
  h H1 e1 m _ fun vs H2 e2 d => ⟨sz_of (by rw [dpa_len d]; exact hl), fun p hp => by
    have e3 : Ex H2 (upd H2 p (.lst vs)) := Ex.new hp
    refine q _ _ (e2.trans e3) ?_
    show Xp _ _ _ (Dx.toX y)
    rw [e]
    exact .lst (SqL.of (msk_at (m.ex e2) hp)) (dpa_mono (msk_ex e3) d)⟩
theorem hv_atL {x : α} {ds : List Xd} {i : Int} (y : β) (h : Hv K M te σ H x) (hb : Hv K M tb σ H i) (e : Dx.toX x = .list ds) (h0 : 0 ≤ i) (hd : ds[i.toNat]? = some (Dx.toX y)) : Hv K M (tOp (rIxL K) te tb) σ H y := fun H1 e1 m Q q =>
  h H1 e1 m _ fun v H2 e2 d => hb H2 (e1.trans e2) (m.ex e2) _ fun u H3 e3 d3 => by
    have d' : Xp K (msk M H2) v (.list ds) := by rw [← e]; exact d
    cases d' with
    | lst s a =>
      obtain ⟨w, h1, h2⟩ := dpa_at a hd
      exact ⟨_, _, i, w, rfl, d3.int, ex_l (msk_le.trans e3) s, at_of (Int.toNat_of_nonneg h0).symm h1, q w H3 (e2.trans e3) (Dt.mono (msk_ex e3) h2)⟩
/-- the numbers of a style: [width, first, rest, justify, tolerance, rag] -/
structure Lv where
  w : Int
  f : Int
  r : Int
  j : Bool
  t : Int
  g : Int
  deriving DecidableEq
instance : Dx Lv := ⟨fun v => .list [.int v.w, .int v.f, .int v.r, .bool v.j, .int v.t, .int v.g]⟩
theorem hv_intB {b : Bool} (ha : Hv K M ta σ H b) : Hv K M (tCB (fun xs H Q => (∃ i, xs = [.int i] ∧ Q (.int i) H) ∨ ∃ k, xs = [.bl k] ∧ Q (.int (if k then 1 else 0)) H) (tCons ta tNil)) σ H (if b = true then (1 : Int) else 0) := fun H1 e m Q q =>
  ha H1 e m _ fun v H2 e2 d => .inr ⟨b, by rw [d.bool], q _ H2 e2 (Dt.ofInt _)⟩
theorem hv_abs {i : Int} (ha : Hv K M ta σ H i) : Hv K M (tCB (fun xs H Q => ∃ i, xs = [.int i] ∧ Q (.int (if i < 0 then -i else i)) H) (tCons ta tNil)) σ H (if i < 0 then -i else i) := fun H1 e m Q q =>
  ha H1 e m _ fun v H2 e2 d => ⟨i, by rw [d.int], q _ H2 e2 (Dt.ofInt _)⟩
end
theorem cube_div {i m : Int} (h0 : 0 < m) (h1 : m ≤ 1000000000000) : CDivW i (m * m * m) := by
  have a : 0 < m * m := Int.mul_pos h0 h0
  have b : m * m ≤ 1000000000000 * 1000000000000 := Int.mul_le_mul h1 h1 (by omega) (by omega)
  have c : 0 < m * m * m := Int.mul_pos a h0
  have d : m * m * m ≤ 1000000000000 * 1000000000000 * 1000000000000 := Int.mul_le_mul b h1 (by omega) (by omega)
  refine wide_div (b := 128) c ?_ (by decide) (by decide)
  have e : (1000000000000 * 1000000000000 * 1000000000000 : Int) < 2 ^ 128 := by decide
  omega
end Ly

namespace Ly
open PySem PySem.Spec PyProof.Rows L2 Evl
open PySem.W (Datum DatumOrd Tup T3 T4 minOf)
/-! ### a new list of several kinds, handed out by a def, then changed -/
section
variable {K : PySem.W.Frag} {Mc M : List Addr} {He H H1 : Hp} {is : Ims} {ms : Mus} {σ : L2.St} {te ta tb : TE} {tz : TS} {D : Ends}
variable {α β γ : Type} [DecidableEq α] [Dx α] [DecidableEq β] [Dx β]
def HFx (K : PySem.W.Frag) (M : List Addr) (te : TE) (σ : L2.St) (H : Hp) (ds : List Xd) : Prop :=
  ∀ H1, Ex H H1 → MOk M H1 → ∀ Q : VK, (∀ p vs H3, H1 p = none → Ex H1 H3 → H3 p = some (.lst vs) → XpAll K (msk (p :: M) H3) vs ds → Q (.ref p) H3) → te σ H1 Q
def PrF (K : PySem.W.Frag) (args : γ → List Xd) (pre : γ → Prop) (F : γ → List Xd) : Sp := fun vs H Q _ => ∃ (Mc : List Addr) (c : γ), MOk Mc H ∧ XpAll K (msk Mc H) vs (args c) ∧ pre c ∧
  ∀ p us H', H p = none → Ex H H' → H' p = some (.lst us) → XpAll K (msk (p :: Mc) H') us (F c) → Q (.ref p) H'
theorem hf_callX {args : γ → List Xd} {pre : γ → Prop} {F : γ → List Xd} {tr : TA} {E : XK} (c : γ) (h : HD K M tr σ H (args c)) (p : pre c) : HFx K M (tCall (PrF K args pre F) [] E tr) σ H (F c) := fun H1 e m Q q =>
  h H1 e m _ fun vs H2 e2 ds => ⟨M, c, m.ex e2, by rw [List.append_nil]; exact ds, p, fun a us H3 n e3 h3 d => q a us H3 (fresh_back e2 n) (e2.trans e3) h3 d⟩
theorem hf_lstX {ds : List Xd} {tr : TA} (h : HD K M tr σ H ds) (hl : ds.length ≤ 100000) : HFx K M (tLst tr) σ H ds := fun H1 e1 m Q q =>
  h H1 e1 m _ fun vs H2 e2 d => ⟨sz_of (by rw [dpa_len d]; exact hl), fun p hp => q p vs _ (fresh_back e2 hp) (e2.trans (Ex.new hp)) upd_same (dpa_mono (msk_new hp) d)⟩
theorem Sg.newX (s : Sg K Mc He H is ms) {p : Addr} {vs : List V} {ds : List Xd} (n : H p = none) (e : Ex H H1) (h : H1 p = some (.lst vs)) (d : XpAll K (msk (p :: (muA ms ++ Mc)) H1) vs ds) : Sg K Mc He H1 is ((p, .lst ds) :: ms) := by
  have np : p ∉ muA ms := fun z => s.mok p (List.mem_append_left _ z) n
  have q : ∀ M : List Addr, Ex (msk M H) (msk (p :: M) H1) := fun M a o ho => by
    by_cases z : a ∈ M
    · rw [msk_in z] at ho; cases ho
    · rw [msk_out z] at ho
      have na : a ≠ p := ne_of_none ho n
      rw [msk_out (by simp only [List.mem_cons, not_or]; exact ⟨na, z⟩)]
      exact e a o ho
  exact ⟨s.ext.trans (q _), s.okc, List.nodup_cons.mpr ⟨np, s.nd⟩, s.im.mono (q _), ⟨⟨_, h, vs, rfl, d⟩, s.mu.mono (q _) e⟩⟩
theorem z_freshX {i : Nat} {x : α} {g : α → List Xd} (s : Sg K Mc He H is ms) (h : HFx K (muA ms ++ Mc) te σ H (g x)) (k : ∀ y, y = x → ∀ p H1, Sg K Mc He H1 is ((p, .lst (g y)) :: ms) → tz D (σ.set i (some (.ref p))) H1) : tSeq (tAsg te (gName i)) tz D σ H :=
  h H (Ex.refl H) s.mok _ fun p vs H3 n e3 h3 d => k x rfl p H3 (s.newX n e3 h3 d)
theorem zq_retX {ds : List Xd} (s : Sg K Mc He H is ms) (h : HFx K (muA ms ++ Mc) te σ H ds) (k : ∀ p us H1, He p = none → Ex He H1 → H1 p = some (.lst us) → XpAll K (msk (p :: Mc) H1) us ds → D.rt (.ref p) H1) : tSeq (tRet te) tz D σ H :=
  h H (Ex.refl H) s.mok _ fun p us H1 n e h1 d => k p us H1 (fresh_back s.all n) (s.all.trans e) h1 (dpa_mono (msk_sub fun a ha => by
    rcases List.mem_cons.mp ha with rfl | ha
    · exact List.mem_cons_self
    · exact List.mem_cons_of_mem _ (List.mem_append_right _ ha)) d)
theorem Sg.lstX (s : Sg K Mc He H is ms) {k : Nat} {l : Addr} {ds : List Xd} (e : ms[k]? = some (l, .lst ds)) : ∃ vs, H l = some (.lst vs) ∧ XpAll K (msk (muA ms ++ Mc) H) vs ds := by
  obtain ⟨o, h1, vs, e1, h2⟩ := s.mu.get e
  subst e1
  exact ⟨vs, h1, h2⟩
theorem hv_atM {k i : Nat} {l : Addr} {ds : List Xd} {j : Int} (y : β) (s : Sg K Mc He H is ms) (e : ms[k]? = some (l, .lst ds)) (h : σ[i]? = some (some (.ref l))) (hb : Hv K (muA ms ++ Mc) tb σ H j) (h0 : 0 ≤ j) (hd : ds[j.toNat]? = some (Dx.toX y)) :
    Hv K (muA ms ++ Mc) (tOp (rIxL K) (tVar i) tb) σ H y := fun H1 e1 m Q q => ⟨_, h, hb H1 e1 m _ fun u H2 e2 d2 => by
    obtain ⟨vs, h1, h2⟩ := ((s.ex e1).ex e2).lstX e
    obtain ⟨w, w1, w2⟩ := dpa_at h2 hd
    exact ⟨l, vs, j, w, rfl, d2.int, SqL.of h1, at_of (Int.toNat_of_nonneg h0).symm w1, q w H2 e2 w2⟩⟩
theorem z_setX {kk : Nat} {l : Addr} {ds : List Xd} {x : α} {y' : β} {i : Int} (s : Sg K Mc He H is ms) (e : ms[kk]? = some (l, .lst ds)) (h : Hv K (muA ms ++ Mc) te σ H x) (ho : Ev ta σ H (.ref l)) (hi : Hv K (muA ms ++ Mc) tb σ H i) (h0 : 0 ≤ i) (h1 : i.toNat < ds.length)
    (g : β → List Xd) (hg : ds.set i.toNat (Dx.toX x) = g y')
    (k : ∀ y, y = y' → ∀ H1, Sg K Mc He H1 is (ms.set kk (l, .lst (g y))) → tz D σ H1) : tSeq (tAsg te (gSub ta tb rSetL)) tz D σ H :=
  h H (Ex.refl H) s.mok _ fun v H2 e2 d => ho H2 e2 _ fun H3 e3 => hi H3 (e2.trans e3) (s.mok.ex (e2.trans e3)) _ fun u H4 e4 d' => by
    have s4 := ((s.ex e2).ex e3).ex e4
    obtain ⟨vs, h3, h4⟩ := s4.lstX e
    have hn : i.toNat < vs.length := by rw [dpa_len h4]; exact h1
    refine ⟨l, vs, i, i.toNat, rfl, d'.int, h3, ?_, k _ rfl _ (s4.set e ⟨_, rfl, ?_⟩)⟩
    · have := ixN_nat hn
      rwa [Int.toNat_of_nonneg h0] at this
    · rw [← hg]
      exact dpa_set h4 (dp_mono (msk_ex (e3.trans e4)) d)
theorem Sg.frzX {l : Addr} {ds : List Xd} (x : α) (hx : Dx.toX x = .list ds) (s : Sg K Mc He H is ((l, .lst ds) :: ms)) : Sg K Mc He H ((.ref l, Dx.toX x) :: is) ms := by
  have sub : Ex (msk (muA ((l, Mv.lst ds) :: ms) ++ Mc) H) (msk (muA ms ++ Mc) H) := msk_sub fun a ha => List.mem_cons_of_mem _ ha
  have nd := List.nodup_cons.mp s.nd
  obtain ⟨⟨o, h1, vs, e, h2⟩, h3⟩ := s.mu
  subst e
  have nl : l ∉ muA ms ++ Mc := fun z => (List.mem_append.mp z).elim nd.1 (s.notc List.mem_cons_self)
  refine ⟨s.ext.trans (msk_sub fun a ha => List.mem_cons_of_mem _ ha), s.okc, nd.2, ⟨?_, s.im.mono sub⟩, h3.mono sub (Ex.refl H)⟩
  show Xp K _ (.ref l) (Dx.toX x)
  rw [hx]
  exact .lst (SqL.of (by rw [msk_out nl]; exact h1)) (dpa_mono sub h2)
theorem cutL_len {ε : Type} (xs : List ε) (a b : Option Int) : (cutL xs a b).length ≤ xs.length := by
  unfold cutL; rw [List.length_take, List.length_drop]; omega
/-- what a list of a style's numbers holds -/
def Lv.ds (v : Lv) : List Xd := [.int v.w, .int v.f, .int v.r, .bool v.j, .int v.t, .int v.g]
end
end Ly

namespace Ly
open PySem PySem.Spec PyProof.Rows L2 Evl
open PySem.W (Datum DatumOrd Tup T3 T4 minOf)
/-! ### zip of a tuple and a list -/
def ItzM (K : PySem.W.Frag) (a b : Addr) : L2.It where
  go i H := ∃ (us vs : List V) (u v : V), (SqT K H a us ∧ us[i]? = some u) ∧ SqL K H b vs ∧ vs[i]? = some v
  yld i H r H' := ∃ (p : Addr) (u v : V), (r = .ref p ∧ H p = none ∧ H' = upd H p (.tup [u, v])) ∧ (∀ us, SqT K H a us → us[i]? = some u) ∧ (∀ vs, SqL K H b vs → vs[i]? = some v)
  stop i H := ∃ us vs : List V, SqT K H a us ∧ SqL K H b vs ∧ i ≤ us.length ∧ i ≤ vs.length ∧ (i = us.length ∨ i = vs.length)
section
variable {P : Program} {w : World} {K : PySem.W.Frag} {elts : List Expr} {kk : Nat} {tpos : Pos} {a b z TI TO i1 i2 : Addr}
abbrev stM (z TI TO i1 i2 a b : Addr) (i : Nat) (h : Heap) : Prop := (IsZip h z TI TO .none ∧ IsTupOf2 h TI (.ref i1) (.ref i2) ∧ ∃ x y, IsTupOf2 h TO x y) ∧ h.IsTupleIter i1 a i ∧ h.IsListIter i2 b i
theorem turn_zipM (S : ZipSep2 z TI TO i1 i2 [i1, a] [i2, b]) : Turn P w K (.Tuple elts kk tpos) (ItzM K a b) [z, TI, TO, i1, i2] z (stM z TI TO i1 i2 a b) := by
  have five : ∀ {c : Addr}, c ∈ [z, TI, TO, i1, i2] → c = z ∨ c = TI ∨ c = TO ∨ c = i1 ∨ c = i2 := fun h => by simpa using h
  have na : a ≠ i1 ∧ b ≠ i2 ∨ True := .inr trivial
  refine ⟨List.mem_cons_self, fun i h st c hc => ?_, fun i h h' st k => ?_, ?_, ?_, fun A i s Q E st q => wpAny_pyIter_zip st.1.1 q⟩
  · obtain ⟨⟨c1, c2, x, y, c3⟩, ⟨o4, e4, _, f4⟩, o5, e5, _, f5⟩ := st
    rcases five hc with rfl | rfl | rfl | rfl | rfl
    · exact ⟨_, c1, fun v q => nomatch q⟩
    · exact ⟨_, c2, fun v q => nomatch q⟩
    · exact ⟨_, c3, fun v q => nomatch q⟩
    · exact ⟨o4, e4, fun v q => by rw [f4] at q; cases q⟩
    · exact ⟨o5, e5, fun v q => by rw [f5] at q; cases q⟩
  · obtain ⟨⟨c1, c2, x, y, c3⟩, c4, c5⟩ := st
    exact ⟨⟨k _ (by simp) _ c1, k _ (by simp) _ c2, x, y, k _ (by simp) _ c3⟩, c4.at fun o q => k _ (by simp) o q, c5.at fun o q => k _ (by simp) o q⟩
  · intro X hP hw hK hc i pins s σ H E I hf st hg
    subst hP hw hK
    obtain ⟨us, vs, u, v, ⟨qa, ea⟩, qb, eb⟩ := hg
    obtain ⟨⟨c1, c2, x, y, c3⟩, c4, c5⟩ := st
    obtain ⟨la, ra, pa, _⟩ := I.tuple qa
    obtain ⟨lb, rb, pb, _⟩ := I.list qb
    obtain ⟨ua, ga, xa⟩ := ra.get ea
    obtain ⟨ub, gb, xb⟩ := rb.get eb
    have na : a ≠ i1 := fun q => by
      obtain ⟨oa, ha, ka, _⟩ := pa
      obtain ⟨ob, hb, kb, _⟩ := c4
      rw [q, hb] at ha
      cases ha
      rw [kb] at ka
      exact absurd (Value.type.inj ka) (by decide)
    have nb : b ≠ i2 := fun q => by
      obtain ⟨oa, ha, ka, _⟩ := pb.isList
      obtain ⟨ob, hb, kb, _⟩ := c5
      rw [q, hb] at ha
      cases ha
      rw [kb] at ka
      exact absurd (Value.type.inj ka) (by decide)
    have hh : X.A.in1.handled = none := I.ok.hd hc
    have DA := Draws.tuple (prog := X.prog) (w := X.w) hh i1 a na la.toArray
    have DB := Draws.list (prog := X.prog) (w := X.w) hh i2 b nb lb.toArray
    have za : i < la.toArray.size := by
      have := (List.getElem?_eq_some_iff.mp ga).1
      simpa using this
    have zb : i < lb.toArray.size := by
      have := (List.getElem?_eq_some_iff.mp gb).1
      simpa using this
    refine wpAny_pyNext_zipD2_item S DA DB c1 c2 c3 ⟨c4, pa⟩ ⟨c5, pb.isList⟩ za zb fun x1 x2 h1 tk y1 y2 d1 d2 d3 d4 d5 d6 d7 => ?_
    have e1 : x1 = ua := by
      have : la[i]? = some x1 := by simpa using y1
      exact Option.some.inj (this.symm.trans ga)
    have e2 : x2 = ub := by
      have : lb[i]? = some x2 := by simpa using y2
      exact Option.some.inj (this.symm.trans gb)
    subst e1 e2
    refine ⟨.ref s.heap.objs.size, rfl, wpAny_letOwnedTupleGo_zip (s := { s with heap := h1, toks := tk }) d1 fun h2 f1 f2 => ?_⟩
    have old : ∀ c o, c ∉ [z, TI, TO, i1, i2] → s.heap.get? c = some o → h2.get? c = some o := fun c o n q => by
      have m1 : c ≠ z := fun t => n (by rw [t]; simp)
      have m2 : c ≠ TO := fun t => n (by rw [t]; simp)
      have m3 : c ≠ i1 := fun t => n (by rw [t]; simp)
      have m4 : c ≠ i2 := fun t => n (by rw [t]; simp)
      exact (f2.2 c m1).trans (d7 c o m1 m2 m3 m4 q)
    have pz : s.heap.objs.size ≠ z := Nat.ne_of_gt (Heap.lt_size c1)
    have pn : h2.get? s.heap.objs.size = some { cls := .type "tuple", data := .seq #[x1, x2] } := (f2.2 _ pz).trans d5
    have ok : ObjOk X.prog X.w (upd H s.heap.objs.size (.tup [u, v])) h2 s.heap.objs.size (.tup [u, v]) := ⟨show 2 ≤ sizeLine by decide, [x1, x2], .cons xa (.cons xb .nil), _, pn, rfl, _, rfl⟩
    refine ⟨.ref s.heap.objs.size, upd H s.heap.objs.size (.tup [u, v]), I.turnedNew (t' := tk) (ch := [z, TI, TO, i1, i2]) old hf (Nat.le_refl _) ok, rfl, ?_, ?_, fun c m => ?_⟩
    · refine ⟨_, u, v, ⟨rfl, I.hok.fresh (Nat.le_refl _), rfl⟩, fun l t => ?_, fun l t => ?_⟩
      · rw [I.tuple_inj t qa]; exact ea
      · rw [I.list_inj t qb]; exact eb
    · refine ⟨⟨f1, (f2.2 _ S.TIz).trans (d7 _ _ S.TIz S.TITO S.TIi1 S.TIi2 c2), x1, x2, (f2.2 _ S.TOz).trans d2⟩, d3.1.at fun o q => (f2.2 _ S.zi1.symm).trans q, d4.1.at fun o q => (f2.2 _ S.zi2.symm).trans q⟩
    · have lt : c < s.heap.objs.size := by
        rcases five m with rfl | rfl | rfl | rfl | rfl
        · exact Heap.lt_size c1
        · exact Heap.lt_size c2
        · exact Heap.lt_size c3
        · obtain ⟨_, q, _⟩ := c4; exact Heap.lt_size q
        · obtain ⟨_, q, _⟩ := c5; exact Heap.lt_size q
      rw [upd_ne (Nat.ne_of_lt lt)]
      exact (hf c m).1
  · intro X hP hw hK hc i pins s σ H E I hf st hg
    subst hP hw hK
    obtain ⟨us, vs, qa, qb, l1, l2, l3⟩ := hg
    obtain ⟨⟨c1, c2, x, y, c3⟩, c4, c5⟩ := st
    obtain ⟨la, ra, pa, _⟩ := I.tuple qa
    obtain ⟨lb, rb, pb, _⟩ := I.list qb
    have na : a ≠ i1 := fun q => by
      obtain ⟨oa, ha, ka, _⟩ := pa
      obtain ⟨ob, hb, kb, _⟩ := c4
      rw [q, hb] at ha
      cases ha
      rw [kb] at ka
      exact absurd (Value.type.inj ka) (by decide)
    have nb : b ≠ i2 := fun q => by
      obtain ⟨oa, ha, ka, _⟩ := pb.isList
      obtain ⟨ob, hb, kb, _⟩ := c5
      rw [q, hb] at ha
      cases ha
      rw [kb] at ka
      exact absurd (Value.type.inj ka) (by decide)
    have hh : X.A.in1.handled = none := I.ok.hd hc
    have DA := Draws.tuple (prog := X.prog) (w := X.w) hh i1 a na la.toArray
    have DB := Draws.list (prog := X.prog) (w := X.w) hh i2 b nb lb.toArray
    have sa : us.length = la.toArray.size := by rw [List.size_toArray]; exact ra.length
    have sb : vs.length = lb.toArray.size := by rw [List.size_toArray]; exact rb.length
    refine wpAny_pyNext_zipD2_end S DA DB c1 c2 c3 ⟨c4, pa⟩ ⟨c5, pb.isList⟩ (by omega) (by omega) (by omega) fun h1 tk d => ⟨rfl, ?_⟩
    refine I.turnedL (t' := tk) (ch := [z, TI, TO, i1, i2]) (fun c o n q => ?_) hf
    exact d c o (fun t => n (by rw [t]; simp)) (fun t => n (by rw [t]; simp)) (fun t => n (by rw [t]; simp)) (fun t => n (by rw [t]; simp)) q
end
def iZipM (K : PySem.W.Frag) (tp : TA) : TI := fun σ H R => tp σ H fun zs H1 => ∃ a b us vs, zs = [.ref a, .ref b] ∧ SqT K H1 a us ∧ SqL K H1 b vs ∧ R (ItzM K a b) H1
theorem pi_zipM {X : Cx} {e f : Expr} {tp : TA} {p pos tpos : Pos} {elts : List Expr} {kk : Nat} (hg : Gl X "zip") (hm : X.mg "zip" = none) (hA : PA X [e, f] tp)
    (h1 : starEach [e, f] X.env = (false, eval e X.env) :: starEach [f] X.env := by rfl) (h2 : (backTo pos (starEach [f] X.env)).any (·.1) = false := by rfl) :
    PI X (.Tuple elts kk tpos) (.Call (.Name "zip" p) [e, f] [] pos) (iZipM X.K tp) := by
  constructor
  intro pins s σ H R I h
  have body := hA.run pos pins s σ H _ I h
  refine Call_ (ld_blt I hg hm PyProof.Rows.boot_zip ?_)
  refine PyProof.Rows.callWith_type1 (thn body ?_) h1 h2
  rintro ws s1 ⟨zs, H1, J, rz, a, b, us, vs, rfl, qa, qb, q⟩
  cases rz with
  | cons ra rz =>
    cases rz with
    | cons rb rz =>
      cases rz; cases ra; cases rb
      obtain ⟨la, _, pa, _⟩ := J.tuple qa
      obtain ⟨lb, _, pb, _⟩ := J.list qb
      have pa' : s1.heap.IsTuple a la.toArray := pa
      have lta : a < s1.heap.objs.size := by obtain ⟨_, g, _⟩ := pa'; exact Heap.lt_size g
      have sep : ZipSep2 (s1.heap.objs.size + 4) (s1.heap.objs.size + 2) (s1.heap.objs.size + 3) s1.heap.objs.size (s1.heap.objs.size + 1) [s1.heap.objs.size, a] [s1.heap.objs.size + 1, b] :=
        zip_sep2 (fp1 := [a]) (fp2 := [b]) (fun c m => by rw [List.mem_singleton.mp m]; exact lta) (fun c m => by rw [List.mem_singleton.mp m]; exact pb.lt)
      refine zip_begins2 (begins_tuple a la.toArray) (begins_list b lb.toArray) pa' pb.isList fun h' c1 c2 c3 c4 c5 _ kp => ?_
      refine wpAny_pyIter_zip c1 ?_
      refine ⟨s1.heap.objs.size + 4, [s1.heap.objs.size + 4, s1.heap.objs.size + 2, s1.heap.objs.size + 3, s1.heap.objs.size, s1.heap.objs.size + 1], _, _, H1, rfl, J.kept (t' := s1.toks) kp, turn_zipM sep, ⟨⟨c1, c2, _, _, c3⟩, ⟨_, c4, rfl, rfl⟩, ⟨_, c5, rfl, rfl⟩⟩, fun c m => ?_, q⟩
      have le : s1.heap.objs.size ≤ c := by
        rcases (by simpa using m : c = s1.heap.objs.size + 4 ∨ c = s1.heap.objs.size + 2 ∨ c = s1.heap.objs.size + 3 ∨ c = s1.heap.objs.size ∨ c = s1.heap.objs.size + 1) with rfl | rfl | rfl | rfl | rfl <;> first | exact Nat.le_add_right _ _ | exact Nat.le_refl _
      exact J.fpOk le (J.hok.fresh le)
theorem walk_zipM {K : PySem.W.Frag} {a b : Addr} {us vs : List V} {n : Nat} (hn : n = us.length) (hn2 : n = vs.length) : Walk (ItzM K a b) n (fun H => SqT K H a us ∧ SqL K H b vs) (YPair (fun i => us[i]?) (fun i => vs[i]?)) where
  goes i H hi q := by
    have l1 : i < us.length := by omega
    have l2 : i < vs.length := by omega
    exact ⟨us, vs, us[i], vs[i], ⟨q.1, List.getElem?_eq_getElem l1⟩, q.2, List.getElem?_eq_getElem l2⟩
  stops H q := ⟨us, vs, q.1, q.2, by omega, by omega, .inl hn⟩
  yields i H r H' _ q y := by
    obtain ⟨p, u, v, ⟨e1, e2, e3⟩, f1, f2⟩ := y
    exact ⟨p, u, v, e1, e2, e3, f1 us q.1, f2 vs q.2⟩
section
variable {K : PySem.W.Frag} {Mc M : List Addr} {He H H1 H2 : Hp} {is js : Ims} {ms : Mus} {σ : L2.St} {te ta tl tl2 : TE} {tlo thi : TO} {g : TG}
variable {α β γ : Type} [DecidableEq α] [Dx α] [DecidableEq β] [Dx β] [DecidableEq γ] [Dx γ]
/-- [.. for x in a tuple] -/
theorem hf_lcV0 {vs : List Nat} (s : Sg K Mc He H is ms) {xs : Tup α} (ef : α → β) (h : Hv K (muA ms ++ Mc) tl σ H xs) (hz : xs.items.length ≤ 40000)
    (hb : ∀ D src x w (ys : List β) H1, Sg K Mc He H1 ((w, Dx.toX x) :: (src, Dx.toX xs) :: is) ((D, .lst (ys.map Dx.toX)) :: ms) → x ∈ xs.items →
      ∀ Q : L2.St → Hp → Prop, (∀ σ2, wipe σ2 vs = wipe σ vs → Hv K (muA ((D, Mv.lst (ys.map Dx.toX)) :: ms) ++ Mc) te σ2 H1 (ef x) → Q σ2 H1) → g w (wipe σ vs) H1 Q) :
    HF K (muA ms ++ Mc) (tLc (iTup K tl) g tYes te vs) σ H (xs.items.map ef) := fun H1 e m Q q =>
  h H1 e m _ fun v H2 e2 d => by
    obtain ⟨a, us, rfl, s1, ds⟩ := d.tupv
    refine ⟨a, rfl, ⟨us, ex_t msk_le s1⟩, fun D hD => ?_⟩
    have sA : Sg K Mc He H2 ((.ref a, Dx.toX xs) :: is) ms := ((s.ex e).ex e2).put d
    have sB : Sg K Mc He (upd H2 D (.lst [])) ((.ref a, Dx.toX xs) :: is) ((D, .lst (([] : List β).map Dx.toX)) :: ms) := sA.new hD ⟨[], rfl, .nil⟩
    have hlu : us.length = xs.items.length := ds.len
    have s1' : SqT K H2 a us := ex_t msk_le s1
    refine lc_it (walk_tup (K := K) (a := a) (xs := us)) (fun i H' => Ex H2 H' ∧ Sg K Mc He H' ((.ref a, Dx.toX xs) :: is) ((D, .lst (((xs.items.take i).map ef).map Dx.toX)) :: ms)) ⟨Ex.new hD, sB⟩
      (fun i H' _ p => ex_t p.1 s1') (fun i x H' H'' hi p y => ?_) (fun H' p => ?_)
    · obtain ⟨rfl, y2⟩ := y
      have hix : i < xs.items.length := by rw [← hlu]; omega
      have gx : xs.items[i]? = some xs.items[i] := by simp [hix]
      have q2 : Ex (msk (muA ms ++ Mc) H2) (msk (D :: (muA ms ++ Mc)) H'') := fun c o hc => by
        by_cases z : c ∈ muA ms ++ Mc
        · rw [msk_in z] at hc; cases hc
        · rw [msk_out z] at hc
          have nc : c ≠ D := ne_of_none hc hD
          rw [msk_out (by simp only [List.mem_cons, not_or]; exact ⟨nc, z⟩)]
          exact p.1 c o hc
      obtain ⟨w, w1, w2⟩ := (Dts.mono q2 ds).at gx
      have : x = w := Option.some.inj (y2.symm.trans w1)
      subst this
      refine hb D (.ref a) xs.items[i] x _ _ (p.2.put w2) (List.mem_of_getElem? gx) _ fun σ2 hw he => ⟨hw, ?_⟩
      have hlen : ((xs.items.take i).map ef).length < 50000 := by
        rw [List.length_map, List.length_take]
        omega
      exact lc_turn (ms := ms) (tt := tYes) (b := true) (zs := (xs.items.take (i + 1)).map ef) p.2 hlen (fun H3 => Ex H2 H3 ∧ Sg K Mc He H3 ((.ref a, Dx.toX xs) :: is) ((D, .lst (((xs.items.take (i + 1)).map ef).map Dx.toX)) :: ms)) (fun H2 _ _ _ q => q H2 (Ex.refl H2)) (fun _ => he) (by rw [if_pos rfl, take_snoc gx, List.map_append]; rfl) (fun H3 h4 s3 => ⟨by
        obtain ⟨H4, e4, e5⟩ := h4
        rcases e5 with e5 | ⟨o, e5⟩
        · rw [e5]; exact p.1.trans e4
        · rw [e5]; exact Ex.mut (p.1.trans e4) hD, s3⟩)
    · have z := p.2
      rw [hlu, List.take_length] at z
      obtain ⟨us2, h3, h4⟩ := z.lst (k := 0) rfl
      exact q D us2 H' (fresh_back e2 hD) (e2.trans p.1) h3 h4
/-- [.. for x, y in zip(a tuple, a list)] -/
theorem hf_lcZM {vs : List Nat} (s : Sg K Mc He H is ms) {xs : Tup α} {zs : List γ} (ef : α × γ → β) (h : Hv K (muA ms ++ Mc) tl σ H xs) (h' : Hv K (muA ms ++ Mc) tl2 σ H zs) (hz : xs.items.length ≤ 40000) (hzs : zs.length = xs.items.length)
    (hb : ∀ D src (x : α × γ) w (ys : List β) H1, Sg K Mc He H1 ((w, Dx.toX x) :: (src, Dx.toX xs) :: is) ((D, .lst (ys.map Dx.toX)) :: ms) → x ∈ zipL xs.items zs →
      ∀ Q : L2.St → Hp → Prop, (∀ σ2, wipe σ2 vs = wipe σ vs → Hv K (muA ((D, Mv.lst (ys.map Dx.toX)) :: ms) ++ Mc) te σ2 H1 (ef x) → Q σ2 H1) → g w (wipe σ vs) H1 Q) :
    HF K (muA ms ++ Mc) (tLc (iZipM K (tCons tl (tCons tl2 tNil))) g tYes te vs) σ H ((zipL xs.items zs).map ef) := fun H1 e m Q q =>
  h H1 e m _ fun v H2 e2 d => h' H2 (e.trans e2) (m.ex e2) _ fun v' H2' e2' d' => by
    obtain ⟨a, us, rfl, s1, ds⟩ := d.tupv
    obtain ⟨a', us', rfl, t1, dt⟩ := d'.list
    have s1' : SqT K H2' a us := ex_t e2' (ex_t msk_le s1)
    have t1' : SqL K H2' a' us' := ex_l msk_le t1
    have dE : Dt K (msk (muA ms ++ Mc) H2') (.ref a) xs := d.mono (msk_ex e2')
    refine ⟨a, a', us, us', rfl, s1', t1', fun D hD => ?_⟩
    have sA : Sg K Mc He H2' ((.ref a, Dx.toX xs) :: is) ms := (((s.ex e).ex e2).ex e2').put dE
    have sB : Sg K Mc He (upd H2' D (.lst [])) ((.ref a, Dx.toX xs) :: is) ((D, .lst (([] : List β).map Dx.toX)) :: ms) := sA.new hD ⟨[], rfl, .nil⟩
    have hlu : us.length = xs.items.length := ds.len
    have hlw : us'.length = zs.length := dt.len
    have dsE : Dts K (msk (muA ms ++ Mc) H2') us xs.items := Dts.mono (msk_ex e2') ds
    refine lc_it (walk_zipM (K := K) (a := a) (b := a') (us := us) (vs := us') (n := us.length) rfl (by omega)) (fun i H' => Ex H2' H' ∧ Sg K Mc He H' ((.ref a, Dx.toX xs) :: is) ((D, .lst ((((zipL xs.items zs).take i).map ef).map Dx.toX)) :: ms)) ⟨Ex.new hD, sB⟩
      (fun i H' _ p => ⟨ex_t p.1 s1', ex_l p.1 t1'⟩) (fun i x H' H'' hi p y => ?_) (fun H' p => ?_)
    · obtain ⟨T, x0, x1, rfl, nT, rfl, f1, f2⟩ := y
      have hix : i < xs.items.length := by rw [← hlu]; omega
      have hiz : i < zs.length := by rw [← hlw]; omega
      have gx : xs.items[i]? = some xs.items[i] := by simp [hix]
      have gz : zs[i]? = some zs[i] := by simp [hiz]
      have gE := zipL_get gx gz
      have eT : Ex H' (upd H' T (.tup [x0, x1])) := Ex.new nT
      have sT := p.2.ex eT
      have q2 : Ex (msk (muA ms ++ Mc) H2') (msk (D :: (muA ms ++ Mc)) (upd H' T (.tup [x0, x1]))) := fun b o hb' => by
        by_cases z : b ∈ muA ms ++ Mc
        · rw [msk_in z] at hb'; cases hb'
        · rw [msk_out z] at hb'
          have nb : b ≠ D := ne_of_none hb' hD
          rw [msk_out (by simp only [List.mem_cons, not_or]; exact ⟨nb, z⟩)]
          exact eT b o (p.1 b o hb')
      have dm0 : Dt K (msk (D :: (muA ms ++ Mc)) (upd H' T (.tup [x0, x1]))) x0 xs.items[i] := by
        obtain ⟨w, w1, w2⟩ := (dsE.mono q2).at gx
        have : x0 = w := Option.some.inj (f1.symm.trans w1)
        subst this; exact w2
      have dm1 : Dt K (msk (D :: (muA ms ++ Mc)) (upd H' T (.tup [x0, x1]))) x1 zs[i] := by
        obtain ⟨w, w1, w2⟩ := (Dts.mono q2 dt).at gz
        have : x1 = w := Option.some.inj (f2.symm.trans w1)
        subst this; exact w2
      have nTD : T ∉ D :: (muA ms ++ Mc) := fun z => (p.2.mok T z) nT
      have dw : Dt K (msk (D :: (muA ms ++ Mc)) (upd H' T (.tup [x0, x1]))) (.ref T) (xs.items[i], zs[i]) := Dt.ofPair (SqT.of (by rw [msk_out nTD]; exact upd_same)) dm0 dm1
      refine hb D (.ref a) (xs.items[i], zs[i]) (.ref T) _ _ (sT.put dw) (List.mem_of_getElem? gE) _ fun σ2 hw he => ⟨hw, ?_⟩
      have hlen : (((zipL xs.items zs).take i).map ef).length < 50000 := by
        rw [List.length_map, List.length_take, zipL_len]
        omega
      exact lc_turn (ms := ms) (tt := tYes) (b := true) (zs := ((zipL xs.items zs).take (i + 1)).map ef) sT hlen (fun H3 => Ex H2' H3 ∧ Sg K Mc He H3 ((.ref a, Dx.toX xs) :: is) ((D, .lst ((((zipL xs.items zs).take (i + 1)).map ef).map Dx.toX)) :: ms)) (fun H2 _ _ _ q => q H2 (Ex.refl H2)) (fun _ => he) (by rw [if_pos rfl, take_snoc gE, List.map_append]; rfl) (fun H3 h4 s3 => ⟨by
        obtain ⟨H4, e4, e5⟩ := h4
        rcases e5 with e5 | ⟨o, e5⟩
        · rw [e5]; exact (p.1.trans eT).trans e4
        · rw [e5]; exact Ex.mut ((p.1.trans eT).trans e4) hD, s3⟩)
    · have z := p.2
      have et : (zipL xs.items zs).take us.length = zipL xs.items zs := List.take_of_length_le (by rw [zipL_len, hlu]; omega)
      rw [et] at z
      obtain ⟨us2, h3, h4⟩ := z.lst (k := 0) rfl
      exact q D us2 H' (fresh_back (e2.trans e2') hD) ((e2.trans e2').trans p.1) h3 h4
/-- a slice of a tuple -/
theorem hv_sliceV {xs : Tup α} {lo hi : Option Int} (h : Hv K M te σ H xs) (h1 : HO' M tlo σ H lo) (h2 : HO' M thi σ H hi) : Hv K M (tSl (rSlA K) te tlo thi) σ H (Tup.mk (cutL xs.items lo hi)) := fun H1 e m Q q =>
  h H1 e m _ fun v H2 e2 d => h1 H2 (e.trans e2) (m.ex e2) _ fun H3 e3 => h2 H3 ((e.trans e2).trans e3) ((m.ex e2).ex e3) _ fun H4 e4 => by
    obtain ⟨a, us, rfl, s1, ds⟩ := d.tupv
    have m4 := ((m.ex e2).ex e3).ex e4
    have el : us.length = xs.items.length := ds.len
    refine ⟨a, us, rfl, ex_t (e3.trans e4) (ex_t msk_le s1), fun hw => ?_, fun _ p hp => ?_⟩
    · rw [el] at hw
      have ew : cutL xs.items lo hi = xs.items := by
        unfold cutL
        rw [hw.1, hw.2]
        simp
      rw [ew] at q
      exact q _ _ ((e2.trans e3).trans e4) (d.mono (msk_ex (e3.trans e4)))
    · have e5 : Ex H4 (upd H4 p (.tup (cutV us lo hi))) := Ex.new hp
      exact q _ _ (((e2.trans e3).trans e4).trans e5) (Dt.ofTupv (SqT.of (msk_at m4 hp)) ((ds.mono (msk_ex ((e3.trans e4).trans e5))).cut))
end
end Ly

namespace Ly
open PySem PySem.Spec PyProof.Rows L2 Evl
open PySem.W (Datum DatumOrd Tup T3 T4 minOf)
/-! ### loops that may be broken off -/
def loopB {S : Type} (f : S → Int → Lp Unit S) : Nat → Int → S → S
  | 0, _, s => s
  | n + 1, k, s => match f s k with
    | .ret _ => s
    | .brk u => u
    | .nxt u => loopB f n (k + 1) u
theorem loopB_succ {S : Type} {f : S → Int → Lp Unit S} {n i : Nat} {lo : Int} {s : S} (h : i < n) :
    loopB f (n - i) (lo + (i : Int)) s = (match f s (lo + (i : Int)) with | .ret _ => s | .brk u => u | .nxt u => loopB f (n - (i + 1)) (lo + ((i + 1 : Nat) : Int)) u) := by
  have e : n - i = (n - (i + 1)) + 1 := by omega
  have e2 : lo + (i : Int) + 1 = lo + ((i + 1 : Nat) : Int) := by omega
  rw [e, loopB, e2]
theorem loopB_nxt {S : Type} {f : S → Int → Lp Unit S} {n i : Nat} {lo : Int} {s u : S} (h : i < n) (e : f s (lo + (i : Int)) = .nxt u) : loopB f (n - i) (lo + (i : Int)) s = loopB f (n - (i + 1)) (lo + ((i + 1 : Nat) : Int)) u := by
  rw [loopB_succ h, e]
theorem loopB_brk {S : Type} {f : S → Int → Lp Unit S} {n i : Nat} {lo : Int} {s u : S} (h : i < n) (e : f s (lo + (i : Int)) = .brk u) : loopB f (n - i) (lo + (i : Int)) s = u := by
  rw [loopB_succ h, e]
theorem loopB_end {S : Type} {f : S → Int → Lp Unit S} {n : Nat} {lo : Int} {s : S} : loopB f (n - n) lo s = s := by rw [Nat.sub_self]; rfl
section
variable {K : PySem.W.Frag} {Mc M : List Addr} {He H H1 H2 : Hp} {is js : Ims} {ms : Mus} {σ : L2.St} {te ta tb tc : TE} {D : Ends}
/-- what may be none, where it is not -/
theorem hv_unopt {o : Option Int} (h : Hv K M te σ H o) (hn : o ≠ none) : Hv K M te σ H (o.getD 0) := by
  cases o with
  | none => exact absurd rfl hn
  | some x => exact h
/-- for x in range(lo, hi, -1) -/
theorem z_forRC {tu : TS} {j : Nat} {lo hi c : Int} (s : Sg K Mc He H is ms) (h1 : Hv K (muA ms ++ Mc) ta σ H lo) (h2 : Hv K (muA ms ++ Mc) tb σ H hi) (h3 : Hv K (muA ms ++ Mc) tc σ H c) (hc : c = -1) (hn : -100000 ≤ lo ∧ lo ≤ 100000 ∧ -100000 ≤ hi ∧ hi ≤ 100000)
    (Pv : Nat → L2.St → Hp → Prop) (h0 : ∀ H1, Sg K Mc He H1 is ms → Pv 0 σ H1)
    (hs : ∀ (i : Nat) (x : Int) σ' H', x = lo - ((0 : Int) + (i : Int)) → i < (lo - hi).toNat → Pv i σ' H' → tu { D with nx := Pv (i + 1), ct := Pv (i + 1), bk := D.nx } (σ'.set j (some (.int x))) H')
    (hd : ∀ σ' H', Pv (lo - hi).toNat σ' H' → D.nx σ' H') : tFor (iRng3 (tCons ta (tCons tb (tCons tc tNil)))) (gName j) tu D σ H := by
  subst hc
  exact h1 H (Ex.refl H) s.mok _ fun v H1 e d => h2 H1 e (s.mok.ex e) _ fun v' H2 e2 d' => h3 H2 (e.trans e2) ((s.mok.ex e).ex e2) _ fun v'' H3 e3 d'' => by
    refine ⟨lo, hi, -1, (lo - hi).toNat, by rw [d.int, d'.int, d''.int], RgC.neg (by omega) (by omega) (by omega) (by omega), L2.for_rangeC Pv (h0 H3 (((s.ex e).ex e2).ex e3)) (fun i σ' H' hi' p => ?_) hd⟩
    have e0 : lo + (i : Int) * -1 = lo - ((0 : Int) + (i : Int)) := by omega
    show tu { D with nx := Pv (i + 1), ct := Pv (i + 1), bk := D.nx } (σ'.set j (some (.int (lo + (i : Int) * -1)))) H'
    rw [e0]
    exact hs i _ σ' H' rfl hi' p
end
end Ly

namespace Ly
open PySem PySem.Spec PyProof.Rows L2 Evl
open PySem.W (Datum DatumOrd Tup T3 T4 minOf)
/-! ### the items of pages -/
inductive Pgi where
  | line (b l h n d : Int)
  | space (h : Int) (f : Bool)
  | pen (c : Int)
  | fin
  | flt (b h : Int)
  deriving DecidableEq
def Pgi.kind : Pgi → Str
  | .line _ _ _ _ _ => Str.ofString "line"
  | .space _ _ => Str.ofString "space"
  | .pen _ => Str.ofString "penalty"
  | .fin => Str.ofString "end"
  | .flt _ _ => Str.ofString "float"
def Pgi.tag : Pgi → Nat
  | .line _ _ _ _ _ => 0
  | .space _ _ => 1
  | .pen _ => 2
  | .fin => 3
  | .flt _ _ => 4
def Pgi.at1 : Pgi → Int
  | .line b _ _ _ _ => b | .space h _ => h | .pen c => c | .flt b _ => b | _ => 0
def Pgi.at2 : Pgi → Int
  | .line _ l _ _ _ => l | .flt _ h => h | _ => 0
def Pgi.at3 : Pgi → Int
  | .line _ _ h _ _ => h | _ => 0
def Pgi.at4 : Pgi → Int
  | .line _ _ _ n _ => n | _ => 0
def Pgi.at5 : Pgi → Int
  | .line _ _ _ _ d => d | _ => 0
def Pgi.fr : Pgi → Bool
  | .space _ f => f | _ => false
def Pgi.x : Pgi → List Xd
  | .line b l h n d => [.str (Str.ofString "line"), .int b, .int l, .int h, .int n, .int d]
  | .space h f => [.str (Str.ofString "space"), .int h, .bool f]
  | .pen c => [.str (Str.ofString "penalty"), .int c]
  | .fin => [.str (Str.ofString "end")]
  | .flt b h => [.str (Str.ofString "float"), .int b, .int h]
instance : Dx Pgi := ⟨fun i => .tuple i.x⟩
instance : SomeX Pgi := ⟨fun _ e => by cases e⟩
theorem Pgi.tag_le (i : Pgi) : i.tag ≤ 4 := by cases i <;> simp only [Pgi.tag] <;> decide
theorem pd_line (i : Pgi) : (i.kind = Str.ofString "line") = (i.tag = 0) := by
  cases i <;> simp only [Pgi.kind, Pgi.tag] <;> exact propext ⟨fun h => by first | rfl | (revert h; decide +kernel), fun h => by first | rfl | (revert h; decide)⟩
theorem pd_space (i : Pgi) : (i.kind = Str.ofString "space") = (i.tag = 1) := by
  cases i <;> simp only [Pgi.kind, Pgi.tag] <;> exact propext ⟨fun h => by first | rfl | (revert h; decide +kernel), fun h => by first | rfl | (revert h; decide)⟩
theorem pd_pen (i : Pgi) : (i.kind = Str.ofString "penalty") = (i.tag = 2) := by
  cases i <;> simp only [Pgi.kind, Pgi.tag] <;> exact propext ⟨fun h => by first | rfl | (revert h; decide +kernel), fun h => by first | rfl | (revert h; decide)⟩
theorem pd_fin (i : Pgi) : (i.kind = Str.ofString "end") = (i.tag = 3) := by
  cases i <;> simp only [Pgi.kind, Pgi.tag] <;> exact propext ⟨fun h => by first | rfl | (revert h; decide +kernel), fun h => by first | rfl | (revert h; decide)⟩
theorem pd_flt (i : Pgi) : (i.kind = Str.ofString "float") = (i.tag = 4) := by
  cases i <;> simp only [Pgi.kind, Pgi.tag] <;> exact propext ⟨fun h => by first | rfl | (revert h; decide +kernel), fun h => by first | rfl | (revert h; decide)⟩
section
variable {K : PySem.W.Frag} {M : List Addr} {H : Hp} {σ : L2.St} {te : TE} {i : Pgi}
theorem hv_py0 (h : Hv K M te σ H i) : Hv K M (tOp (rIxT K) te (tC (.int 0))) σ H i.kind := hv_atX 0 h rfl (by cases i <;> rfl)
theorem hv_py1 (h : Hv K M te σ H i) (s : i.tag ≠ 3) : Hv K M (tOp (rIxT K) te (tC (.int 1))) σ H i.at1 := hv_atX 1 h rfl (by cases i <;> first | rfl | (exfalso; simp [Pgi.tag] at s))
theorem hv_py2 (h : Hv K M te σ H i) (s : i.tag = 0 ∨ i.tag = 4) : Hv K M (tOp (rIxT K) te (tC (.int 2))) σ H i.at2 := hv_atX 2 h rfl (by cases i <;> first | rfl | (exfalso; simp [Pgi.tag] at s))
theorem hv_pyf (h : Hv K M te σ H i) (s : i.tag = 1) : Hv K M (tOp (rIxT K) te (tC (.int 2))) σ H i.fr := hv_atX 2 h rfl (by cases i <;> first | rfl | (exfalso; simp [Pgi.tag] at s))
theorem hv_py3 (h : Hv K M te σ H i) (s : i.tag = 0) : Hv K M (tOp (rIxT K) te (tC (.int 3))) σ H i.at3 := hv_atX 3 h rfl (by cases i <;> first | rfl | (exfalso; simp [Pgi.tag] at s))
theorem hv_py4 (h : Hv K M te σ H i) (s : i.tag = 0) : Hv K M (tOp (rIxT K) te (tC (.int 4))) σ H i.at4 := hv_atX 4 h rfl (by cases i <;> first | rfl | (exfalso; simp [Pgi.tag] at s))
theorem hv_py5 (h : Hv K M te σ H i) (s : i.tag = 0) : Hv K M (tOp (rIxT K) te (tC (.int 5))) σ H i.at5 := hv_atX 5 h rfl (by cases i <;> first | rfl | (exfalso; simp [Pgi.tag] at s))
end
section
variable {K : PySem.W.Frag} {Mc M : List Addr} {He H : Hp} {is : Ims} {ms : Mus} {σ : L2.St} {ta tb tc : TE} {tz : TS} {D : Ends}
theorem zq_forRC {tu : TS} {j : Nat} {lo hi c : Int} (s : Sg K Mc He H is ms) (h1 : Hv K (muA ms ++ Mc) ta σ H lo) (h2 : Hv K (muA ms ++ Mc) tb σ H hi) (h3 : Hv K (muA ms ++ Mc) tc σ H c) (hc : c = -1) (hn : -100000 ≤ lo ∧ lo ≤ 100000 ∧ -100000 ≤ hi ∧ hi ≤ 100000)
    (Pv : Nat → L2.St → Hp → Prop) (h0 : ∀ H1, Sg K Mc He H1 is ms → Pv 0 σ H1)
    (hs : ∀ (i : Nat) (x : Int) σ' H', x = lo - ((0 : Int) + (i : Int)) → i < (lo - hi).toNat → Pv i σ' H' → tu { D with nx := Pv (i + 1), ct := Pv (i + 1), bk := tz D } (σ'.set j (some (.int x))) H')
    (hd : ∀ σ' H', Pv (lo - hi).toNat σ' H' → tz D σ' H') : tSeq (tFor (iRng3 (tCons ta (tCons tb (tCons tc tNil)))) (gName j) tu) tz D σ H :=
  z_forRC (D := { D with nx := tz D }) s h1 h2 h3 hc hn Pv h0 hs hd
end
/-! ### items of pages are data: == -/
def Pgi.d : Pgi → List PyData
  | .line b l h n d => [.str (Str.ofString "line"), .int b, .int l, .int h, .int n, .int d]
  | .space h f => [.str (Str.ofString "space"), .int h, .bool f]
  | .pen c => [.str (Str.ofString "penalty"), .int c]
  | .fin => [.str (Str.ofString "end")]
  | .flt b h => [.str (Str.ofString "float"), .int b, .int h]
theorem Pgi.d_kind (i : Pgi) : ∃ r, i.d = .str i.kind :: r := by cases i <;> exact ⟨_, rfl⟩
theorem pgkind_tag {i j : Pgi} (h : i.kind = j.kind) : i.tag = j.tag := by
  have k0 := pd_line i; have k1 := pd_space i; have k2 := pd_pen i; have k3 := pd_fin i; have k4 := pd_flt i
  rw [h] at k0 k1 k2 k3 k4
  rw [pd_line] at k0
  rw [pd_space] at k1
  rw [pd_pen] at k2
  rw [pd_fin] at k3
  rw [pd_flt] at k4
  have t1 := Pgi.tag_le i
  have t2 := Pgi.tag_le j
  have e0 := k0.to_iff; have e1 := k1.to_iff; have e2 := k2.to_iff; have e3 := k3.to_iff; have e4 := k4.to_iff
  omega
theorem Pgi.eqv (a b : Pgi) : PyData.eqvAll a.d b.d = decide (a = b) := by
  by_cases h : a.kind = b.kind
  · have ht := pgkind_tag h
    cases a <;> cases b <;> first | (exfalso; simp [Pgi.tag] at ht; done) | (simp only [Pgi.d, PyData.eqvAll, eqvI, eqvS, eqvB]; simp [Bool.and_assoc])
  · obtain ⟨r, e⟩ := a.d_kind
    obtain ⟨r', e'⟩ := b.d_kind
    rw [e, e', PyData.eqvAll, eqvS, decide_eq_false h, Bool.false_and]
    exact (decide_eq_false fun z => h (by rw [z])).symm
instance : Datum Pgi where
  toD i := .tuple i.d
  plain i := by cases i <;> simp only [Pgi.d, PyData.plain, PyData.plainAll, Bool.and_self, Bool.and_true, Bool.true_and]
  eqv a b := by simp only [PyData.eqv]; exact Pgi.eqv a b
  depth := 2
  depth_le i := by cases i <;> simp only [Pgi.d, PyData.depth, PyData.depthAll] <;> (first | decide | omega)
instance : DxD Pgi := ⟨fun {K H v i} h => by
  cases h with
  | tup s a =>
    refine .tup s ?_
    cases i with
    | line b l h n d =>
      cases a with | cons a1 a => cases a with | cons a2 a => cases a with | cons a3 a => cases a with | cons a4 a => cases a with | cons a5 a => cases a with | cons a6 a =>
      cases a
      cases a1; cases a2; cases a3; cases a4; cases a5; cases a6
      exact .cons (.str _) (.cons (.int _) (.cons (.int _) (.cons (.int _) (.cons (.int _) (.cons (.int _) .nil)))))
    | space h f =>
      cases a with | cons a1 a => cases a with | cons a2 a => cases a with | cons a3 a =>
      cases a
      cases a1; cases a2; cases a3
      exact .cons (.str _) (.cons (.int _) (.cons (.bl _) .nil))
    | pen c =>
      cases a with | cons a1 a => cases a with | cons a2 a =>
      cases a
      cases a1; cases a2
      exact .cons (.str _) (.cons (.int _) .nil)
    | fin =>
      cases a with | cons a1 a =>
      cases a
      cases a1
      exact .cons (.str _) .nil
    | flt b h =>
      cases a with | cons a1 a => cases a with | cons a2 a => cases a with | cons a3 a =>
      cases a
      cases a1; cases a2; cases a3
      exact .cons (.str _) (.cons (.int _) (.cons (.int _) .nil))⟩
end Ly
namespace Ly
theorem ne_len {α : Type} {xs : List α} (h : (!xs.isEmpty) = true) : 0 < xs.length := by
  cases xs with
  | nil => cases h
  | cons x r => exact Nat.succ_pos _
end Ly
namespace Ly
theorem cutL_le {α : Type} {xs : List α} {a b : Option Int} : (cutL xs a b).length ≤ xs.length := by
  unfold cutL
  rw [List.length_take, List.length_drop]
  omega
end Ly

namespace Ly
open PySem PySem.Spec PyProof.Rows L2 Evl
open PySem.W (Datum DatumOrd Tup T3 T4 minOf)
/-! ### what is never reached; own things lent; defaults -/
def tFls : TE := fun _ _ _ => False
theorem pe_never {X : Cx} {e : Expr} : PE X e tFls := ⟨fun _ _ _ _ _ _ h => h.elim⟩
section
variable {K : PySem.W.Frag} {Mc M M' : List Addr} {He H H1 : Hp} {is : Ims} {ms : Mus} {σ : L2.St} {te ta tl : TE} {tu tz : TS} {g : TG} {D : Ends}
variable {α β γ : Type} [DecidableEq α] [Dx α] [DecidableEq β] [Dx β] [DecidableEq γ] [Dx γ]
/-- a number reckoned from own things that are only read: the mask may be less -/
theorem hv_lendI {i : Int} (h : Hv K M' te σ H i) (hm : ∀ a ∈ M', a ∈ M) : Hv K M te σ H i := fun H1 e1 m Q q =>
  h H1 e1 (fun a ha => m a (hm a ha)) Q fun v H2 e2 d => q v H2 e2 (by rw [d.int]; exact Dt.ofInt _)
theorem hv_lendB {b : Bool} (h : Hv K M' te σ H b) (hm : ∀ a ∈ M', a ∈ M) : Hv K M te σ H b := fun H1 e1 m Q q =>
  h H1 e1 (fun a ha => m a (hm a ha)) Q fun v H2 e2 d => q v H2 e2 (by rw [d.bool]; exact Dt.ofBool _)
/-- for over nothing -/
theorem zq_forNil {xs : List α} (s : Sg K Mc He H is ms) (h : Hv K (muA ms ++ Mc) tl σ H xs) (hx : xs = []) (q : ∀ H1, Sg K Mc He H1 is ms → tz D σ H1) : tSeq (tFor (iList K tl) g tu) tz D σ H :=
  zq_for s h (fun v i σ' H' => σ' = σ ∧ Sg K Mc He H' ((v, Dx.toX xs) :: is) ms) (fun v H1 s1 => ⟨rfl, s1⟩) (fun v i σ' H' hP => hP.2.im.1) (fun v i x w σ' H' hi _ _ => by rw [hx] at hi; cases hi)
    (fun v σ' H' hP => by obtain ⟨rfl, s1⟩ := hP; exact q H' (s1.keep fun _ h => h.2))
theorem zq_forNilV {xs : Tup α} (s : Sg K Mc He H is ms) (h : Hv K (muA ms ++ Mc) tl σ H xs) (hx : xs.items = []) (q : ∀ H1, Sg K Mc He H1 is ms → tz D σ H1) : tSeq (tFor (iTup K tl) g tu) tz D σ H :=
  h H (Ex.refl H) s.mok _ fun v H1 e d => by
    obtain ⟨a, us, rfl, s1, ds⟩ := d.tupv
    have hl := ds.len
    rw [hx] at hl
    have s1' : SqT K H1 a us := ex_t msk_le s1
    refine ⟨a, rfl, ⟨us, s1'⟩, fun i m σ' H' => i = 0 ∧ σ' = σ ∧ H' = H1, ⟨0, rfl, rfl, rfl⟩, ?_⟩
    rintro i m σ' H' ⟨rfl, rfl, rfl⟩
    exact .inl ⟨⟨us, s1', Nat.le_of_eq hl⟩, q _ (s.ex e)⟩
/-- for over nothing, counted -/
theorem zq_forNilE {xs : List α} (s : Sg K Mc He H is ms) (h : Hv K (muA ms ++ Mc) tl σ H xs) (hx : xs = []) (q : ∀ H1, Sg K Mc He H1 is ms → tz D σ H1) : tSeq (tFor (iEnum K (tCons tl tNil)) g tu) tz D σ H :=
  zq_forE s h (fun v i σ' H' => σ' = σ ∧ Sg K Mc He H' ((v, Dx.toX xs) :: is) ms) (fun v H1 s1 => ⟨rfl, s1⟩) (fun v i σ' H' hP => ⟨hP.2.im.1, hP.2.mok⟩) (fun v i x w σ' H' H'' hi _ _ _ => by rw [hx] at hi; cases hi)
    (fun v σ' H' hP => by obtain ⟨rfl, s1⟩ := hP; exact q H' (s1.keep fun _ h => h.2))
/-- tuple(a tuple) -/
theorem hv_tupleOfV {xs : Tup α} (h : Hv K M te σ H xs) : Hv K M (tCB (fun xs H Q => ∃ p ys, xs = [.ref p] ∧ ((SqL K H p ys ∧ ∀ l, H l = none → Q (.ref l) (upd H l (.tup ys))) ∨ (SqT K H p ys ∧ Q (.ref p) H))) (tCons te tNil)) σ H xs := fun H1 e m Q q =>
  h H1 e m _ fun v H2 e2 d => by
    obtain ⟨a, us, rfl, s1, ds⟩ := d.tupv
    exact ⟨a, us, rfl, .inr ⟨ex_t msk_le s1, q _ H2 e2 (Dt.ofTupv s1 ds)⟩⟩
end
/-! ### loops over lists that may be broken off -/
def loopBL {α S : Type} (f : S → α → Lp Unit S) : List α → S → S
  | [], s => s
  | x :: xs, s => match f s x with
    | .ret _ => s
    | .brk u => u
    | .nxt u => loopBL f xs u
theorem loopBL_nxt {α S : Type} {f : S → α → Lp Unit S} {xs : List α} {i : Nat} {x : α} {s u : S} (h : xs[i]? = some x) (e : f s x = .nxt u) : loopBL f (xs.drop i) s = loopBL f (xs.drop (i + 1)) u := by
  rw [drop_at h, loopBL, e]
theorem loopBL_brk {α S : Type} {f : S → α → Lp Unit S} {xs : List α} {i : Nat} {x : α} {s u : S} (h : xs[i]? = some x) (e : f s x = .brk u) : loopBL f (xs.drop i) s = u := by
  rw [drop_at h, loopBL, e]
theorem loopBL_end {α S : Type} {f : S → α → Lp Unit S} {xs : List α} {s : S} : loopBL f (xs.drop xs.length) s = s := by rw [List.drop_length]; rfl
end Ly
namespace Ly
open PySem PySem.Spec PyProof.Rows L2 Evl
open PySem.W (Datum DatumOrd Tup T3 T4 minOf)
section
variable {K : PySem.W.Frag} {Mc M M' : List Addr} {He H H1 : Hp} {is : Ims} {ms : Mus} {σ : L2.St} {te ta tl : TE} {tu tz : TS} {g : TG} {D : Ends}
variable {α β γ : Type} [DecidableEq α] [Dx α] [DecidableEq β] [Dx β] [DecidableEq γ] [Dx γ]
theorem zq_expr {x : α} (s : Sg K Mc He H is ms) (h : Hv K (muA ms ++ Mc) te σ H x) (q : ∀ H1, Sg K Mc He H1 is ms → tz D σ H1) : tSeq (tDrop te) tz D σ H :=
  h H (Ex.refl H) s.mok _ fun v H1 e d => q H1 (s.ex e)
theorem z_forG {xs : List α} {j : Nat} (s : Sg K Mc He H is ms) (h : Hv K (muA ms ++ Mc) tl σ H xs) (Pv : V → Nat → L2.St → Hp → Prop) (h0 : ∀ v H1, Sg K Mc He H1 ((v, Dx.toX xs) :: is) ms → Pv v 0 σ H1)
    (hl : ∀ v i σ' H', Pv v i σ' H' → Dt K (msk (muA ms ++ Mc) H') v xs)
    (hs : ∀ v i x w σ' H', xs[i]? = some x → Pv v i σ' H' → Dt K (msk (muA ms ++ Mc) H') w x → tu { D with nx := Pv v (i + 1), ct := Pv v (i + 1), bk := D.nx } (σ'.set j (some w)) H')
    (hd : ∀ v σ' H', Pv v xs.length σ' H' → D.nx σ' H') : tFor (iList K tl) (gName j) tu D σ H := z_for s h Pv h0 hl hs hd
theorem hf_lcNil {vs : List Nat} (s : Sg K Mc He H is ms) {xs : List α} (d : β) (h : Hv K (muA ms ++ Mc) tl σ H xs) (hx : xs = []) : HF K (muA ms ++ Mc) (tLc (iList K tl) g tYes te vs) σ H ([] : List β) := by
  have z := hf_lcL0 (te := te) (g := g) (vs := vs) s (fun _ => d) h (by rw [hx]; exact Nat.zero_le _) (fun _ _ x _ _ _ _ hm => by rw [hx] at hm; cases hm)
  rw [hx] at z
  exact z
theorem hf_lcNilV {vs : List Nat} (s : Sg K Mc He H is ms) {xs : Tup α} (d : β) (h : Hv K (muA ms ++ Mc) tl σ H xs) (hx : xs.items = []) : HF K (muA ms ++ Mc) (tLc (iTup K tl) g tYes te vs) σ H ([] : List β) := by
  have z := hf_lcV0 (te := te) (g := g) (vs := vs) s (fun _ => d) h (by rw [hx]; exact Nat.zero_le _) (fun _ _ x _ _ _ _ hm => by rw [hx] at hm; cases hm)
  rw [hx] at z
  exact z
theorem Dt.ofNon {H : Hp} : Dt K H .non () := .non
end
end Ly
namespace Ly
open PySem PySem.Spec PyProof.Rows L2 Evl
section
variable {K : PySem.W.Frag} {M : List Addr} {H : Hp} {σ : L2.St} {β : Type} [DecidableEq β] [Dx β] {γ : Type}
/-- C(k = v, ..), where defaults stand for the rest -/
theorem hv_makeKD {args : γ → List Xd} {pre : γ → Prop} {F : γ → β} {tr : TA} {E : XK} {cn : Str} {C : Addr} {n : Nat} {ds : List Xd} {gV : List V → List V → List V} (c : γ) (t : Ct K cn C) (h : HD K M tr σ H ds) (hn : ds.length = n) (p : pre c)
    (hg : ∀ (x : V) (vs : List V) (H2 : Hp), XpAll K H2 vs ds → ∃ ws, gV [x] vs = x :: ws ∧ XpAll K H2 ws (args c)) :
    Hv K M (tMakeK C 0 n (PrI K cn args pre F) gV E tNil tr) σ H (F c) := fun H1 e1 mk Q q =>
  h H1 e1 mk _ fun vs H2 e2 dd => ⟨rfl, by rw [dpa_len dd]; exact hn, fun x dx hx hdx ne => by
    have m2 := mk.ex e2
    have hx2 : upd H2 dx (.own x) x = none := by rw [upd_ne (fun z => ne z.symm)]; exact hx
    have ea : Ex H2 (upd H2 dx (.own x)) := Ex.new hdx
    have eb : Ex (upd H2 dx (.own x)) (upd (upd H2 dx (.own x)) x (.ins C dx [])) := Ex.new hx2
    have hxM : x ∉ M := fun z => m2 x z hx
    obtain ⟨ws, ew, dw⟩ := hg (.ref x) vs _ (dpa_mono ((msk_ex ea).trans (msk_new hx2)) dd)
    refine ⟨M, x, C, dx, ws, c, ew, ?_, hxM, t.ns, upd_same, dw, p, fun H' e' d => ⟨rfl, q _ _ ?_ d⟩⟩
    · intro l hl
      rcases List.mem_cons.mp hl with rfl | hl
      · rw [upd_same]; exact fun z => nomatch z
      · exact ((m2.ex ea).ex eb) l hl
    · refine e2.trans fun a o ho => e' a o ?_
      have na : a ≠ x := fun z => by rw [z, hx] at ho; cases ho
      rw [msk_out (by simpa using na)]
      exact eb a o (ea a o ho)⟩
end
end Ly

namespace Ly
open PySem PySem.Spec PyProof.Rows L2 Evl
theorem looks_forIn {α β : Type} {M : Model} {h : Heap} {f : α → β → Sem (ForInStep β)} : ∀ (xs : List α) (st : Nat → β), (∀ i x, xs[i]? = some x → PySem.W.Looks M h (f x (st i)) (.yield (st (i + 1)))) → PySem.W.Looks M h (forIn xs (st 0) f) (st xs.length)
  | [], st, _ => .of_pure rfl
  | x :: xs, st, hs => by
    rw [List.forIn_cons]
    refine (hs 0 x rfl).andThen ?_
    exact looks_forIn xs (fun i => st (i + 1)) fun i y hy => hs (i + 1) y (by simpa using hy)
theorem lk_none {α : Type} : ∀ {l : List (Str × α)} {n : Str}, n ∉ l.map (·.1) → l.lookup n = none
  | [], _, _ => rfl
  | (g, v) :: r, n, h => by
    have h' : ¬ (n = g ∨ n ∈ r.map (·.1)) := by simpa using h
    rw [List.lookup_cons, show (n == g) = false by simpa using fun z => h' (.inl z)]
    exact lk_none fun z => h' (.inr z)
theorem lk_app {α : Type} : ∀ {l r : List (Str × α)} {n : Str}, (l ++ r).lookup n = (l.lookup n).or (r.lookup n)
  | [], r, n => rfl
  | (g, v) :: l, r, n => by
    rw [List.cons_append, List.lookup_cons, List.lookup_cons]
    cases n == g with
    | true => rfl
    | false => exact lk_app
theorem fm_some {α β : Type} {f : α → Option β} {g : α → β} : ∀ xs : List α, (∀ x ∈ xs, f x = some (g x)) → xs.filterMap f = xs.map g
  | [], _ => rfl
  | x :: xs, h => by
    rw [List.filterMap_cons, h x (List.mem_cons_self ..), List.map_cons, fm_some xs fun y hy => h y (List.mem_cons_of_mem _ hy)]
/-- the slots behind i of the keyword-only names -/
def kwSlots (dv : Str → Value) (sl : List (Str × Value)) : List Str → List (Str × Value)
  | [] => sl
  | n :: r => kwSlots dv (if (sl.lookup n).isNone then sl ++ [(n, dv n)] else sl) r
theorem kwSlots_snoc (dv : Str → Value) : ∀ (ns : List Str) (sl : List (Str × Value)) (n : Str), kwSlots dv sl (ns ++ [n]) = (if ((kwSlots dv sl ns).lookup n).isNone then kwSlots dv sl ns ++ [(n, dv n)] else kwSlots dv sl ns)
  | [], sl, n => rfl
  | m :: ns, sl, n => kwSlots_snoc dv ns _ n
theorem kwSlots_lk (dv : Str → Value) : ∀ (ns : List Str) (sl : List (Str × Value)) (n : Str), (kwSlots dv sl ns).lookup n = if n ∈ ns then some ((sl.lookup n).getD (dv n)) else sl.lookup n
  | [], sl, n => by simp [kwSlots]
  | m :: ns, sl, n => by
    rw [kwSlots, kwSlots_lk dv ns]
    by_cases e : n = m
    · subst e
      cases q : sl.lookup n with
      | none =>
        have e1 : (if (none : Option Value).isNone = true then sl ++ [(n, dv n)] else sl).lookup n = some (dv n) := by
          simp only [Option.isNone_none, if_true, lk_app, q, List.lookup_cons, beq_self_eq_true]; rfl
        rw [e1]
        simp
      | some z =>
        have e1 : (if (some z : Option Value).isNone = true then sl ++ [(n, dv n)] else sl).lookup n = some z := by
          rw [if_neg (by simp)]; exact q
        rw [e1]
        simp
    · have e1 : (if (sl.lookup m).isNone = true then sl ++ [(m, dv m)] else sl).lookup n = sl.lookup n := by
        split
        · rw [lk_app, List.lookup_cons, show (n == m) = false by simpa using e]; simp [List.lookup]
        · rfl
      rw [e1]
      simp [e]
theorem bind_kw1 {K : PySem.W.Frag} {fd : FuncData} {D : Addr} {sp : Str} {kn : List Str} (h1 : fd.params.posonlyargs = []) (h2 : fd.params.args.map (·.arg) = [sp]) (h3 : fd.params.kwonlyargs.map (·.arg) = kn) (h4 : fd.params.vararg = none) (h5 : fd.params.kwarg = none) (h6 : fd.defaults = .none) (h7 : fd.kwdefaults = .ref D) (nd : (sp :: kn).Nodup)
    {h : Heap} (X : K.In h) (v : Value) (kws : List (Str × Value)) (hk : ∀ q ∈ kws, q.1 ∈ kn) (ndk : (kws.map (·.1)).Nodup) (dv : Str → Value) (hd : ∀ n ∈ kn, kws.lookup n = none → PySem.W.nsIn K D n = some (some (dv n))) (M : Model) :
    PySem.W.Looks M h (bindArgs fd ⟨[v], kws⟩) ((sp, v) :: kn.map fun n => (n, (kws.lookup n).getD (dv n))) := by
  have nsp : sp ∉ kn := (List.nodup_cons.mp nd).1
  unfold bindArgs
  simp only [h1, h2, h3, h4, h5, h6, h7]
  refine PySem.W.Looks.andThen (looks_forIn kws (fun i => ([(sp, v)] ++ kws.take i, ([] : List (Str × Value)))) fun i x hx => ?_) ?_
  · have hm := hk x (List.mem_of_getElem? hx)
    have hc : ([sp].contains x.fst || kn.contains x.fst) = true := by simp [hm]
    have hl : (List.lookup x.fst ([(sp, v)] ++ kws.take i)) = none := lk_none (by
      intro z
      rw [List.map_append, List.mem_append] at z
      rcases z with z | z
      · have : x.fst = sp := by simpa using z
        exact nsp (this ▸ hm)
      · rw [List.map_take] at z
        have hi := (List.getElem?_eq_some_iff.mp hx)
        obtain ⟨hi1, hi2⟩ := hi
        have h2 : (kws.map (·.1))[i]? = some x.1 := by rw [List.getElem?_map, hx]; rfl
        obtain ⟨j, hj, hj2⟩ := List.getElem_of_mem z
        rw [List.length_take] at hj
        rw [List.getElem_take] at hj2
        obtain ⟨hb, h3⟩ := List.getElem?_eq_some_iff.mp h2
        exact (List.pairwise_iff_getElem.mp ndk j i (by omega) hb (by omega)) (hj2.trans h3.symm))
    dsimp only
    rw [if_pos hc, hl, if_neg (by simp)]
    refine .of_pure ?_
    rw [List.take_succ, hx, List.append_assoc]; rfl
  · dsimp only
    rw [List.take_length]
    refine PySem.W.Looks.andThen (a := none) (.of_pure rfl) ?_
    rw [if_neg (by simp), if_neg (by simp [List.lookup])]
    refine PySem.W.Looks.andThen (a := [(sp, v)] ++ kws) (.of_pure rfl) ?_
    have nk := (List.nodup_cons.mp nd).2
    have lks : ∀ n ∈ kn, ([(sp, v)] ++ kws).lookup n = kws.lookup n := fun n hn => by
      rw [List.cons_append, List.lookup_cons, show (n == sp) = false by simpa using fun (z : n = sp) => nsp (z ▸ hn)]; rfl
    refine PySem.W.Looks.andThen (looks_forIn kn (fun i => (kwSlots dv ([(sp, v)] ++ kws) (kn.take i), ([] : List Str))) fun i n hn => ?_) ?_
    · have hm := List.mem_of_getElem? hn
      have nt : n ∉ kn.take i := fun z => by
        obtain ⟨j, hj, hj2⟩ := List.getElem_of_mem z
        rw [List.length_take] at hj
        rw [List.getElem_take] at hj2
        obtain ⟨hb, h3⟩ := List.getElem?_eq_some_iff.mp hn
        exact (List.pairwise_iff_getElem.mp nk j i (by omega) hb (by omega)) (hj2.trans h3.symm)
      have hl : (kwSlots dv ([(sp, v)] ++ kws) (kn.take i)).lookup n = kws.lookup n := by
        rw [kwSlots_lk, if_neg nt, lks n hm]
      have hs : kwSlots dv ([(sp, v)] ++ kws) (kn.take (i + 1)) = if (kws.lookup n).isNone then kwSlots dv ([(sp, v)] ++ kws) (kn.take i) ++ [(n, dv n)] else kwSlots dv ([(sp, v)] ++ kws) (kn.take i) := by
        rw [List.take_succ, hn]
        show kwSlots dv _ (kn.take i ++ [n]) = _
        rw [kwSlots_snoc, hl]
      dsimp only
      rw [hl, hs]
      cases q : kws.lookup n with
      | none =>
        simp only [Option.isNone_none, if_true]
        refine (PySem.W.looks_nsIn X (hd n hm q)).andThen ?_
        exact .of_pure rfl
      | some z =>
        simp only [Option.isNone_some, Bool.false_eq_true, if_false]
        exact .of_pure rfl
    · rw [List.take_length]
      refine .of_pure ?_
      dsimp only
      rw [if_neg (by simp)]
      congr 1
      show List.filterMap _ (sp :: kn) = _
      have e0 : (kwSlots dv ([(sp, v)] ++ kws) kn).lookup sp = some v := by
        rw [kwSlots_lk, if_neg nsp, List.cons_append, List.lookup_cons, beq_self_eq_true]
      rw [List.filterMap_cons, e0]
      show (sp, v) :: _ = _
      congr 1
      refine fm_some _ fun n hn => ?_
      rw [kwSlots_lk, if_pos hn, lks n hn]
      rfl
/-- the place of a name -/
def nix (n : Str) : List Str → Option Nat
  | [] => none
  | m :: r => if n = m then some 0 else (nix n r).map (· + 1)
theorem nix_zip {n : Str} : ∀ {ns : List Str} {ws : List Value}, ws.length = ns.length → (ns.zip ws).lookup n = (nix n ns).map fun i => ws.getD i .none
  | [], _, _ => rfl
  | m :: r, w :: ws, h => by
    rw [List.zip_cons_cons, List.lookup_cons, nix]
    by_cases e : n = m
    · rw [if_pos e, show (n == m) = true by simpa using e]; rfl
    · rw [if_neg e, show (n == m) = false by simpa using e]
      dsimp only
      rw [nix_zip (by simpa using h), Option.map_map]
      rfl
theorem nix_some {n : Str} : ∀ {ns : List Str}, n ∈ ns → ∃ i, nix n ns = some i ∧ ns[i]? = some n
  | m :: r, h => by
    by_cases e : n = m
    · exact ⟨0, by rw [nix, if_pos e], by rw [e]; rfl⟩
    · obtain ⟨i, h1, h2⟩ := nix_some ((List.mem_cons.mp h).resolve_left e)
      exact ⟨i + 1, by rw [nix, if_neg e, h1]; rfl, by simpa using h2⟩
def kcode (given mn : List Str) (n : Str) : Bool × Nat := match nix n given with
  | some i => (true, i)
  | none => (false, (nix n mn).getD 0)
def pickU (mv ws : List Value) (c : Bool × Nat) : Value := if c.1 = true then ws.getD c.2 .none else mv.getD c.2 .none
def pickW (mz zs : List V) (c : Bool × Nat) : V := if c.1 = true then zs.getD c.2 .non else mz.getD c.2 .non
theorem vals_getD : ∀ {zs : List V} {ws : List Value} (i : Nat), Vals zs ws → RelV (zs.getD i .non) (ws.getD i .none)
  | _, _, _, .nil => by simp only [List.getD_nil]; rfl
  | _, _, 0, .cons r _ => r
  | _, _, i + 1, .cons _ rr => by simpa using vals_getD i rr
theorem vals_map {zs mz : List V} {ws mv : List Value} (r : Vals zs ws) (rm : Vals mz mv) : ∀ cs : List (Bool × Nat), Vals (cs.map (pickW mz zs)) (cs.map (pickU mv ws))
  | [] => .nil
  | c :: cs => .cons (by unfold pickW pickU; split; exact vals_getD _ r; exact vals_getD _ rm) (vals_map r rm cs)
theorem kbn_kw {K : PySem.W.Frag} {x qual : Str} {params : Arguments} {body : List Stmt} {scope : Scope} {D : Addr} {doc pm cdv ct : Value} {an : Option Addr} {sp : Str} {kn : List Str} (given mn : List Str) (codes : List (Bool × Nat)) (mz : List V) (mv : List Value)
    (h1 : params.posonlyargs = []) (h2 : params.args.map (·.arg) = [sp]) (h3 : params.kwonlyargs.map (·.arg) = kn) (h4 : params.vararg = none) (h5 : params.kwarg = none) (nd : (sp :: kn).Nodup)
    (hg : ∀ n ∈ given, n ∈ kn) (gd : given.Nodup) (hm : ∀ n ∈ kn, n ∈ given ∨ n ∈ mn) (hc : kn.map (kcode given mn) = codes) (hmv : ∀ i n, mn[i]? = some n → PySem.W.nsIn K D n = some (some (mv.getD i .none))) (rm : Vals mz mv) :
    KBn K (PySem.W.fnOf x qual params body scope .none (.ref D) doc pm an cdv ct) (sp :: kn) 1 given (fun us ws => us ++ codes.map (pickU mv ws)) (fun vs zs => vs ++ codes.map (pickW mz zs)) := by
  refine ⟨fun s us ws X l1 l2 => ?_, fun r1 r2 => r1.append (vals_map r2 rm codes)⟩
  match us, l1 with
  | [v], _ =>
    have fst_zip : (given.zip ws).map (·.1) = given := by
      rw [List.map_fst_zip]; omega
    refine BindsTo.of_looks fun M => ?_
    have key := bind_kw1 (fd := PySem.W.fnOf x qual params body scope .none (.ref D) doc pm an cdv ct) h1 h2 h3 h4 h5 rfl rfl nd X v (given.zip ws) (fun q hq => hg _ (by rw [← fst_zip]; exact List.mem_map_of_mem hq)) (by rw [fst_zip]; exact gd)
      (fun n => mv.getD ((nix n mn).getD 0) .none) (fun n hn hl => by
        have ng : n ∉ given := fun z => by
          obtain ⟨i, e1, e2⟩ := nix_some z
          rw [nix_zip l2, e1] at hl
          cases hl
        obtain ⟨i, e1, e2⟩ := nix_some ((hm n hn).resolve_left ng)
        rw [e1]
        exact hmv i n e2) M
    have e : (sp, v) :: kn.map (fun n => (n, ((given.zip ws).lookup n).getD (mv.getD ((nix n mn).getD 0) .none))) = (sp :: kn).zip ([v] ++ codes.map (pickU mv ws)) := by
      rw [← hc, List.map_map, List.singleton_append, List.zip_cons_cons]
      congr 1
      have z : ∀ l : List Str, l.map (fun n => (n, ((given.zip ws).lookup n).getD (mv.getD ((nix n mn).getD 0) .none))) = l.zip (l.map (pickU mv ws ∘ kcode given mn)) := by
        intro l
        induction l with
        | nil => rfl
        | cons n l ih =>
          rw [List.map_cons, List.map_cons, List.zip_cons_cons, ih, nix_zip l2]
          congr 2
          show _ = pickU mv ws (kcode given mn n)
          unfold kcode
          split <;> rename_i q <;> rw [q] <;> rfl
      exact z kn
    rw [← e]
    exact key
end Ly
namespace Ly
open PySem PySem.Spec PyProof.Rows L2 Evl
theorem xp_at {K : PySem.W.Frag} {H : Hp} : ∀ {vs : List V} {ds : List Xd} {d : Xd} (i : Nat), XpAll K H vs ds → ds[i]? = some d → Xp K H (vs.getD i .non) d
  | _, _, _, _, .nil, h => by simp at h
  | _, _, _, 0, .cons a _, h => by cases h; exact a
  | _, _, _, i + 1, .cons _ b, h => by simpa using xp_at i b (by simpa using h)
end Ly
namespace Ly
open PySem PySem.Spec PyProof.Rows L2 Evl
/-! ### enumerate(an empty tuple) -/
theorem enumV_new {v : Value} {o : Obj} {S : Heap → Prop} (B : Begins v o S) :
    Meets (Builtin.«enumerate.__new__» ⟨[.type "enumerate", v], []⟩) (fun _ R s => S s.heap ∧ R (.ok (.ret (.ref (s.heap.push o).objs.size))) { s with heap := (s.heap.push o).push { cls := .type "enumerate", data := .fields #[.none, .bool false, .ref s.heap.objs.size, rawInt 0, .none, .none] } }) :=
  .of_wp fun pr wo Ar R sh hh => by
    obtain ⟨ph, pg, pd, pt, po⟩ := sh; obtain ⟨b1, b2⟩ := hh; have su := sub_enumerate
    have q1 : ∀ {A' : Around} {E : Value → Shared → Prop} {Q : Value → Shared → Prop}, Q (.ref ph.objs.size) ⟨ph.push o, pg, pd, pt, po⟩ → wpAny (model pr wo) A' (pyIter v) Q E ⟨ph, pg, pd, pt, po⟩ := fun q => B.iter pr wo _ _ ⟨ph, pg, pd, pt, po⟩ _ b1 q
    wp_walk using q1
    refine wpAny_stack_any fun zz => wpAny_pure ?_; split
    · rename_i cc _ _ _ _ _
      cases (cc == Value.type "enumerate") <;> (wp_walk using q1; exact ⟨_, rfl, b2⟩)
    · wp_walk using q1; exact ⟨_, rfl, b2⟩
theorem enumV_begins {prog : Program} {w : World} {A : Around} {E : Value → Shared → Prop} {s : Shared} {v : Value} {o : Obj} {S : Heap → Prop} {Q : Value → Shared → Prop} (B : Begins v o S) (h1 : S s.heap)
    (h : ∀ h', IsEnum h' (s.heap.objs.size + 1) s.heap.objs.size 0 .none → h'.get? s.heap.objs.size = some o → h'.objs.size = s.heap.objs.size + 2 → (∀ b o, s.heap.get? b = some o → h'.get? b = some o) → Q (.ref (s.heap.objs.size + 1)) { s with heap := h' }) :
    wpAny (model prog w) A (call (.type "enumerate") [v]) Q E s := by
  refine callType_new F.called_enumerate (by decide) (F.typeCall_enumerate_1 _) (F.newCall_enumerate_1 _) (fun y => F.args_object_init_2 y _) F.entry_enumerate_new (enumV_new B) ⟨h1, ?_⟩
  have z1 : (s.heap.push o).objs.size = s.heap.objs.size + 1 := Heap.size_push ..
  show _ ∧ _
  rw [z1]
  have z2 : IsEnum ((s.heap.push o).push { cls := .type "enumerate", data := .fields #[.none, .bool false, .ref s.heap.objs.size, rawInt 0, .none, .none] }) (s.heap.objs.size + 1) s.heap.objs.size 0 .none := by
    have z3 := Heap.get?_push_size (s.heap.push o) (o := { cls := .type "enumerate", data := .fields #[.none, .bool false, .ref s.heap.objs.size, rawInt 0, .none, .none] }) rfl
    rw [z1] at z3; exact z3
  exact ⟨⟨_, z2, rfl⟩, h _ z2 (Heap.get?_push_of_some _ (Heap.get?_push_size _ B.free)) (by rw [Heap.size_push, z1]) fun b o x => Heap.get?_push_of_some _ (Heap.get?_push_of_some _ x)⟩
/-- enumerate of an empty tuple: it only stops -/
def IteV (K : PySem.W.Frag) (a : Addr) : It := ⟨fun i H => False, fun i H v H' => False, fun i H => i = 0 ∧ SqT K H a []⟩
theorem turn_enumV {P : Program} {w : World} {K : PySem.W.Frag} {elts : List Expr} {kk : Nat} {tpos : Pos} (a e it : Addr) (hne : e ≠ it) :
    Turn P w K (.Tuple elts kk tpos) (IteV K a) [e, it] e (fun i h => (∃ old, IsEnum h e it ((i : Nat) : Int) old) ∧ h.IsTupleIter it a i) where
  mem := by simp
  obj := fun i h st b hb => by
    obtain ⟨⟨old, he⟩, ⟨o, ho, hc, hd⟩⟩ := st
    have z : b = e ∨ b = it := by simpa using hb
    rcases z with z | z
    · rw [z]; exact ⟨_, he, fun v q => nomatch q⟩
    · rw [z]; exact ⟨o, ho, fun v q => by rw [hd] at q; cases q⟩
  keep := fun i h h' st k => by
    obtain ⟨⟨old, he⟩, hi⟩ := st
    exact ⟨⟨old, k e (by simp) _ he⟩, hi.at fun o q => k it (by simp) o q⟩
  item := by
    intro X hP hw hK hc i pins s σ H E I hf st hg
    exact hg.elim
  done := by
    intro X hP hw hK hc i pins s σ H E I hf st hg
    subst hP hw hK
    obtain ⟨rfl, hq⟩ := hg
    obtain ⟨⟨old, he⟩, hit⟩ := st
    obtain ⟨la, ra, pa, _⟩ := I.tuple hq
    cases ra
    have na : a ≠ it := fun q => by
      obtain ⟨oa, ha, ka, _⟩ := pa
      obtain ⟨ob, hb, kb, _⟩ := hit
      rw [q, hb] at ha
      cases ha
      rw [kb] at ka
      exact absurd (Value.type.inj ka) (by decide)
    have dr := Draws.tuple (prog := X.prog) (w := X.w) (show X.A.in1.handled = none from I.ok.hd hc) it a na #[]
    refine wpAny_pyNext_enum_endD dr he ⟨hit, pa⟩ fun h1 d => ⟨rfl, ?_⟩
    refine I.turnedL (t' := s.toks) (ch := [e, it]) (fun c o n q => ?_) hf
    exact d c o (fun t => n (by rw [t]; simp)) q
  self := fun A i s Q E st h => by
    obtain ⟨⟨_, he⟩, _⟩ := st
    exact wpAny_pyIter_enum he h
def iEnumV (K : PySem.W.Frag) (ta : TA) : TI := fun σ H R => ta σ H fun vs H1 => ∃ a, vs = [.ref a] ∧ SqT K H1 a [] ∧ R (IteV K a) H1
theorem pi_enumV {X : Cx} {e : Expr} {ta : TA} {p pos tpos : Pos} {elts : List Expr} {kk : Nat} (hg : Gl X "enumerate") (hm : X.mg "enumerate" = none) (ha : PA X [e] ta) (hs : starEach [e] X.env = [(false, eval e X.env)] := by rfl) :
    PI X (.Tuple elts kk tpos) (.Call (.Name "enumerate" p) [e] [] pos) (iEnumV X.K ta) := by
  constructor
  intro pins s σ H R I h
  refine Call_ (ld_blt I hg hm boot_enumerate (PyProof.Rows.callWith_type1 (thn (ha.run pos pins s σ H _ I h) ?_) hs rfl))
  rintro us s1 ⟨vs, H1, J, rz, a, rfl, hq, q⟩
  cases rz with
  | cons r rr =>
    cases rr; cases r
    obtain ⟨la, ra, pa, _⟩ := J.tuple hq
    cases ra
    refine enumV_begins (begins_tuple a #[]) pa fun h' he hit hsz hk => wpAny_pyIter_enum he ?_
    refine ⟨s1.heap.objs.size + 1, [s1.heap.objs.size + 1, s1.heap.objs.size], _, _, H1, rfl, J.kept (t' := s1.toks) hk, turn_enumV a (s1.heap.objs.size + 1) s1.heap.objs.size (Nat.succ_ne_self _), ⟨⟨.none, he⟩, ⟨_, hit, rfl, rfl⟩⟩, fun b hb => ?_, q⟩
    have le : s1.heap.objs.size ≤ b := by
      rcases (by simpa using hb : b = s1.heap.objs.size + 1 ∨ b = s1.heap.objs.size) with rfl | rfl <;> omega
    exact J.fpOk le (J.hok.fresh le)
section
variable {K : PySem.W.Frag} {Mc M : List Addr} {He H : Hp} {is : Ims} {ms : Mus} {σ : L2.St} {tl : TE} {tu tz : TS} {g : TG} {D : Ends} {α : Type} [DecidableEq α] [Dx α]
theorem zq_forNilEV {xs : PySem.W.Tup α} (s : Sg K Mc He H is ms) (h : Hv K (muA ms ++ Mc) tl σ H xs) (hx : xs.items = []) (q : ∀ H1, Sg K Mc He H1 is ms → tz D σ H1) : tSeq (tFor (iEnumV K (tCons tl tNil)) g tu) tz D σ H :=
  h H (Ex.refl H) s.mok _ fun v H1 e d => by
    obtain ⟨a, us, rfl, s1, ds⟩ := d.tupv
    have hl := ds.len
    rw [hx] at hl
    have hu : us = [] := List.length_eq_zero_iff.mp hl
    subst hu
    have s1' : SqT K H1 a [] := ex_t msk_le s1
    refine ⟨a, rfl, s1', fun i m σ' H' => i = 0 ∧ σ' = σ ∧ H' = H1, ⟨0, rfl, rfl, rfl⟩, ?_⟩
    rintro i m σ' H' ⟨rfl, rfl, rfl⟩
    exact .inl ⟨⟨rfl, s1'⟩, q _ (s.ex e)⟩
end
end Ly
namespace Ly
open PySem PySem.Spec PyProof.Rows L2 Evl
/-! ### a op1 b op2 c op3 d, as a test -/
section
variable {X : Cx} {a b c d : Expr} {ta tb tc td : TE} {pos : Pos}
def tChain3 (r1 r2 r3 : R2) (ta tb tc td : TE) : TE := fun σ H Q => ta σ H fun x H1 => tb σ H1 fun y H2 => r1 x y H2 fun z H3 => ∃ k, z = .bl k ∧
  (if k = true then tc σ H3 fun w' H4 => r2 y w' H4 fun z2 H5 => ∃ k2, z2 = .bl k2 ∧ (if k2 = true then td σ H5 fun v' H6 => r3 w' v' H6 Q else Q (.bl false) H5) else Q (.bl false) H3)
theorem pt_chain3 {o1 o2 o3 : CmpOp} {r1 r2 r3 : R2} (h1 : OpR X (compareOp o1) r1) (h2 : OpR X (compareOp o2) r2) (h3 : OpR X (compareOp o3) r3) (ha : PE X a ta) (hb : PE X b tb) (hc : PE X c tc) (hd : PE X d td)
    (hm : lastMarks [o1, o2, o3] [b, c, d] = false := by with_unfolding_all rfl) : PT X (.Compare a [o1, o2, o3] [b, c, d] pos) (tTest (tChain3 r1 r2 r3 ta tb tc td)) := by
  constructor
  intro pins s σ H Q I h
  refine isTrue_chain (thn (ha.run pins s σ H _ I h) fun v s1 ⟨x, H1, I1, rx, q1⟩ => test_link (thn (hb.run pins s1 σ H1 _ I1 q1) fun u s2 ⟨y, H2, I2, ry, q2⟩ => thn (h1 pins s2 σ H2 x y v u _ I2 rx ry q2) fun _ s3 ⟨z, H3, I3, rz, k, e, q3⟩ => ?_)) hm
  subst e; cases rz; apply wpAny_truthy_bool
  cases k with
  | false => obtain ⟨k', e', q'⟩ := q3; cases e'; exact ite_ff ⟨H3, I3, q'⟩
  | true =>
    refine ite_tt (test_link (thn (hc.run pins s3 σ H3 _ I3 q3) fun w' s4 ⟨z', H4, I4, r4, q4⟩ => thn (h2 pins s4 σ H4 y z' u w' _ I4 ry r4 q4) fun _ s5 ⟨z2, H5, I5, r5, k2, e2, q5⟩ => ?_))
    subst e2; cases r5; apply wpAny_truthy_bool
    cases k2 with
    | false => obtain ⟨k', e', q'⟩ := q5; cases e'; exact ite_ff ⟨H5, I5, q'⟩
    | true =>
      refine ite_tt (test_last (thn (hd.run pins s5 σ H5 _ I5 q5) fun p' s6 ⟨y', H6, I6, r6, q6⟩ => thn (h3 pins s6 σ H6 z' y' w' p' _ I6 r4 r6 q6) fun _ s7 ⟨z3, H7, I7, r7, k3, e3, q7⟩ => ?_))
      subst e3; cases r7; apply wpAny_truthy_bool
      exact ⟨H7, I7, q7⟩
end
section
variable {K : PySem.W.Frag} {M : List Addr} {σ : L2.St} {H : Hp} {ta tb tc td : TE}
theorem hv_chain3 {g1 g2 g3 : Int → Int → Bool} {i j k l : Int} (ha : Hv K M ta σ H i) (hb : Hv K M tb σ H j) (hc : Hv K M tc σ H k) (hd : Hv K M td σ H l) :
    Hv K M (tChain3 (rI0 fun i j => .bl (g1 i j)) (rI0 fun i j => .bl (g2 i j)) (rI0 fun i j => .bl (g3 i j)) ta tb tc td) σ H (g1 i j && (g2 j k && g3 k l)) := fun H1 e m Q q =>
  ha H1 e m _ fun v H2 e2 d => hb H2 (e.trans e2) (m.ex e2) _ fun u H3 e3 d' => ⟨i, j, d.int, d'.int, g1 i j, rfl, by
    cases hg : g1 i j with
    | false => rw [if_neg Bool.false_ne_true]; exact q _ H3 (e2.trans e3) (by rw [hg]; exact Dt.ofBool _)
    | true =>
      rw [if_pos rfl]
      refine hc H3 ((e.trans e2).trans e3) ((m.ex e2).ex e3) _ fun z H4 e4 d'' => ⟨j, k, d'.int, d''.int, g2 j k, rfl, ?_⟩
      cases hg2 : g2 j k with
      | false => rw [if_neg Bool.false_ne_true]; exact q _ H4 ((e2.trans e3).trans e4) (by rw [hg, hg2]; exact Dt.ofBool _)
      | true =>
        rw [if_pos rfl]
        refine hd H4 (((e.trans e2).trans e3).trans e4) (((m.ex e2).ex e3).ex e4) _ fun y H5 e5 d3 => ⟨k, l, d''.int, d3.int, q _ H5 (((e2.trans e3).trans e4).trans e5) ?_⟩
        show Dt K _ (V.bl (g3 k l)) _
        rw [hg, hg2]
        exact Dt.ofBool _⟩
end
end Ly
namespace Ly
open PySem PySem.Spec PyProof.Rows L2 Evl
section
variable {K : PySem.W.Frag} {M : List Addr} {σ : L2.St} {H : Hp} {te : TE}
theorem bls_of {H : Hp} : ∀ {vs : List V} {xs : List Bool}, Dts K H vs xs → vs = xs.map V.bl
  | [], [], _ => rfl
  | v :: vs, x :: xs, h => by
    cases h with
    | cons a b => rw [List.map_cons, ← bls_of b, (show Dt K H v x from a).bool]
theorem hv_allL {bs : List Bool} (h : HS K M te σ H bs) : Hv K M (tCB (rAll K) (tCons te tNil)) σ H (bs.all id) := fun H1 e m Q q =>
  h H1 e m _ fun a vs H2 e2 s ds => ⟨a, bs, rfl, by rw [← bls_of ds]; exact s, q _ H2 e2 (Dt.ofBool _)⟩
theorem hv_anyL {bs : List Bool} (h : HS K M te σ H bs) : Hv K M (tCB (rAny K) (tCons te tNil)) σ H (bs.any id) := fun H1 e m Q q =>
  h H1 e m _ fun a vs H2 e2 s ds => ⟨a, bs, rfl, by rw [← bls_of ds]; exact s, q _ H2 e2 (Dt.ofBool _)⟩
end
end Ly

namespace Ly
open PySem PySem.Spec PyProof.Rows L2 Evl
open PySem.W (Datum DatumOrd Tup T3 T4 minOf)
/-! ### set blocks: tuples of five -/
abbrev Ln := T4 Int (Tup Int) (Tup (Int × Tup Int)) (Tup Int)
structure Sbk where
  ls : Tup Ln
  hd : Int
  fl : Bool
  en : Bool
  kn : Bool
  deriving DecidableEq
instance : Dx Sbk := ⟨fun b => .tuple [Dx.toX b.ls, .int b.hd, .bool b.fl, .bool b.en, .bool b.kn]⟩
instance : SomeX Sbk := ⟨fun _ e => by cases e⟩
section
variable {K : PySem.W.Frag} {Mc M : List Addr} {He H H1 : Hp} {is : Ims} {ms : Mus} {σ : L2.St} {te tl : TE} {tz tu : TS} {D : Ends} {b : Sbk} {g : TG}
theorem hv_u0 (h : Hv K M te σ H b) : Hv K M (tOp (rIxT K) te (tC (.int 0))) σ H b.ls := hv_atX 0 h rfl rfl
theorem hv_u1 (h : Hv K M te σ H b) : Hv K M (tOp (rIxT K) te (tC (.int 1))) σ H b.hd := hv_atX 1 h rfl rfl
theorem hv_u2 (h : Hv K M te σ H b) : Hv K M (tOp (rIxT K) te (tC (.int 2))) σ H b.fl := hv_atX 2 h rfl rfl
theorem hv_u3 (h : Hv K M te σ H b) : Hv K M (tOp (rIxT K) te (tC (.int 3))) σ H b.en := hv_atX 3 h rfl rfl
theorem hv_u4 (h : Hv K M te σ H b) : Hv K M (tOp (rIxT K) te (tC (.int 4))) σ H b.kn := hv_atX 4 h rfl rfl
theorem z_unp5U {i j l m o : Nat} (s : Sg K Mc He H is ms) (h : Hv K (muA ms ++ Mc) te σ H b)
    (k : ∀ ls hd fl en kn, ls = b.ls → hd = b.hd → fl = b.fl → en = b.en → kn = b.kn → ∀ v H1, Sg K Mc He H1 ((v, Dx.toX ls) :: is) ms → tz D (((((σ.set i (some v)).set j (some (.int hd))).set l (some (.bl fl))).set m (some (.bl en))).set o (some (.bl kn))) H1) :
    tSeq (tAsg te (gTup K 5 (gCons (gName i) (gCons (gName j) (gCons (gName l) (gCons (gName m) (gCons (gName o) gNil))))))) tz D σ H :=
  h H (Ex.refl H) s.mok _ fun v H1 e dd => by
    have d' : Xp K (msk (muA ms ++ Mc) H1) v (.tuple [Dx.toX b.ls, .int b.hd, .bool b.fl, .bool b.en, .bool b.kn]) := dd
    cases d' with
    | tup st a =>
      cases a with | cons a1 a => cases a with | cons a2 a => cases a with | cons a3 a => cases a with | cons a4 a => cases a with | cons a5 a =>
      cases a
      cases a2; cases a3; cases a4; cases a5
      exact ⟨_, [_, .int b.hd, .bl b.fl, .bl b.en, .bl b.kn], rfl, ex_t msk_le st, rfl, _, [.int b.hd, .bl b.fl, .bl b.en, .bl b.kn], rfl, .int b.hd, [.bl b.fl, .bl b.en, .bl b.kn], rfl, .bl b.fl, [.bl b.en, .bl b.kn], rfl, .bl b.en, [.bl b.kn], rfl, .bl b.kn, [], rfl, rfl, k b.ls b.hd b.fl b.en b.kn rfl rfl rfl rfl rfl _ H1 ((s.ex e).put a1)⟩
end
instance : Datum Sbk where
  toD b := .tuple [Datum.toD b.ls, .int b.hd, .bool b.fl, .bool b.en, .bool b.kn]
  plain b := by
    have := Datum.plain b.ls
    simp only [PyData.plain, PyData.plainAll, this, Bool.and_self]
  eqv a b := by
    have e1 : PyData.eqv (Datum.toD a.ls) (Datum.toD b.ls) = decide (a.ls = b.ls) := Datum.eqv a.ls b.ls
    cases a; cases b
    simp only [PyData.eqv, PyData.eqvAll, e1, eqvI, eqvB]
    rw [Bool.eq_iff_iff]
    simp
  depth := Datum.depth (Tup Ln) + 1
  depth_le b := by
    have := Datum.depth_le b.ls
    simp only [PyData.depth, PyData.depthAll]
    omega
instance : DxD Sbk := ⟨fun {K H v b} h => by
  cases h with
  | tup s a =>
    refine .tup s ?_
    cases a with | cons a1 a => cases a with | cons a2 a => cases a with | cons a3 a => cases a with | cons a4 a => cases a with | cons a5 a =>
    cases a
    cases a2; cases a3; cases a4; cases a5
    exact .cons (DxD.link a1) (.cons (.int _) (.cons (.bl _) (.cons (.bl _) (.cons (.bl _) .nil))))⟩
end Ly
namespace Ly
open PySem PySem.Spec PyProof.Rows L2 Evl
open PySem.W (Datum DatumOrd Tup T3 T4 minOf)
/-! ### enumerate(a tuple) -/
def IteT (K : PySem.W.Frag) (a : Addr) : It :=
  ⟨fun i H => ∃ us v, SqT K H a us ∧ us[i]? = some v, fun i H r H' => ∃ c v, r = .ref c ∧ H c = none ∧ H' = upd H c (.tup [.int (i : Nat), v]) ∧ ∀ us, SqT K H a us → us[i]? = some v, fun i H => ∃ us : List V, SqT K H a us ∧ us.length = i⟩
theorem tup_not_it {a it : Addr} {n : Nat} {h : Heap} {l : Array Value} (pa : h.IsTuple a l) (c : h.IsTupleIter it a n) : a ≠ it := fun q => by
  obtain ⟨oa, ha, ka, _⟩ := pa
  obtain ⟨ob, hb, kb, _⟩ := c
  rw [q, hb] at ha; cases ha
  rw [kb] at ka
  exact absurd (Value.type.inj ka) (by decide)
theorem tup_not_en {a e it : Addr} {k : Int} {old : Value} {h : Heap} {l : Array Value} (pa : h.IsTuple a l) (he : IsEnum h e it k old) : a ≠ e := fun q => by
  obtain ⟨oa, ha, ka, _⟩ := pa
  have hb : h.get? e = some _ := he
  rw [← q, ha] at hb
  cases hb
  exact absurd (Value.type.inj ka) (by decide)
theorem turn_enumT {P : Program} {w : World} {K : PySem.W.Frag} {elts : List Expr} {kk : Nat} {tpos : Pos} (a e it : Addr) (hne : e ≠ it) :
    Turn P w K (.Tuple elts kk tpos) (IteT K a) [e, it] e (fun i h => (∃ old, IsEnum h e it ((i : Nat) : Int) old) ∧ h.IsTupleIter it a i) where
  mem := by simp
  obj := fun i h st b hb => by
    obtain ⟨⟨old, he⟩, ⟨o, ho, hc, hd⟩⟩ := st
    have z : b = e ∨ b = it := by simpa using hb
    rcases z with z | z
    · rw [z]; exact ⟨_, he, fun v q => nomatch q⟩
    · rw [z]; exact ⟨o, ho, fun v q => by rw [hd] at q; cases q⟩
  keep := fun i h h' st k => by
    obtain ⟨⟨old, he⟩, hi⟩ := st
    exact ⟨⟨old, k e (by simp) _ he⟩, hi.at fun o q => k it (by simp) o q⟩
  item := by
    intro X hP hw hK hc i pins s σ H E I hf st hg
    subst hP hw hK
    obtain ⟨us, v, hq, hx⟩ := hg
    obtain ⟨⟨old, he⟩, hit⟩ := st
    obtain ⟨la, ra, pa, _⟩ := I.tuple hq
    obtain ⟨ua, ga, xa⟩ := ra.get hx
    have na := tup_not_it pa hit
    have ne := tup_not_en pa he
    have dr := Draws.tuple (prog := X.prog) (w := X.w) (show X.A.in1.handled = none from I.ok.hd hc) it a na la.toArray
    have lt : i < la.toArray.size := by
      have := (List.getElem?_eq_some_iff.mp ga).1
      simpa using this
    refine wpAny_pyNext_enum_itemC dr he ⟨hit, pa⟩ lt hne (by simp only [List.mem_cons, List.not_mem_nil, or_false, not_or]; exact ⟨hne, fun z => ne z.symm⟩) fun x1 h1 tk y1 y2 y3 y4 y5 y6 => ?_
    have e1 : x1 = ua := by
      have : la[i]? = some x1 := by simpa using y1
      exact Option.some.inj (this.symm.trans ga)
    subst e1
    refine ⟨_, rfl, wpAny_letOwnedTupleGo_enum (s := { s with heap := h1, toks := tk + 1 }) y2 fun h2 f1 f2 => ?_⟩
    have pe : s.heap.objs.size ≠ e := Nat.ne_of_gt (Heap.lt_size he)
    have pn : h2.get? s.heap.objs.size = some { cls := .type "tuple", data := .seq #[.int (i : Int) tk, x1] } := (f2.2 _ pe).trans y4
    have ok : ObjOk X.prog X.w (upd H s.heap.objs.size (.tup [.int (i : Nat), v])) h2 s.heap.objs.size (.tup [.int (i : Nat), v]) := ⟨show 2 ≤ sizeLine by decide, [.int (i : Int) tk, x1], .cons ⟨_, rfl⟩ (.cons xa .nil), _, pn, rfl, _, rfl⟩
    have old' : ∀ c o, c ∉ [e, it] → s.heap.get? c = some o → h2.get? c = some o := fun c o n q => by
      have m1 : c ≠ e := fun t => n (by rw [t]; simp)
      have m2 : c ≠ it := fun t => n (by rw [t]; simp)
      exact (f2.2 c m1).trans (y6 c o m1 m2 q)
    refine ⟨.ref s.heap.objs.size, upd H s.heap.objs.size (.tup [.int (i : Nat), v]), I.turnedNew (t' := tk + 1) (ch := [e, it]) old' hf (Nat.le_refl _) ok, rfl, ⟨_, v, rfl, I.hok.fresh (Nat.le_refl _), rfl, fun l t => ?_⟩, ⟨⟨x1, ?_⟩, ?_⟩, fun c m => ?_⟩
    · rw [I.tuple_inj t hq]; exact hx
    · have e2 : ((i + 1 : Nat) : Int) = (i : Int) + 1 := by omega
      rw [e2]; exact f1
    · exact y3.1.at fun o q => (f2.2 it (Ne.symm hne)).trans q
    · have lc : c < s.heap.objs.size := by
        rcases (by simpa using m : c = e ∨ c = it) with rfl | rfl
        · exact Heap.lt_size he
        · obtain ⟨_, q, _⟩ := hit; exact Heap.lt_size q
      rw [upd_ne (Nat.ne_of_lt lc)]
      exact (hf c m).1
  done := by
    intro X hP hw hK hc i pins s σ H E I hf st hg
    subst hP hw hK
    obtain ⟨us, hq, rfl⟩ := hg
    obtain ⟨⟨old, he⟩, hit⟩ := st
    obtain ⟨la, ra, pa, _⟩ := I.tuple hq
    have na := tup_not_it pa hit
    have dr := Draws.tuple (prog := X.prog) (w := X.w) (show X.A.in1.handled = none from I.ok.hd hc) it a na la.toArray
    have sz : us.length = la.toArray.size := by rw [List.size_toArray]; exact ra.length
    rw [sz] at hit he
    refine wpAny_pyNext_enum_endD dr he ⟨hit, pa⟩ fun h1 d => ⟨rfl, ?_⟩
    refine I.turnedL (t' := s.toks) (ch := [e, it]) (fun c o n q => ?_) hf
    exact d c o (fun t => n (by rw [t]; simp)) q
  self := fun A i s Q E st h => by
    obtain ⟨⟨_, he⟩, _⟩ := st
    exact wpAny_pyIter_enum he h
def iEnumT (K : PySem.W.Frag) (ta : TA) : TI := fun σ H R => ta σ H fun vs H1 => ∃ a us, vs = [.ref a] ∧ SqT K H1 a us ∧ R (IteT K a) H1
theorem pi_enumT {X : Cx} {e : Expr} {ta : TA} {p pos tpos : Pos} {elts : List Expr} {kk : Nat} (hg : Gl X "enumerate") (hm : X.mg "enumerate" = none) (ha : PA X [e] ta) (hs : starEach [e] X.env = [(false, eval e X.env)] := by rfl) :
    PI X (.Tuple elts kk tpos) (.Call (.Name "enumerate" p) [e] [] pos) (iEnumT X.K ta) := by
  constructor
  intro pins s σ H R I h
  refine Call_ (ld_blt I hg hm boot_enumerate (PyProof.Rows.callWith_type1 (thn (ha.run pos pins s σ H _ I h) ?_) hs rfl))
  rintro us s1 ⟨vs, H1, J, rz, a, ws, rfl, hq, q⟩
  cases rz with
  | cons r rr =>
    cases rr; cases r
    obtain ⟨la, ra, pa, _⟩ := J.tuple hq
    refine enumV_begins (begins_tuple a la.toArray) pa fun h' he hit hsz hk => wpAny_pyIter_enum he ?_
    refine ⟨s1.heap.objs.size + 1, [s1.heap.objs.size + 1, s1.heap.objs.size], _, _, H1, rfl, J.kept (t' := s1.toks) hk, turn_enumT a (s1.heap.objs.size + 1) s1.heap.objs.size (Nat.succ_ne_self _), ⟨⟨.none, he⟩, ⟨_, hit, rfl, rfl⟩⟩, fun b hb => ?_, q⟩
    have le : s1.heap.objs.size ≤ b := by
      rcases (by simpa using hb : b = s1.heap.objs.size + 1 ∨ b = s1.heap.objs.size) with rfl | rfl <;> omega
    exact J.fpOk le (J.hok.fresh le)
section
variable {K : PySem.W.Frag} {Mc M : List Addr} {He H : Hp} {is : Ims} {ms : Mus} {σ : L2.St} {tl te ta : TE} {tu tz : TS} {g : TG} {D : Ends} {α : Type} [DecidableEq α] [Dx α]
theorem zq_forET {xs : Tup α} (s : Sg K Mc He H is ms) (h : Hv K (muA ms ++ Mc) tl σ H xs) (Pv : V → Nat → L2.St → Hp → Prop) (h0 : ∀ v H1, Sg K Mc He H1 ((v, Dx.toX xs) :: is) ms → Pv v 0 σ H1)
    (hl : ∀ v i σ' H', Pv v i σ' H' → Dt K (msk (muA ms ++ Mc) H') v xs ∧ MOk (muA ms ++ Mc) H')
    (hs : ∀ v i x w σ' H' H'', (enumL xs.items)[i]? = some x → Pv v i σ' H' → Ex H' H'' → Dt K (msk (muA ms ++ Mc) H'') w x → g w σ' H'' fun σ2 H2 => tu { D with nx := Pv v (i + 1), ct := Pv v (i + 1), bk := tz D } σ2 H2)
    (hd : ∀ v σ' H', Pv v (enumL xs.items).length σ' H' → tz D σ' H') : tSeq (tFor (iEnumT K (tCons tl tNil)) g tu) tz D σ H :=
  h H (Ex.refl H) s.mok _ fun v H1 e d => by
    obtain ⟨a, vs, rfl, s1, ds⟩ := d.tupv
    refine ⟨a, vs, rfl, ex_t msk_le s1, fun i m σ' H' => m = xs.items.length - i ∧ i ≤ xs.items.length ∧ Pv (.ref a) i σ' H', ⟨xs.items.length, by simp, Nat.zero_le _, h0 _ H1 ((s.ex e).put d)⟩, ?_⟩
    rintro i m σ' H' ⟨rfl, hi, p⟩
    obtain ⟨dd, mk⟩ := hl _ i σ' H' p
    obtain ⟨a', us, e', q1, du⟩ := dd.tupv
    cases e'
    have q : SqT K H' a us := ex_t msk_le q1
    have el := du.len
    by_cases hlt : i < xs.items.length
    · refine .inr ⟨⟨us, us[i]'(by omega), q, by simp [show i < us.length by omega]⟩, Pv (.ref a) (i + 1), fun σ2 H2 p' => ⟨xs.items.length - (i + 1), by omega, rfl, hlt, p'⟩, fun x H2 y => ?_⟩
      obtain ⟨T, x1, rfl, nT, rfl, f2⟩ := y
      have gx : xs.items[i]? = some xs.items[i] := by simp [hlt]
      have eT : Ex H' (upd H' T (.tup [.int (i : Int), x1])) := Ex.new nT
      have nTD : T ∉ muA ms ++ Mc := fun z => (mk T z) nT
      have dm : Dt K (msk (muA ms ++ Mc) (upd H' T (.tup [.int (i : Int), x1]))) x1 xs.items[i] := by
        obtain ⟨w, w1, w2⟩ := (Dts.mono (msk_ex eT) du).at gx
        have : x1 = w := Option.some.inj ((f2 us q).symm.trans w1)
        subst this; exact w2
      exact hs _ i ((i : Int), xs.items[i]) (.ref T) σ' H' _ (enumL_get gx) p eT (Dt.ofPair (SqT.of (by rw [msk_out nTD]; exact upd_same)) (Dt.ofInt _) dm)
    · have e : i = xs.items.length := by omega
      subst e
      exact .inl ⟨⟨us, q, by omega⟩, hd _ σ' H' (by rw [enumL_len]; exact p)⟩
end
section
variable {K : PySem.W.Frag} {Mc M : List Addr} {He H : Hp} {is : Ims} {σ : L2.St} {te : TE} {tz : TS} {D : Ends} {α : Type} [DecidableEq α] [Dx α]
/-- a list made by a def that gives it away -/
theorem hf_ofx {xs : List α} (h : HFx K M te σ H (xs.map Dx.toX)) : HF K M te σ H xs := h
theorem zq_retM {xs : List α} {p : Addr} {ta : TE} (s : Sg K Mc He H is [(p, .lst (xs.map Dx.toX))]) (hi : Ev ta σ H (.ref p)) (k : ∀ us H1, He p = none → Ex He H1 → H1 p = some (.lst us) → XpAll K (msk (p :: Mc) H1) us (xs.map Dx.toX) → D.rt (.ref p) H1) : tSeq (tRet ta) tz D σ H :=
  hi H (Ex.refl H) _ fun H1 e1 => by
    have s2 := s.ex e1
    obtain ⟨us, h1, h2⟩ := s2.lst (k := 0) rfl
    refine k us H1 ?_ s2.all h1 h2
    cases q : He p with
    | none => rfl
    | some o =>
      have := s2.ext p o q
      rw [msk_in (by simp [muA])] at this
      cases this
theorem ht_truV {xs : Tup α} (h : Hv K M te σ H xs) : HT M (fun σ H Q => te σ H fun x H' => ∃ k, TruV K x H' k ∧ Q k H') σ H (!xs.items.isEmpty) := fun H1 e m Q q =>
  h H1 e m _ fun v H2 e2 d => by
    obtain ⟨a, us, rfl, s1, ds⟩ := d.tupv
    have hl := ds.len
    refine ⟨!us.isEmpty, .inr (.inl ⟨us, ex_t msk_le s1, rfl⟩), ?_⟩
    have : us.isEmpty = xs.items.isEmpty := by
      cases us <;> cases hx : xs.items <;> simp_all
    rw [this]
    exact q H2 e2
end
/-- a tuple of which only the first number is told -/
structure Hd1 where
  n : Int
  r : List Xd
noncomputable instance : DecidableEq Hd1 := fun _ _ => Classical.propDecidable _
instance : Dx Hd1 := ⟨fun h => .tuple (.int h.n :: h.r)⟩
def hdL (l : Ln) : Hd1 := ⟨l.a, [Dx.toX l.b, Dx.toX l.c, Dx.toX l.d]⟩
def hdN (p : Int × Tup Int) : Hd1 := ⟨p.1, [Dx.toX p.2]⟩
section
variable {K : PySem.W.Frag} {M : List Addr} {H : Hp} {σ : L2.St} {te : TE}
theorem hv_hd1 {h : Hd1} (hh : Hv K M te σ H h) : Hv K M (tOp (rIxT K) te (tC (.int 0))) σ H h.n := hv_atX 0 hh rfl rfl
end
end Ly
namespace Ly
open PySem PySem.Spec PyProof.Rows L2 Evl
instance : TyNm Pgi := ⟨"tuple", fun {K H v x} d => by
  have d' : Xp K H v (.tuple x.x) := d
  cases d' with | tup s a => exact tyx_T s⟩
theorem getD_memG {α : Type} {xs : List α} {i : Nat} {d : α} (h : i < xs.length) : xs.getD i d ∈ xs := List.mem_of_getElem? (getD_get d h)
end Ly

namespace Ly
open PySem PySem.Spec PyProof.Rows L2 Evl
open PySem.W (Datum DatumOrd Tup T3 T4 minOf)
/-! ### atoms (but runs) -/
inductive Atm where
  | sp (n : Int)
  | tie (n : Int)
  | line
  | note (n : Int)
  | label (s : Str)
  | page (n f : Int) (s : Str)
  deriving DecidableEq
def Atm.kind : Atm → Str
  | .sp _ => Str.ofString "space"
  | .tie _ => Str.ofString "tie"
  | .line => Str.ofString "line"
  | .note _ => Str.ofString "note"
  | .label _ => Str.ofString "label"
  | .page _ _ _ => Str.ofString "page"
def Atm.tag : Atm → Nat
  | .sp _ => 0 | .tie _ => 1 | .line => 2 | .note _ => 3 | .label _ => 4 | .page _ _ _ => 5
def Atm.at1 : Atm → Int
  | .sp n => n | .tie n => n | .note n => n | .page n _ _ => n | _ => 0
def Atm.at2 : Atm → Int
  | .page _ f _ => f | _ => 0
def Atm.at3 : Atm → Str
  | .page _ _ s => s | _ => Str.ofString ""
def Atm.itm : Atm → Itm
  | .note n => .note n | .label s => .label s | _ => .forced
def Atm.x : Atm → List Xd
  | .sp n => [.str (Str.ofString "space"), .int n]
  | .tie n => [.str (Str.ofString "tie"), .int n]
  | .line => [.str (Str.ofString "line")]
  | .note n => [.str (Str.ofString "note"), .int n]
  | .label s => [.str (Str.ofString "label"), .str s]
  | .page n f s => [.str (Str.ofString "page"), .int n, .int f, .str s]
instance : Dx Atm := ⟨fun i => .tuple i.x⟩
instance : SomeX Atm := ⟨fun _ e => by cases e⟩
theorem Atm.tag_le (i : Atm) : i.tag ≤ 5 := by cases i <;> simp only [Atm.tag] <;> decide
theorem ad_sp (i : Atm) : (i.kind = Str.ofString "space") = (i.tag = 0) := by
  cases i <;> simp only [Atm.kind, Atm.tag] <;> exact propext ⟨fun h => by first | rfl | (revert h; decide +kernel), fun h => by first | rfl | (revert h; decide)⟩
theorem ad_tie (i : Atm) : (i.kind = Str.ofString "tie") = (i.tag = 1) := by
  cases i <;> simp only [Atm.kind, Atm.tag] <;> exact propext ⟨fun h => by first | rfl | (revert h; decide +kernel), fun h => by first | rfl | (revert h; decide)⟩
theorem ad_line (i : Atm) : (i.kind = Str.ofString "line") = (i.tag = 2) := by
  cases i <;> simp only [Atm.kind, Atm.tag] <;> exact propext ⟨fun h => by first | rfl | (revert h; decide +kernel), fun h => by first | rfl | (revert h; decide)⟩
theorem ad_note (i : Atm) : (i.kind = Str.ofString "note") = (i.tag = 3) := by
  cases i <;> simp only [Atm.kind, Atm.tag] <;> exact propext ⟨fun h => by first | rfl | (revert h; decide +kernel), fun h => by first | rfl | (revert h; decide)⟩
theorem ad_label (i : Atm) : (i.kind = Str.ofString "label") = (i.tag = 4) := by
  cases i <;> simp only [Atm.kind, Atm.tag] <;> exact propext ⟨fun h => by first | rfl | (revert h; decide +kernel), fun h => by first | rfl | (revert h; decide)⟩
theorem ad_page (i : Atm) : (i.kind = Str.ofString "page") = (i.tag = 5) := by
  cases i <;> simp only [Atm.kind, Atm.tag] <;> exact propext ⟨fun h => by first | rfl | (revert h; decide +kernel), fun h => by first | rfl | (revert h; decide)⟩
theorem ad_run (i : Atm) : ¬ i.kind = Str.ofString "run" := by
  cases i <;> simp only [Atm.kind] <;> decide +kernel
section
variable {K : PySem.W.Frag} {Mc M : List Addr} {He H : Hp} {is : Ims} {ms : Mus} {σ : L2.St} {te : TE} {tz : TS} {D : Ends} {i : Atm}
theorem hv_a0 (h : Hv K M te σ H i) : Hv K M (tOp (rIxT K) te (tC (.int 0))) σ H i.kind := hv_atX 0 h rfl (by cases i <;> rfl)
theorem hv_a1 (h : Hv K M te σ H i) (s : i.tag ≠ 2 ∧ i.tag ≠ 4) : Hv K M (tOp (rIxT K) te (tC (.int 1))) σ H i.at1 := hv_atX 1 h rfl (by cases i <;> first | rfl | (exfalso; simp [Atm.tag] at s))
theorem hv_a2 (h : Hv K M te σ H i) (s : i.tag = 5) : Hv K M (tOp (rIxT K) te (tC (.int 2))) σ H i.at2 := hv_atX 2 h rfl (by cases i <;> first | rfl | (exfalso; simp [Atm.tag] at s))
theorem hv_a3 (h : Hv K M te σ H i) (s : i.tag = 5) : Hv K M (tOp (rIxT K) te (tC (.int 3))) σ H i.at3 := hv_atX 3 h rfl (by cases i <;> first | rfl | (exfalso; simp [Atm.tag] at s))
theorem itm_x (s : i.tag = 3 ∨ i.tag = 4) : Dx.toX i = Dx.toX i.itm := by cases i <;> first | rfl | (exfalso; simp [Atm.tag] at s)
theorem hv_aitm (h : Hv K M te σ H i) (s : i.tag = 3 ∨ i.tag = 4) : Hv K M te σ H i.itm := hv_co h (itm_x s)
theorem hv_tupA (h : Hv K M te σ H i) (s : i.tag = 3 ∨ i.tag = 4) : Hv K M (tCB (fun xs H Q => ∃ p ys, xs = [.ref p] ∧ ((SqL K H p ys ∧ ∀ l, H l = none → Q (.ref l) (upd H l (.tup ys))) ∨ (SqT K H p ys ∧ Q (.ref p) H))) (tCons te tNil)) σ H i.itm := fun H1 e m Q q =>
  h H1 e m _ fun v H2 e2 d => by
    have d' : Xp K (msk M H2) v (.tuple i.x) := d
    have d2 : Dt K (msk M H2) v i.itm := by show Xp _ _ _ (Dx.toX i.itm); rw [← itm_x s]; exact d
    cases d' with
    | tup st a => exact ⟨_, _, rfl, .inr ⟨ex_t msk_le st, q _ H2 e2 d2⟩⟩
theorem z_unp4A {a b c d : Nat} (s : Sg K Mc He H is ms) (h : Hv K (muA ms ++ Mc) te σ H i) (ht : i.tag = 5)
    (k : ∀ kd n f l, kd = i.kind → n = i.at1 → f = i.at2 → l = i.at3 → ∀ H1, Sg K Mc He H1 is ms → tz D ((((σ.set a (some (.str kd))).set b (some (.int n))).set c (some (.int f))).set d (some (.str l))) H1) :
    tSeq (tAsg te (gTup K 4 (gCons (gName a) (gCons (gName b) (gCons (gName c) (gCons (gName d) gNil)))))) tz D σ H :=
  h H (Ex.refl H) s.mok _ fun v H1 e dd => by
    cases i with
    | page n f l =>
      have d' : Xp K (msk (muA ms ++ Mc) H1) v (.tuple [.str (Str.ofString "page"), .int n, .int f, .str l]) := dd
      cases d' with
      | tup st x =>
        cases x with | cons a1 x => cases x with | cons a2 x => cases x with | cons a3 x => cases x with | cons a4 x =>
        cases x
        cases a1; cases a2; cases a3; cases a4
        exact ⟨_, [.str (Str.ofString "page"), .int n, .int f, .str l], rfl, ex_t msk_le st, rfl, _, [.int n, .int f, .str l], rfl, _, [.int f, .str l], rfl, _, [.str l], rfl, _, [], rfl, rfl, k _ n f l rfl rfl rfl rfl H1 (s.ex e)⟩
    | _ => simp [Atm.tag] at ht
end
def Atm.d : Atm → List PyData
  | .sp n => [.str (Str.ofString "space"), .int n]
  | .tie n => [.str (Str.ofString "tie"), .int n]
  | .line => [.str (Str.ofString "line")]
  | .note n => [.str (Str.ofString "note"), .int n]
  | .label s => [.str (Str.ofString "label"), .str s]
  | .page n f s => [.str (Str.ofString "page"), .int n, .int f, .str s]
theorem Atm.d_kind (i : Atm) : ∃ r, i.d = .str i.kind :: r := by cases i <;> exact ⟨_, rfl⟩
theorem atkind_tag {i j : Atm} (h : i.kind = j.kind) : i.tag = j.tag := by
  have k0 := ad_sp i; have k1 := ad_tie i; have k2 := ad_line i; have k3 := ad_note i; have k4 := ad_label i; have k5 := ad_page i
  rw [h] at k0 k1 k2 k3 k4 k5
  rw [ad_sp] at k0
  rw [ad_tie] at k1
  rw [ad_line] at k2
  rw [ad_note] at k3
  rw [ad_label] at k4
  rw [ad_page] at k5
  have t1 := Atm.tag_le i
  have t2 := Atm.tag_le j
  have e0 := k0.to_iff; have e1 := k1.to_iff; have e2 := k2.to_iff; have e3 := k3.to_iff; have e4 := k4.to_iff; have e5 := k5.to_iff
  omega
theorem Atm.eqv (a b : Atm) : PyData.eqvAll a.d b.d = decide (a = b) := by
  by_cases h : a.kind = b.kind
  · have ht := atkind_tag h
    cases a <;> cases b <;> first | (exfalso; simp [Atm.tag] at ht; done) | (simp only [Atm.d, PyData.eqvAll, eqvI, eqvS]; simp [Bool.and_assoc])
  · obtain ⟨r, e⟩ := a.d_kind
    obtain ⟨r', e'⟩ := b.d_kind
    rw [e, e', PyData.eqvAll, eqvS, decide_eq_false h, Bool.false_and]
    exact (decide_eq_false fun z => h (by rw [z])).symm
instance : Datum Atm where
  toD i := .tuple i.d
  plain i := by cases i <;> simp only [Atm.d, PyData.plain, PyData.plainAll, Bool.and_self, Bool.and_true, Bool.true_and]
  eqv a b := by simp only [PyData.eqv]; exact Atm.eqv a b
  depth := 2
  depth_le i := by cases i <;> simp only [Atm.d, PyData.depth, PyData.depthAll] <;> (first | decide | omega)
instance : DxD Atm := ⟨fun {K H v i} h => by
  cases h with
  | tup s a =>
    refine .tup s ?_
    cases i with
    | sp n => cases a with | cons a1 a => cases a with | cons a2 a => cases a; cases a1; cases a2; exact .cons (.str _) (.cons (.int _) .nil)
    | tie n => cases a with | cons a1 a => cases a with | cons a2 a => cases a; cases a1; cases a2; exact .cons (.str _) (.cons (.int _) .nil)
    | line => cases a with | cons a1 a => cases a; cases a1; exact .cons (.str _) .nil
    | note n => cases a with | cons a1 a => cases a with | cons a2 a => cases a; cases a1; cases a2; exact .cons (.str _) (.cons (.int _) .nil)
    | label s => cases a with | cons a1 a => cases a with | cons a2 a => cases a; cases a1; cases a2; exact .cons (.str _) (.cons (.str _) .nil)
    | page n f s => cases a with | cons a1 a => cases a with | cons a2 a => cases a with | cons a3 a => cases a with | cons a4 a => cases a; cases a1; cases a2; cases a3; cases a4; exact .cons (.str _) (.cons (.int _) (.cons (.int _) (.cons (.str _) .nil)))⟩
instance : TyNm Itm := ⟨"tuple", fun {K H v x} d => by
  have d' : Xp K H v (.tuple x.x) := d
  cases d' with | tup s a => exact tyx_T s⟩
end Ly

namespace Ly
open PySem PySem.Spec PyProof.Rows L2 Evl
open PySem.W (kxs_mw kxs_ValueError)
/-! ### super().__init__(e) of an own exception over ValueError -/
/-- what is written down of an own class over ValueError whose __init__ (at f) closes over the class's cell -/
structure SupC (K : PySem.W.Frag) (C f cda cc : Addr) (fd : FuncData) (sn file : Str) : Prop where
  fn : ∃ oc od osl, K.lookup f = some ⟨oc, od, .func fd, osl⟩
  head : ∃ ar, (fd.params.posonlyargs ++ fd.params.args).head? = some ar ∧ ar.arg = sn
  code : ∃ oc od vs osl tf, K.lookup cda = some ⟨oc, od, .fields vs, osl⟩ ∧ vs[2]? = some (.str file tf)
  cell : ∃ oc od osl, K.lookup cc = some ⟨oc, od, .cell (some (.ref C)), osl⟩
  sub : PySem.W.mroIn K C (.ref C) = some true
  any : PySem.W.nsIn K cStatics "thirdparty.any" = some none
  sup : PySem.W.ks_superIn K C C "__init__" = some (some (.builtin "ValueError.__init__"))
  ve : PySem.W.subIn K (.ref C) (.type "ValueError") = some true
theorem boot_super : bootBuiltins "super" = some (.type "super") := by decide +kernel
theorem lookup_one {k : Str} {v : Addr} {x : Str} : List.lookup x [(k, v)] = if x = k then some v else none := by
  by_cases h : x = k
  · subst h; simp [List.lookup]
  · have e : (x == k) = false := by simpa using h
    simp [List.lookup, e, h]
section
variable {X : Cx} {pins : List (Addr × Obj)} {σ : L2.St} {H : Hp} {s : Shared}
theorem sup_call {a C u : Addr} {us : List Value} {Q : Value → Shared → Prop} {A : Around} {E : Value → Shared → Prop} (T : OexC X.K C) (I : Inv X pins σ H s) (e : H a = some (exo a C none)) (hu : s.heap.get? u = some (kxs_mw "ValueError.__init__" a)) (hl : us.length ≤ sizeLine)
    (h : ∀ s', Inv X pins σ H s' → Q .none s') : wpAny (model X.prog X.w) A (call (.ref u) us) Q E s := by
  obtain ⟨nm, q, N, bs, bm, sn, sub, ab, col, dd, k0, k1, k2, k3, k5, hC, hbm⟩ := T.cls
  obtain ⟨t1, ho⟩ := exo_at I.hok e
  obtain ⟨hp, g, d, tk, os⟩ := s
  have FB := PySem.F.excBase_ValueError
  refine wpAny_call (codeAny_of_tree ?_)
  show wpAny _ A.in1 (callAny (.ref u) ⟨us, []⟩) _ _ _
  simp only [callAny]
  refine wpAny_bind (wpAny_load hu ?_)
  simp only [kxs_mw, show (Value.type "method-wrapper" == Value.type "method" || Value.type "method-wrapper" == Value.type "builtin_function_or_method" || Value.type "method-wrapper" == Value.type "method-wrapper") = true by decide, if_true]
  refine PySem.W.KFB.if_so (by decide) ?_
  refine wpAny_bind (PySem.W.check_bound_init FB.toExcCallFacts (I.kIn _ _ hC) ho rfl ?_)
  refine wpAny_bind (wpAny_pure (wpAny_pure ?_))
  refine ⟨plainId_quiet FB.init.plain _, codeAny_builtin FB.initEntry ?_⟩
  refine PySem.W.exc_init_tree (cls := .ref C) (t0 := t1) (dv := none) (c2 := .none) (c3 := .none) (b4 := .bool false) ho hl fun h' k hx _ => ?_
  have J := I.write (t' := tk) (x := a) (e := a) (o := exo a C none) (by rw [e]; exact True.intro) (.inl rfl) k ⟨_, hx⟩ (exo_ok hx)
  have eu : upd H a (exo a C none) = H := by
    funext b
    by_cases hb : b = a
    · rw [hb, upd_same, e]
    · rw [upd_ne hb]
  rw [eu] at J
  exact h _ J
theorem sup_init {body : List Stmt} {p0 p1 p2 pos : Pos} {ex : Expr} {te : TE} {a C f cda cc : Addr} {fd : FuncData} {sn file : Str} {i : Nat} {Q : Value → Shared → Prop}
    (T : OexC X.K C) (Z : SupC X.K C f cda cc fd sn file) (hfile : ((X.prog.main.file : Str) == file) = true) (htop : (X.prog.main.scope.names.lookup ("super" : Str)).isSome = false)
    (hks : X.env.kindOf "super" = some .globalImplicit) (hkc : X.env.kindOf "__class__" = some .free) (hka : X.env.kindOf sn = some .local)
    (hfu : X.env.func = some f) (hco : X.env.code = .ref cda) (hce : X.env.cells.lookup ("__class__" : Str) = some cc) (hm : X.mg "super" = none)
    (hi : X.N[i]? = some sn) (hσ : σ[i]? = some (some (.ref a))) (he : PE X ex te) (I : Inv X pins σ H s) (ea : H a = some (exo a C none))
    (h : tCons te tNil σ H fun vs H1 => vs.length ≤ 1000 ∧ H1 a = some (exo a C none) ∧ ∀ s', Inv X pins σ H1 s' → Q .none s')
    {pl : Sem Bool} (hc : eval (.Call (.Attribute (.Call (.Name "super" p0) [] [] p1) "__init__" p2) [ex] [] pos) X.env = (do
      let ov ← attributeBase (.Call (.Name "super" p0) [] [] p1) "__init__" X.env (eval (.Call (.Name "super" p0) [] [] p1) X.env)
      standAt p2.atName
      let (f, first) ← holding [ov] (getMethod ov "__init__" pl)
      callWith pos f first (backTo pos (starEach [ex] X.env)) []) := by rfl)
    (hst : starEach [ex] X.env = (false, eval ex X.env) :: starEach [] X.env := by rfl) :
    PySem.wpAt (model X.prog X.w) X.A (.func body X.env) (eval (.Call (.Attribute (.Call (.Name "super" p0) [] [] p1) "__init__" p2) [ex] [] pos) X.env) Q X.xe s := by
  obtain ⟨oc1, od1, osl1, lf⟩ := Z.fn
  obtain ⟨ar, har, rfl⟩ := Z.head
  obtain ⟨oc2, od2, vs2, osl2, tf, lc, hvs⟩ := Z.code
  obtain ⟨oc3, od3, osl3, lcc⟩ := Z.cell
  obtain ⟨nm, q, N, bs, bm, sn, sub, ab, col, dd, k0, k1, k2, k3, k5, hC, hbm⟩ := T.cls
  have hcl : PySem.W.clsIn X.K C = some { name := nm, bases := bs, mro := .ref C :: bm, ns := N, qualname := q, hasDict := true, slotNames := sn, subclasses := sub, abstract := ab, collection := col, hasDel := false } := by unfold PySem.W.clsIn; rw [hC] <;> rfl
  have X0 := I.kIn
  obtain ⟨hp, g, d, t, os⟩ := s
  refine PySem.ks_wpAt_MethodCall ?_ hc
  refine PySem.ks_wpAt_super_base hks hkc (by decide) hfu (X0 _ _ lf) rfl har hco (X0 _ _ lc) rfl hvs hfile htop ?_
  obtain ⟨mb, b1, b2⟩ := I.mod.blt
  refine PySem.W.ks_loadName_global I.ok.kind hks (Calls.loadGlobal_builtin (env := X.env) (by rw [I.ok.glob]; exact I.mod.glob.keeps I.bk) hm (by rw [I.ok.blt]; exact b1.keeps I.bk) ((b2 _ (by decide)).trans boot_super) ⟨rfl, ?_⟩)
  refine PySem.wpAny_loadName_free I.ok.kind hkc hce ⟨_, X0 _ _ lcc, rfl⟩ ?_
  obtain ⟨m, hn, hl⟩ := I.loc
  obtain ⟨u, ru, lk⟩ := hl i _ (.ref a) hi hσ (.inl hka)
  obtain rfl : u = .ref a := ru
  have hv : m ar.arg = some (.ref a) := by
    rcases lk with ⟨_, z⟩ | ⟨z, _⟩
    · exact z
    · rcases z with z | z <;> (rw [hka] at z; cases z)
  refine PySem.wpAny_loadName_local I.ok.kind hka hn hv ?_
  refine PySem.ks_wpAny_isType_cls (X0 _ _ hC) rfl ⟨rfl, ?_⟩
  obtain ⟨t1, ho⟩ := exo_at I.hok ea
  refine PySem.ks_wpAny_call_super (X0 _ _ hC) rfl ho rfl (fun c z => by cases z) (PySem.W.looks_mroIn X0 Z.sub) (fun h' e k => ?_)
  have I1 : Inv X pins σ H ⟨h', g, d, t, os⟩ := I.kept (t' := t) k
  have I2 : Inv X pins σ H ⟨h'.push (kxs_mw "ValueError.__init__" a), g, d, t + 1, os⟩ := I1.kept (t' := t + 1) (fun b o e => Heap.get?_push_of_some _ e)
  have sup' := Z.sup
  unfold PySem.W.ks_superIn at sup'
  rw [hcl] at sup'
  have hxC : a ≠ C := fun z => by
    rw [z] at ho
    rw [X0 _ _ hC] at ho
    cases ho
  have IA : PySem.W.InstAt h' a { cls := .ref C, dict := none, data := .fields #[.ref t1, .none, .none, .none, .bool false, .none] } C none := ⟨k _ _ ho, rfl, rfl, trivial⟩
  refine PySem.W.kxs_getMethod kxs_ValueError e (PySem.W.looks_opaque I1.kIn Z.any) (l₀ := .ref C :: bm) (fun A Q E s k q => wpAny_bind ((PySem.W.looks_clsIn I1.kIn hcl) A _ E s k (wpAny_pure q))) rfl I1.kIn sup' (IA.type.andThen (PySem.W.looks_subIn I1.kIn Z.ve)) hxC (by decide) ?_
  have hus : h'.objs.size = h'.objs.size := rfl
  have gu : (h'.push (kxs_mw "ValueError.__init__" a)).get? h'.objs.size = some (kxs_mw "ValueError.__init__" a) := Heap.get?_push_at rfl rfl
  have I3 : Inv X (pins ++ [(h'.objs.size, kxs_mw "ValueError.__init__" a)]) σ H ⟨h'.push (kxs_mw "ValueError.__init__" a), g, d, t + 1, os⟩ := I2.pins_of fun p hp => by
    rcases List.mem_append.mp hp with hp | hp
    · exact I2.pin p (List.mem_append_right _ hp)
    · obtain rfl := List.mem_singleton.mp hp
      refine ⟨gu, I1.hok.fresh (Nat.le_refl _), fun z => ?_, I1.nofs (Nat.le_refl _), fun v z => by cases z⟩
      have := I1.lt
      rw [← z] at this
      exact absurd this (Nat.lt_irrefl _)
  have pa : PA X [ex] (tCons te tNil) := pa_cons he pa_nil hst
  show wpAny _ _ (callWith pos (.ref h'.objs.size) [] (backTo pos (starEach [ex] X.env)) []) _ _ _
  have pr := pa.run pos _ _ σ H _ I3 h
  rw [hst] at pr ⊢
  refine PySem.W.kxs_callWith (i := "ValueError.__init__") (x := a) rfl (Calls.evalArgs_plain (thn pr fun us s1 ⟨vs, H1, J, rv, hlen, ea1, q1⟩ => ?_))
  refine ⟨(J.pin _ (List.mem_append_right _ (List.mem_append_right _ (List.mem_singleton.mpr rfl)))).1, ?_⟩
  refine sup_call T J.unpinned ea1 (J.pin _ (List.mem_append_right _ (List.mem_append_right _ (List.mem_singleton.mpr rfl)))).1 ?_ q1
  show us.length ≤ sizeLine
  rw [← Paired.length rv, sizeLine_eq]
  omega
end
/-! ### such an __init__ as a def that keeps its promise -/
section
open NdefX
variable {CX : CXT} {P : Program} {w : World} {K : PySem.W.Frag} {mg : Str → Option Value} {base : Heap}
abbrev nfOf (name qual : Str) (params : Arguments) (body : List Stmt) (scope : Scope) (cc cda : Addr) : NF := ⟨name, qual, params, body, scope, [("__class__", cc)], cda⟩
theorem fn_sup {name qual : Str} {params : Arguments} {rest : List Stmt} {scope : Scope} {cc cda f C : Addr} {N ps : List Str} {dV kV doc pm ct oc : Value} {an od : Option Addr} {osl : Array (Option Value)} {k : Nat} {sp : Sp} {sn file : Str} {ex : Expr} {p0 p1 p2 p3 pos : Pos}
    (lk : K.lookup f = some ⟨oc, od, .func (PySem.W.fnX name qual params (.Expr (.Call (.Attribute (.Call (.Name "super" p0) [] [] p1) "__init__" p2) [ex] [] pos) p3 :: rest) scope [("__class__", cc)] dV kV doc pm an (.ref cda) ct), osl⟩)
    (hcd : PySem.W.codeIn K (.ref cda) qual = true) (S : NScope N ps ["__class__"] scope) (len : ∀ vs H Q E, sp vs H Q E → vs.length = ps.length)
    (T : OexC K C) (Z : SupC K C f cda cc (PySem.W.fnX name qual params (.Expr (.Call (.Attribute (.Call (.Name "super" p0) [] [] p1) "__init__" p2) [ex] [] pos) p3 :: rest) scope [("__class__", cc)] dV kV doc pm an (.ref cda) ct) sn file)
    (hfile : ((P.main.file : Str) == file) = true) (htop : (P.main.scope.names.lookup ("super" : Str)).isSome = false) (hks : scope.names.lookup ("super" : Str) = some .globalImplicit) (hm : mg "super" = none) (h0 : ps[0]? = some sn)
    (hbody : ∀ (A : Around) (outer : List Env) (s : Shared) (H : Hp) (vs : List V) (Q : VK) (E : XK), Room k (A.deeper (envF (nfOf name qual params (.Expr (.Call (.Attribute (.Call (.Name "super" p0) [] [] p1) "__init__" p2) [ex] [] pos) p3 :: rest) scope cc cda) f s.heap.objs.size)) → sp vs H Q E →
      ∃ te t a, PE (ncx CX P w K mg base N (nfOf name qual params (.Expr (.Call (.Attribute (.Call (.Name "super" p0) [] [] p1) "__init__" p2) [ex] [] pos) p3 :: rest) scope cc cda) f A outer s H E) ex te ∧
        PSs (ncx CX P w K mg base N (nfOf name qual params (.Expr (.Call (.Attribute (.Call (.Name "super" p0) [] [] p1) "__init__" p2) [ex] [] pos) p3 :: rest) scope cc cda) f A outer s H E) rest t ∧ vs[0]? = some (.ref a) ∧ H a = some (exo a C none) ∧
        ∀ Q' : List V → Hp → Prop, (∀ us H1, us.length ≤ 1000 → H1 a = some (exo a C none) → t { nx := fun _ H' => Q .non H', rt := Q } (startF N vs [none]) H1 → Q' us H1) → tCons te tNil (startF N vs [none]) H Q')
    {pl : Sem Bool} (hc : ∀ env : Env, eval (.Call (.Attribute (.Call (.Name "super" p0) [] [] p1) "__init__" p2) [ex] [] pos) env = (do
      let ov ← attributeBase (.Call (.Name "super" p0) [] [] p1) "__init__" env (eval (.Call (.Name "super" p0) [] [] p1) env)
      standAt p2.atName
      let (f, first) ← holding [ov] (getMethod ov "__init__" pl)
      callWith pos f first (backTo pos (starEach [ex] env)) []) := by intro _; rfl)
    (hst : ∀ env : Env, starEach [ex] env = (false, eval ex env) :: starEach [] env := by intro _; rfl)
    (hin : ∀ L : Addr, interactive (envF (nfOf name qual params (.Expr (.Call (.Attribute (.Call (.Name "super" p0) [] [] p1) "__init__" p2) [ex] [] pos) p3 :: rest) scope cc cda) f L) = false := by intro _; rfl)
    (hsw : ∀ env : Env, swapsWith (.Call (.Attribute (.Call (.Name "super" p0) [] [] p1) "__init__" p2) [ex] [] pos) none p3.line env = pure false := by intro _; rfl) :
    FnOk P w K mg base CX (k + 1) f (PySem.W.fnX name qual params (.Expr (.Call (.Attribute (.Call (.Name "super" p0) [] [] p1) "__init__" p2) [ex] [] pos) p3 :: rest) scope [("__class__", cc)] dV kV doc pm an (.ref cda) ct) ps sp := by
  refine ⟨len, fun A outer s H args us vs Q E hr e0 hb r hsp => ?_⟩
  have hl := len _ _ _ _ hsp
  have KX : K.In s.heap := e0.mod.kin.keeps fun b o e => (e0.bs b o e).1
  have lim : s.heap.NoLimit := e0.mod.nolimit.keeps fun b o e => (e0.bs b o e).1
  obtain ⟨oc3, od3, osl3, lcc⟩ := Z.cell
  have hcc : H cc = none ∧ ∃ v, s.heap.IsCell cc v := ⟨(e0.bs _ _ (e0.mod.kin _ _ lcc)).2, _, _, (e0.bs _ _ (e0.mod.kin _ _ lcc)).1, rfl⟩
  have c1 : ∀ y c, List.lookup y [(("__class__" : Str), cc)] = some c → H c = none ∧ ∃ v, s.heap.IsCell c v := by
    intro y c e
    rw [lookup_one] at e
    split at e
    · cases e; exact hcc
    · cases e
  have c2 : ∀ x y c, List.lookup x [(("__class__" : Str), cc)] = some c → List.lookup y [(("__class__" : Str), cc)] = some c → x = y := by
    intro x y c e1 e2
    rw [lookup_one] at e1 e2
    split at e1
    · split at e2
      · rename_i z1 z2; rw [z1, z2]
      · cases e2
    · cases e1
  have c3 : ∀ (i : Nat) (y : Str), ([("__class__" : Str)])[i]? = some y → ∃ c, List.lookup y [(("__class__" : Str), cc)] = some c ∧ ∀ v, ([none] : List (Option V))[i]? = some (some v) → ∃ u, L2.RelV v u ∧ s.heap.IsCell c (some u) := by
    intro i y hy
    cases i with
    | zero =>
      obtain rfl : ("__class__" : Str) = y := Option.some.inj hy
      exact ⟨cc, by rw [lookup_one, if_pos rfl], fun v hv => by cases hv⟩
    | succ i => cases hy
  have C1 : CellsAt [(("__class__" : Str), cc)] ["__class__"] [none] s.heap H := ⟨rfl, c1, c2, c3⟩
  refine codeAny_call_function hr.depth (KX _ _ lk) rfl S.co S.gen rfl (PySem.W.codeRec_of KX hcd) (hb _ _ _ _ ?_)
  refine wpAny_newFunctionEnv S.nocell (fun ⟨n, _⟩ hy => S.par n (List.of_mem_zip hy).1) (fun h₁ hns hsb => ⟨lim.fresh _ hsb, ?_⟩) S.kind
  refine PySem.ks_codeAny_funcAt ?_
  have kp : ∀ b o, s.heap.get? b = some o → h₁.get? b = some o := fun b o e => hsb.extBut b o (Nat.ne_of_lt (Heap.lt_size e)) (Heap.get?_push_of_some _ e)
  obtain ⟨te, t, a, pe, pss, hv0, ea, hq⟩ := hbody A outer s H vs Q E (hr.deeper _) hsp
  have I : Inv (ncx CX P w K mg base N (nfOf name qual params (.Expr (.Call (.Attribute (.Call (.Name "super" p0) [] [] p1) "__init__" p2) [ex] [] pos) p3 :: rest) scope cc cda) f A outer s H E) [] (startF N vs [none]) H { s with heap := h₁, toks := s.toks + (ps.zip us).length } := inv_startN S hr.hd e0 hl r C1 hns kp
  have hN0 : N[0]? = some sn := by
    have e := S.pre
    have lt : 0 < ps.length := (List.getElem?_eq_some_iff.mp h0).1
    have e2 : (N.take (ps.length + 1))[0]? = (ps ++ [("__class__" : Str)])[0]? := congrArg (·[0]?) e
    rw [List.getElem?_take_of_lt (by omega), List.getElem?_append_left lt, h0] at e2
    exact e2
  have hs0 : (startF N vs [none])[0]? = some (some (.ref a)) := by
    unfold startF
    rw [List.getElem?_append_left (by rw [List.length_map]; exact (List.getElem?_eq_some_iff.mp hv0).1), List.getElem?_map, hv0]
    rfl
  have fin : ∀ {σ' : L2.St} {H' : Hp} {v : V} {u : Value} {s' : Shared}, Inv (ncx CX P w K mg base N (nfOf name qual params (.Expr (.Call (.Attribute (.Call (.Name "super" p0) [] [] p1) "__init__" p2) [ex] [] pos) p3 :: rest) scope cc cda) f A outer s H E) [] σ' H' s' → L2.RelV v u → Q v H' → CE outer P w H s Q u s' :=
    fun {σ' H' v u s'} J rv q => ⟨v, H', J.os, J.bare, J.base, J.hok, rv, q⟩
  refine PySem.ks_wpAt_execs_cons (PySem.ks_wpAt_Expr_any ?_ (hin _) (hsw _))
  refine sup_init (X := ncx CX P w K mg base N (nfOf name qual params (.Expr (.Call (.Attribute (.Call (.Name "super" p0) [] [] p1) "__init__" p2) [ex] [] pos) p3 :: rest) scope cc cda) f A outer s H E) T Z hfile htop hks (S.frk _ (by simp)) (S.par _ (List.mem_of_getElem? h0)) rfl rfl ((lookup_one (k := "__class__") (v := cc) (x := "__class__")).trans (if_pos rfl)) hm hN0 hs0 pe I ea ?_ (hc _) (hst _)
  refine hq _ fun us1 H1 h1 h2 h3 => ⟨h1, h2, fun s' J => ?_⟩
  refine PySem.wpAt_of_wpAny (wpAny_mono (pss.run [] s' (startF N vs [none]) H1 _ J h3) (fun fl s' hs => ?_) fun e s' hs => hs)
  cases fl with
  | ret u =>
    obtain ⟨v, σ', H', J, rv, q⟩ := hs
    exact fin J rv q
  | next =>
    obtain ⟨σ', H', J, q⟩ := hs
    exact fin (v := V.non) (u := Value.none) J rfl q
  | brk =>
    obtain ⟨_, _, _, q⟩ := hs
    exact False.elim q
  | cont =>
    obtain ⟨_, _, _, q⟩ := hs
    exact False.elim q
end
/-! ### own exceptions of one field -/
def spOne (C : Addr) (fld : Str) (p : V → Prop) : Sp := fun vs H Q _ => ∃ a y, vs = [.ref a, y] ∧ p y ∧ H a = some (exo a C none) ∧ ∀ d, H d = none → d ≠ a → Q .non (upd (upd H d (exd d [(fld, y)])) a (exo a C (some d)))
theorem spOne_len {C : Addr} {fld : Str} {p : V → Prop} {n1 n2 : Str} : ∀ (vs : List V) (H : Hp) (Q : VK) (E : XK), spOne C fld p vs H Q E → vs.length = [n1, n2].length := fun vs H Q E ⟨a, y, e, _⟩ => by rw [e]; rfl
section
open NdefX
variable {N : List Str} {σ : L2.St} {H : Hp} {K : PySem.W.Frag} {C : Addr} {fld : Str} {p : V → Prop}
theorem startF_two {a : Addr} {y : V} (hN : N.length = 3) : startF N [.ref a, y] [none] = [some (.ref a), some y, none] := by
  unfold startF
  rw [hN]
  rfl
/-- the two statements' reading -/
theorem one_body {te : TE} {a : Addr} {y : V} {Q : VK} (hN : N.length = 3) (T : OexC K C) (hno : PySem.W.findIn K (.ref C) fld = some none) (hte : ∀ Q' : VK, (∀ x, Q' x H) → te (startF N [.ref a, y] [none]) H Q') (ea : H a = some (exo a C none))
    (q : ∀ d, H d = none → d ≠ a → Q .non (upd (upd H d (exd d [(fld, y)])) a (exo a C (some d)))) :
    ∀ Q' : List V → Hp → Prop, (∀ us H1, us.length ≤ 1000 → H1 a = some (exo a C none) → tSeq (tOst K fld (tVar 0) (tVar 1)) tNext { nx := fun _ H' => Q .non H', rt := Q } (startF N [.ref a, y] [none]) H1 → Q' us H1) → tCons te tNil (startF N [.ref a, y] [none]) H Q' := fun Q' k => by
  refine hte _ fun x => ?_
  refine k [x] H (by simp) ea ?_
  rw [startF_two hN]
  exact ⟨y, rfl, .ref a, rfl, a, C, rfl, T, hno, .inl ⟨ea, q⟩⟩
end
/-- such an exception is made: what there is behind it -/
theorem make_one {K : PySem.W.Frag} {M : List Addr} {te : TE} {σ : L2.St} {H : Hp} {C : Addr} {fld : Str} {p : V → Prop} {i : Int} {Q : XK} (m : MOk M H) (h : Hv K M te σ H i) (hp : p (.int i))
    (q : ∀ H1 d, Ex H H1 → H1 d = none → Q (.ref C) (some d) (upd H1 d (.xd [(fld, .int i)]))) : tMkO C (spOne C fld p) [] (tCons te tNil) σ H Q := by
  refine h H (Ex.refl H) m _ fun v H1 e d => ?_
  have d' : Xp K (msk M H1) v (.int i) := d
  cases d'
  refine ⟨by simp, fun a ha => ⟨a, .int i, rfl, hp, upd_same, fun d hd hda => ⟨rfl, d, [(fld, .int i)], upd_same, ?_, ?_, ?_⟩⟩⟩
  · rw [upd_ne hda, upd_same]
  · rw [upd_ne hda] at hd; exact hd
  · have hd1 : H1 d = none := by rw [upd_ne hda] at hd; exact hd
    have e1 : upd (del (upd (upd (upd H1 a (exo a C none)) d (exd d [(fld, V.int i)])) a (exo a C (some d))) a) d (.xd [(fld, .int i)]) = upd H1 d (.xd [(fld, .int i)]) := by
      funext b
      by_cases hb : b = d
      · rw [hb, upd_same, upd_same]
      · rw [upd_ne hb, upd_ne hb]
        by_cases hba : b = a
        · rw [hba, del_same, ha]
        · rw [del_ne hba, upd_ne hba, upd_ne hb, upd_ne hba]
    rw [e1]
    exact q H1 d e hd1
/-- a text around one number, as an exception's message -/
theorem fs_int {s1 s2 : Str} {j : Nat} {σ : L2.St} {H : Hp} {i : Int} (hσ : σ[j]? = some (some (.int i))) (hi : i.natAbs.log2 < 1920) (hl : s1.length + 1921 + s2.length ≤ sizeLine) {Q' : VK} (k : ∀ x, Q' x H) :
    tJs [tC (.str s1), tFmt (tVar j), tC (.str s2)] Str.empty σ H fun out H1 => Q' (.str out) H1 := by
  have h1 : (Str.ofString (toString i)).length ≤ 1921 := by rw [PySem.ofString_length]; exact PySem.int_text_length_le (k := 1920) (by decide) hi
  refine ⟨s1, rfl, ?_, .int i, hσ, .inr ⟨i, rfl, hi, _, rfl, ?_, s2, rfl, ?_, k _⟩⟩
  · rw [PySem.Str.length_append]; show 0 + _ ≤ _; omega
  · rw [PySem.Str.length_append, PySem.Str.length_append]; show 0 + _ + _ ≤ _; omega
  · rw [PySem.Str.length_append, PySem.Str.length_append, PySem.Str.length_append]; show 0 + _ + _ + _ ≤ _; omega
theorem log2_few {i : Int} (h0 : 0 ≤ i) (h : i ≤ 1000000) : i.natAbs.log2 < 1920 := by
  have h1 : i.natAbs < 2 ^ 1920 := Nat.lt_of_le_of_lt (show i.natAbs ≤ 1000000 by omega) (by decide +kernel)
  by_cases h2 : i.natAbs = 0
  · rw [h2]; decide
  · exact (Nat.log2_lt h2).mpr h1
/-! ### defs that may raise such an exception: Except Int -/
/-- args, what is asked, what it answers (.ok) or with which number it raises C (.error) -/
def PrX {γ β : Type} [DecidableEq β] [Dx β] (K : PySem.W.Frag) (args : γ → List Xd) (pre : γ → Prop) (F : γ → Except Int β) (C : Addr) (fld : Str) : Sp := fun vs H Q E => ∃ (Mc : List Addr) (c : γ), MOk Mc H ∧ XpAll K (msk Mc H) vs (args c) ∧ pre c ∧
  (∀ b, F c = .ok b → ∀ w H', Ex H H' → Dt K (msk Mc H') w b → Q w H') ∧ ∀ i, F c = .error i → ∀ d H', Ex H H' → H' d = some (.xd [(fld, .int i)]) → E (.ref C) (some d) H'
section
variable {K : PySem.W.Frag} {Mc : List Addr} {He H : Hp} {is : Ims} {ms : Mus} {σ : L2.St} {te : TE} {tr : TA} {tz : TS} {D : Ends} {C : Addr} {fld : Str} {p : V → Prop} {W : WX}
/-- raise C(e) -/
theorem zq_raise {i : Int} (s : Sg K Mc He H is ms) (h : Hv K (muA ms ++ Mc) te σ H i) (hp : p (.int i)) (q : ∀ d H1, Ex He H1 → H1 d = some (.xd [(fld, .int i)]) → W (.ref C) (some d) σ H1) :
    tSeq (fun _ σ H => tMkO C (spOne C fld p) [] (tCons te tNil) σ H fun cls d H' => W cls d σ H') tz D σ H :=
  show tMkO C (spOne C fld p) [] (tCons te tNil) σ H (fun cls d H' => W cls d σ H') from
  make_one s.mok h hp fun H1 d e hd => q d _ (s.ex (e.trans (Ex.new hd))).all upd_same
/-- f(..) as a statement, f may raise C -/
theorem zq_callX {γ β : Type} [DecidableEq β] [Dx β] {args : γ → List Xd} {pre : γ → Prop} {F : γ → Except Int β} (c : γ) (s : Sg K Mc He H is ms) (h : HD K (muA ms ++ Mc) tr σ H (args c)) (hp : pre c) (ok : ∀ b, F c = .ok b → ∀ H1, Sg K Mc He H1 is ms → tz D σ H1)
    (er : ∀ i, F c = .error i → ∀ d H1, Sg K Mc He H1 is ms → H1 d = some (.xd [(fld, .int i)]) → W (.ref C) (some d) σ H1) : tSeq (tDrop (tCallS (PrX K args pre F C fld) (WE W) tr)) tz D σ H :=
  h H (Ex.refl H) s.mok _ fun vs H1 e d => ⟨muA ms ++ Mc, c, s.mok.ex e, d, hp, fun b hb w H' e' _ => ok b hb H' (s.ex (e.trans e')), fun i hi d H' e' hd => er i hi d H' (s.ex (e.trans e')) hd⟩
end
/-! ### promises put together -/
section
variable {P : Program} {w : World} {K : PySem.W.Frag} {mg : Str → Option Value} {base : Heap} {CX : CXT} {k : Nat} {f : Addr} {fd : FuncData} {ps : List Str} {sp sp1 sp2 : Sp}
/-- a def that never raises keeps its promise also where exceptions are told -/
theorem fnok_lift (F : FnOk P w K mg base CX0 k f fd ps sp) : FnOk P w K mg base CX k f fd ps sp := ⟨F.len, fun A outer s H args us vs Q E hr e0 hb r h => codeAny_mono (F.run A outer s H args us vs Q E hr e0 hb r h) fun r s' h' => by
  cases r with
  | error e => exact False.elim h'
  | ok fl => cases fl <;> exact h'⟩
/-- two promises of one def -/
theorem fnok_or (F1 : FnOk P w K mg base CX k f fd ps sp1) (F2 : FnOk P w K mg base CX k f fd ps sp2) : FnOk P w K mg base CX k f fd ps (fun vs H Q E => sp1 vs H Q E ∨ sp2 vs H Q E) :=
  ⟨fun vs H Q E h => h.elim (F1.len vs H Q E) (F2.len vs H Q E), fun A outer s H args us vs Q E hr e0 hb r h => h.elim (F1.run A outer s H args us vs Q E hr e0 hb r) (F2.run A outer s H args us vs Q E hr e0 hb r)⟩
end
/-- isinstance(e, c), e the exception that the suite holds, with its own dict -/
def rIsD (K : PySem.W.Frag) (D a dd : Addr) : List V → Hp → VK → Prop := fun xs H Q => ∃ (c : V) (cv : Value) (b : Bool) (fs : List (Str × V)), xs = [.ref a, c] ∧ (∀ u, RelV c u → u = cv) ∧ PySem.W.kitOne K (.ref D) cv = some b ∧ H dd = some (.xd fs) ∧ Q (.bl b) H
theorem call_isD {X : Cx} {a D dd : Addr} {oe : Obj} {pn : List (Addr × Obj)} (C : ExcC X.K D) (hz : Zc (.ref D) (some dd) oe) (hf : ∃ vs, oe.data = .fields vs) (hcl : (PySem.W.clsIn X.K D).isSome = true) : CallR (X.suite a ((a, oe) :: pn)) (.builtin "isinstance") (rIsD X.K D a dd) := by
  intro pins s σ H xs us Q I r h
  obtain ⟨c, cv, b, fs, rfl, hcv, e, hd, q⟩ := h
  cases r with
  | cons rx rr =>
    cases rr with
    | cons rt rr =>
      cases rr
      cases rx
      have ec := hcv _ rt
      subst ec
      obtain ⟨hget, _⟩ := I.pin (a, oe) (List.mem_append.mpr (.inl List.mem_cons_self))
      obtain ⟨vs, hv⟩ := hf
      obtain ⟨od, hod⟩ : ∃ od, s.heap.get? dd = some od := by
        obtain ⟨mA, ⟨o, es, ep, ho, _⟩, _⟩ := (show ObjOk X.prog X.w H s.heap dd (.xd fs) from I.hok dd _ hd)
        exact ⟨o, ho⟩
      have J : PySem.W.InstAt s.heap a oe D (some od) := by
        obtain ⟨oc, odc, oda, osl⟩ := oe
        obtain ⟨h1, h2⟩ := hz
        dsimp only at h1 h2 hv
        subst h1 h2 hv
        exact ⟨hget, rfl, rfl, hod⟩
      exact PySem.W.kia_one (PySem.W.kitx_exc hcl C.hg C.hk C.hs C.ha C.hn C.ht C.hm) I.kIn J e (fun z => nomatch z) fun tk => ⟨.bl b, H, I.kept (t' := tk) fun _ _ z => z, rfl, q⟩
/-! ### the same where it is known that the exception has no context (so that its suite may call own defs) -/
theorem passN {X : Cx} : Passes (L2N.CX X.prog X.w) X E0 := fun _ _ _ _ _ _ _ h => by
  obtain ⟨_, _, _, _, _, _, _, _, _, _, _, _, z⟩ := h
  exact z.elim
/-- C(e): the exception is made, its own __init__ keeping sp -/
theorem mk_excN {X : Cx} {CX : CXT} {x : Str} {C fI : Addr} {k : Nat} {fd : FuncData} {ps : List Str} {sp : Sp} {e : Expr} {te : TE} {p pos : Pos} (T : OexC X.K C) (iC : PySem.W.findIn X.K (.ref C) "__init__" = some (some (.ref fI))) (tI : PySem.W.typeIn X.K (.ref fI) = some (.type "function"))
    (F1 : FnOk X.prog X.w X.K X.mg X.base CX k fI fd ps sp) (hr : Room (k + 1) X.A) (hb : Binds X.K fd ps []) (hx : Passes CX X E0) (hg : Gl X x) (hm : X.mg x = some (.ref C)) (he : PE X e te)
    (hdb : (x == ("__debug__" : Str)) = false := by decide) (h1 : starEach [e] X.env = (false, eval e X.env) :: starEach [] X.env := by rfl) :
    L2N.PMk X (.Call (.Name x p) [e] [] pos) (tMkO C sp [] (tCons te tNil)) := by
  intro pins s σ H Q I h
  obtain ⟨nm, q, N, bs, bm, sn, sub, ab, col, dd, k0, k1, k2, k3, k5, hC, hbm⟩ := T.cls
  have pa : PA X [e] (tCons te tNil) := pa_cons he pa_nil h1
  refine wpAny_Call_Name_kw (ld_glob I hg hm ?_ hdb)
  refine PySem.W.callWith_K (h₀ := X.base) I.ok.mod.kin T.kC (thn (pa.run pos pins s σ H _ I h) fun us s1 ⟨vs, H1, I1, r1, hz, q1⟩ => ⟨I1.kIn, ?_⟩) h1 rfl
  show wpAny _ _ (call (.ref C) us) _ _ _
  obtain ⟨hp, g, dr, tk, os⟩ := s1
  generalize ha : hp.objs.size + 1 = a at *
  have hsz : hp.objs.size ≤ a := by omega
  have hq := q1 a (I1.hok.fresh hsz)
  rw [List.append_nil] at hq
  have kk : ∀ b o, hp.get? b = some o → ((hp.push (PySem.W.kdv_tup us)).push (PySem.HandSPX.excO C hp.objs.size)).get? b = some o := fun b o z => Heap.get?_push_of_some _ (Heap.get?_push_of_some _ z)
  have hget : ((hp.push (PySem.W.kdv_tup us)).push (PySem.HandSPX.excO C hp.objs.size)).get? a = some (PySem.HandSPX.excO C hp.objs.size) := by subst ha; heap_get
  have I2 : Inv X pins σ (upd H1 a (exo a C none)) ⟨(hp.push (PySem.W.kdv_tup us)).push (PySem.HandSPX.excO C hp.objs.size), g, dr, tk, os⟩ := I1.laid (t' := tk) kk hsz (exo_ok hget)
  have r2 : Vals (V.ref a :: vs) (Value.ref a :: us) := .cons rfl r1
  have hl : (Value.ref a :: us ++ []).length = ps.length := by
    have z := r2.length
    rw [F1.len _ _ _ _ hq] at z
    rw [List.append_nil]
    exact z.symm
  have b2 := hb _ (Value.ref a :: us) I2.kIn hl
  rw [List.append_nil] at b2
  have hus : us.length ≤ sizeLine := by
    rw [← Paired.length r1, sizeLine_eq]
    omega
  have run := F1.run _ X.stack _ _ ⟨Value.ref a :: us, []⟩ (Value.ref a :: us) _ _ (fun _ _ _ => False) (hr.make C us []) (I2.env0.make C us []) b2 r2 hq
  subst ha
  refine wpAny_call (PySem.HandSPX.call_own F.excBase_ValueError (fun Y => PySem.HandSPX.refsVE_contains Y bm hbm) (I1.kIn _ _ hC) (PySem.W.looks_findIn I1.kIn iC) (fun self => PySem.W.bind_fn I1.kIn self tI) hus (codeAny_mono run fun r s' hq' => ?_))
  match r with
  | .error er => exact hx pins σ _ _ er s' I2 hq'
  | .ok .next => exact False.elim hq'
  | .ok .brk => exact False.elim hq'
  | .ok .cont => exact False.elim hq'
  | .ok (.ret u) =>
    obtain ⟨v, H2, os2, bare2, un2, hok2, rv, rfl, d, fs, ea, ed, hd1, q2⟩ := hq'
    obtain ⟨h2, g2, d2, t2, os'⟩ := s'
    obtain ⟨t0, G, J, kG, ge, hoe, na⟩ := mk_end0 (d2 := d2) (t2 := t2) I1 hsz kk un2 hok2 os2 bare2 ea ed hd1
    exact ⟨rv, ⟨_, _, _, ⟨G, g2, d2, t2, os'⟩, _, .ref C, some d, rfl, J, kG, ge, hoe, ⟨rfl, rfl, fun vs hv => by cases hv; rfl⟩, rfl, rfl, na, rfl, bare2, raises_own T.exC T.tyC, q2⟩⟩
/-- a def by its body, at any context of exceptions -/
theorem fun_okC {CX : CXT} {P : Program} {w : World} {K : PySem.W.Frag} {mg : Str → Option Value} {base : Heap} {x qual : Str} {st : Stmt} {f : Addr} {fd : FuncData} {N ps : List Str} {k : Nat} {sp : Sp} (F : Fun K x qual st f fd) (S : FnScope N ps (defScope st)) (len : ∀ vs H Q E, sp vs H Q E → vs.length = ps.length)
    (hbody : ∀ (cdv : Value) (A : Around) (outer : List Env) (s : Shared) (H : Hp) (vs : List V) (Q : VK) (E : XK), Room k (A.deeper (envOfC qual (defScope st) s.heap.objs.size f cdv)) → sp vs H Q E →
      ∃ t, PSs (cxOf CX P w K mg base N qual (defScope st) f cdv A outer s H E) (defBody st) t ∧ t { nx := fun _ H' => Q .non H', rt := Q } (start N vs) H) : FnOk P w K mg base CX (k + 1) f fd ps sp := by
  obtain ⟨oc, od, kV, doc, pm, an, cdv, ct, osl, rfl, lk, hcd⟩ := F.ex
  exact fn_of lk hcd S len fun A outer s H vs Q E hr hsp => hbody cdv A outer s H vs Q E hr hsp
/-- a def by its body, where an exception is handled -/
theorem fun_okH {CX : CXT} {P : Program} {w : World} {K : PySem.W.Frag} {mg : Str → Option Value} {base : Heap} {x qual : Str} {st : Stmt} {f : Addr} {fd : FuncData} {N ps : List Str} {k : Nat} {sp : Sp} (F : Fun K x qual st f fd) (S : FnScope N ps (defScope st)) (len : ∀ vs H Q E, sp vs H Q E → vs.length = ps.length)
    (hbody : ∀ (cdv : Value) (A : Around) (outer : List Env) (s : Shared) (H : Hp) (vs : List V) (Q : VK) (E : XK) (p : Addr × Obj), L2H.Hot1 A p → L2H.RoomH k (A.deeper (envOfC qual (defScope st) s.heap.objs.size f cdv)) → sp vs H Q E →
      ∃ t, PSs (L2H.cxH CX P w K mg base N qual (defScope st) f cdv A outer s H E p) (defBody st) t ∧ t { nx := fun _ H' => Q .non H', rt := Q } (start N vs) H) : L2H.FnH P w K mg base CX (k + 1) f fd ps sp := by
  obtain ⟨oc, od, kV, doc, pm, an, cdv, ct, osl, rfl, lk, hcd⟩ := F.ex
  exact L2H.fn_ofH lk hcd S len fun A outer s H vs Q E p hot hr hsp => hbody cdv A outer s H vs Q E p hot hr hsp
/-- the suite of an except clause bears the exception that it handles -/
theorem hot_suite {X : Cx} {a : Addr} {oe : Obj} {cls : Value} {d : Option Addr} {pn : List (Addr × Obj)} (hz : L2N.Zn cls d oe) (hf : ∃ vs, oe.data = .fields vs) : L2H.HotC (X.suite a ((a, oe) :: pn)) := by
  obtain ⟨vs, hv⟩ := hf
  exact ⟨(a, oe), ⟨rfl, vs, hv, hz.2.2 vs hv⟩, List.mem_cons_self⟩
/-- isinstance(e, c) in a suite, whatever class and dict the clause may meet -/
def rIsG (K : PySem.W.Frag) (D a : Addr) (cls : Value) (d : Option Addr) : List V → Hp → VK → Prop := fun xs H Q => ∃ dd, cls = .ref D ∧ d = some dd ∧ rIsD K D a dd xs H Q
theorem call_isG {X : Cx} {a D : Addr} {oe : Obj} {cls : Value} {d : Option Addr} {pn : List (Addr × Obj)} (C : ExcC X.K D) (hz : Zc cls d oe) (hf : ∃ vs, oe.data = .fields vs) (hcl : (PySem.W.clsIn X.K D).isSome = true) : CallR (X.suite a ((a, oe) :: pn)) (.builtin "isinstance") (rIsG X.K D a cls d) := by
  intro pins s σ H xs us Q I r h
  obtain ⟨dd, rfl, rfl, h⟩ := h
  exact call_isD C hz hf hcl pins s σ H xs us Q I r h
end Ly

namespace Ly
open PySem PySem.Spec PyProof.Rows L2 Evl
open PySem.W (Datum DatumOrd Tup T3 T4)
theorem passH0 {X : Cx} : ∀ σ, PassesAt CX0 X σ ((fun _ => E0 : L2.St → XK) σ) := fun _ _ _ _ _ _ _ h => h.elim
/-! ### defs that raise an own exception; try in a law -/
theorem takes0N {X : Cx} : L2N.Takes X (fun _ _ _ _ => False) := fun _ _ x => by
  obtain ⟨_, _, _, _, _, _, _, _, _, _, _, _, _, _, _, _, z⟩ := x
  exact z.elim
/-- args, what is asked, what it answers (.ok) or with what it raises C (.error) -/
def PrE {γ β ε : Type} [DecidableEq β] [Dx β] (K : PySem.W.Frag) (args : γ → List Xd) (pre : γ → Prop) (F : γ → Except ε β) (C : Addr) (ns : List Str) (xs : ε → List Xd) : Sp := fun vs H Q E => ∃ (Mc : List Addr) (c : γ), MOk Mc H ∧ XpAll K (msk Mc H) vs (args c) ∧ pre c ∧
  (∀ b, F c = .ok b → ∀ w H', Ex H H' → Dt K (msk Mc H') w b → Q w H') ∧ ∀ i, F c = .error i → ∀ d H', Ex H H' → Xp K (msk Mc H') (.ref d) (.exd ns (xs i)) → E (.ref C) (some d) H'
section
variable {K : PySem.W.Frag} {Mc : List Addr} {He H : Hp} {is : Ims} {ms : Mus} {σ : L2.St} {te : TE} {tr : TA} {tz : TS} {D : Ends} {C : Addr} {fld : Str} {p : V → Prop} {W : WX}
/-- raise C(e) -/
theorem zq_raiseE {i : Int} (s : Sg K Mc He H is ms) (h : Hv K (muA ms ++ Mc) te σ H i) (hp : p (.int i)) (q : ∀ d H1, Ex He H1 → Xp K (msk Mc H1) (.ref d) (.exd [fld] [.int i]) → W (.ref C) (some d) σ H1) :
    tSeq (fun _ σ H => tMkO C (spOne C fld p) [] (tCons te tNil) σ H fun cls d H' => W cls d σ H') tz D σ H :=
  show tMkO C (spOne C fld p) [] (tCons te tNil) σ H (fun cls d H' => W cls d σ H') from
  make_one s.mok h hp fun H1 d e hd => q d _ (s.ex (e.trans (Ex.new hd))).all
    (Xp.exd (fs := [(fld, .int i)]) (by rw [msk_out ((s.okc.ex (s.ex e).all).nin hd)]; exact upd_same) rfl rfl (.cons (.int i) .nil))
/-- what a suite's end does -/
def DE (D : Ends) (tz : TS) (j : Nat) : Ends := { nx := fun σ' H' => tz D (σ'.set j none) H', rt := D.rt, bk := fun σ' H' => D.bk (σ'.set j none) H', ct := fun σ' H' => D.ct (σ'.set j none) H' }
section
variable {γ β ε : Type} [DecidableEq β] [Dx β] {args : γ → List Xd} {pre : γ → Prop} {F : γ → Except ε β} {ns : List Str} {xs : ε → List Xd} {j : Nat} {ts : Addr → Value → Option Addr → TS} {Wout : WX}
/-- try: f(..) except C as e -/
theorem zq_tryE (c : γ) (s : Sg K Mc He H is ms) (h : HD K (muA ms ++ Mc) tr σ H (args c)) (hp : pre c) (hx : PySem.W.exmOne K (.ref C) (.ref C) = some true)
    (ok : ∀ b, F c = .ok b → ∀ H1, Sg K Mc He H1 is ms → tz D σ H1)
    (er : ∀ i, F c = .error i → ∀ a d H1, Sg K Mc He H1 ((.ref d, Xd.exd ns (xs i)) :: is) ms → ts a (.ref C) (some d) (DE D tz j) (σ.set j (some (.ref a))) H1) :
    tSeq (fun D σ H => tSeq (tDrop (tCallS (PrE K args pre F C ns xs) (WE (wAs K (.ref C) j ts Wout D)) tr)) tNext D σ H) tz D σ H :=
  h H (Ex.refl H) s.mok _ fun vs H1 e d => ⟨muA ms ++ Mc, c, s.mok.ex e, d, hp, fun b hb w H' e' _ => ok b hb H' (s.ex (e.trans e')),
    fun i hi d H' e' hd => ⟨true, hx, fun _ a ha => er i hi a d H' ⟨(s.ex (e.trans e')).ext, s.okc, s.nd, ⟨hd, (s.ex (e.trans e')).im⟩, (s.ex (e.trans e')).mu⟩, fun z => nomatch z⟩⟩
/-- try: x = f(..) except C as e -/
theorem zq_tryA (c : γ) {i0 : Nat} (s : Sg K Mc He H is ms) (h : HD K (muA ms ++ Mc) tr σ H (args c)) (hp : pre c) (hx : PySem.W.exmOne K (.ref C) (.ref C) = some true)
    (ok : ∀ b, F c = .ok b → ∀ v H1, Sg K Mc He H1 ((v, Dx.toX b) :: is) ms → tz D (σ.set i0 (some v)) H1)
    (er : ∀ i, F c = .error i → ∀ a d H1, Sg K Mc He H1 ((.ref d, Xd.exd ns (xs i)) :: is) ms → ts a (.ref C) (some d) (DE D tz j) (σ.set j (some (.ref a))) H1) :
    tSeq (fun D σ H => tSeq (tAsg (tCallS (PrE K args pre F C ns xs) (WE (wAs K (.ref C) j ts Wout D)) tr) (gName i0)) tNext D σ H) tz D σ H :=
  h H (Ex.refl H) s.mok _ fun vs H1 e d => ⟨muA ms ++ Mc, c, s.mok.ex e, d, hp, fun b hb w H' e' dw => ok b hb w H' ((s.ex (e.trans e')).put dw),
    fun i hi d H' e' hd => ⟨true, hx, fun _ a ha => er i hi a d H' ⟨(s.ex (e.trans e')).ext, s.okc, s.nd, ⟨hd, (s.ex (e.trans e')).im⟩, (s.ex (e.trans e')).mu⟩, fun z => nomatch z⟩⟩
end
end
theorem suite_end {D : Ends} {tz : TS} {j : Nat} {σ : L2.St} {H : Hp} (h : tz D (σ.set j none) H) : tNext (DE D tz j) σ H := h
section
variable {K : PySem.W.Frag} {M : List Addr} {σ : L2.St} {H : Hp}
/-- a call in a suite -/
theorem hv_callS0 {γ β : Type} [DecidableEq β] [Dx β] {args : γ → List Xd} {pre : γ → Prop} {F : γ → β} {tr : TA} {E : L2.St → XK} (c : γ) (h : HD K M tr σ H (args c)) (p : pre c) : Hv K M (tCallS (PrD K args pre F) E tr) σ H (F c) := fun H1 e m Q q =>
  h H1 e m _ fun vs H2 e2 d => ⟨M, c, m.ex e2, d, p, fun w H3 e3 d3 => q w H3 (e2.trans e3) d3⟩
theorem exd_at {d : Addr} {ns : List Str} {ds : List Xd} (h : Xp K H (.ref d) (.exd ns ds)) : ∃ fs, H d = some (.xd fs) ∧ fs.map (·.1) = ns ∧ XpAll K H (fs.map (·.2)) ds := by
  cases h with
  | exd h k v a => exact ⟨_, h, k, by rw [v]; exact a⟩
/-- isinstance(e, c) -/
theorem hv_isG {j : Nat} {C a dd : Addr} {v : V} {cv : Value} {b : Bool} {ns : List Str} {ds : List Xd} (hj : σ[j]? = some (some (.ref a))) (hd : Xp K (msk M H) (.ref dd) (.exd ns ds)) (hc : ∀ u, L2.RelV v u → u = cv) (hk : PySem.W.kitOne K (.ref C) cv = some b) :
    Hv K M (tCB (rIsG K C a (.ref C) (some dd)) (tCons (tVar j) (tCons (tC v) tNil))) σ H b := fun H1 e m Q q => by
  obtain ⟨fs, h1, _, _⟩ := exd_at (dp_mono (msk_ex e) hd)
  exact ⟨_, hj, dd, rfl, rfl, v, cv, b, fs, rfl, hc, hk, msk_le _ _ h1, q _ H1 (Ex.refl H1) (Dt.ofBool b)⟩
theorem lookup_map {fs : List (Str × V)} {n : Str} {i : Nat} (hn : (fs.map (·.1))[i]? = some n) (nd : (fs.map (·.1)).Nodup) : fs.lookup n = (fs.map (·.2))[i]? := by
  induction fs generalizing i with
  | nil => simp at hn
  | cons f r ih =>
    obtain ⟨k, v⟩ := f
    simp only [List.map_cons, List.nodup_cons] at hn nd
    cases i with
    | zero =>
      simp at hn
      subst hn
      simp [List.lookup]
    | succ i =>
      simp at hn
      have hne : n ≠ k := fun z => nd.1 (by rw [← z]; exact List.mem_of_getElem? (by simpa using hn))
      have e : (n == k) = false := by simpa using hne
      simp only [List.lookup, e]
      have := ih (i := i) (by simpa using hn) nd.2
      rw [this]
      simp
/-- e.f -/
theorem hv_xf {α : Type} [DecidableEq α] [Dx α] {j i : Nat} {C a dd : Addr} {f : Str} {ns : List Str} {ds : List Xd} {x : α} (hj : σ[j]? = some (some (.ref a))) (hd : Xp K (msk M H) (.ref dd) (.exd ns ds)) (hi : ns[i]? = some f) (nd : ns.Nodup) (hx : ds[i]? = some (Dx.toX x)) :
    Hv K M (tXf a (.ref C) (some dd) C f (tVar j)) σ H x := fun H1 e m Q q => by
  obtain ⟨fs, h1, h2, h3⟩ := exd_at (dp_mono (msk_ex e) hd)
  obtain ⟨v, hv, dv⟩ := dpa_at h3 hx
  exact ⟨_, hj, rfl, rfl, dd, fs, v, rfl, msk_le _ _ h1, by rw [lookup_map (i := i) (by rw [h2]; exact hi) (by rw [h2]; exact nd)]; exact hv, q v H1 (Ex.refl H1) dv⟩
end
end Ly

namespace Ly
open PySem PySem.Spec PyProof.Rows L2 Evl
open PySem.W (Datum DatumOrd Tup T3 T4)
/-! ### lists that are lent to a def while they may still change -/
/-- an argument: data, or the shell of a list that is only read -/
inductive Ag where
  | im (d : Xd)
  | bo (ds : List Xd)
def AgOk (K : PySem.W.Frag) (M : List Addr) (H : Hp) (v : V) : Ag → Prop
  | .im d => Xp K (msk M H) v d
  | .bo ds => ∃ l ws, v = .ref l ∧ SqL K H l ws ∧ XpAll K (msk M H) ws ds
theorem AgOk.ex {K : PySem.W.Frag} {M : List Addr} {H H' : Hp} {v : V} (e : Ex H H') : ∀ {a : Ag}, AgOk K M H v a → AgOk K M H' v a
  | .im _, h => dp_mono (msk_ex e) h
  | .bo _, ⟨l, ws, h1, h2, h3⟩ => ⟨l, ws, h1, ex_l e h2, dpa_mono (msk_ex e) h3⟩
inductive AgAll (K : PySem.W.Frag) (M : List Addr) (H : Hp) : List V → List Ag → Prop
  | nil : AgAll K M H [] []
  | cons {v : V} {vs : List V} {a : Ag} {as : List Ag} : AgOk K M H v a → AgAll K M H vs as → AgAll K M H (v :: vs) (a :: as)
section
variable {K : PySem.W.Frag} {Mc M : List Addr} {He H H1 H2 : Hp} {is js : Ims} {ms : Mus} {σ : L2.St} {te ta tb tl : TE} {tt : TT} {g : TG}
variable {α β γ : Type} [DecidableEq α] [Dx α] [DecidableEq β] [Dx β]
theorem aga_len : ∀ {vs : List V} {as : List Ag}, AgAll K M H vs as → vs.length = as.length
  | _, _, .nil => rfl
  | _, _, .cons _ b => by rw [List.length_cons, List.length_cons, aga_len b]
theorem aga_inv {vs : List V} {d : Xd} {as : List Ag} (h : AgAll K M H vs (.im d :: as)) : ∃ v r, vs = v :: r ∧ Xp K (msk M H) v d ∧ AgAll K M H r as := by
  cases h with
  | cons a b => exact ⟨_, _, rfl, a, b⟩
theorem aga_invB {vs : List V} {ds : List Xd} {as : List Ag} (h : AgAll K M H vs (.bo ds :: as)) : ∃ l r ws, vs = .ref l :: r ∧ SqL K H l ws ∧ XpAll K (msk M H) ws ds ∧ AgAll K M H r as := by
  cases h with
  | cons a b => obtain ⟨l, ws, rfl, h2, h3⟩ := a; exact ⟨l, _, ws, rfl, h2, h3, b⟩
theorem aga_inv0 {vs : List V} (h : AgAll K M H vs []) : vs = [] := by cases h; rfl
def PrB (K : PySem.W.Frag) (args : γ → List Ag) (pre : γ → Prop) (F : γ → β) : Sp := fun vs H Q _ =>
  ∃ (Mc : List Addr) (c : γ), MOk Mc H ∧ AgAll K Mc H vs (args c) ∧ pre c ∧ ∀ w H', Ex H H' → Dt K (msk Mc H') w (F c) → Q w H'
def HB (K : PySem.W.Frag) (M : List Addr) (ta : TA) (σ : L2.St) (H : Hp) (as : List Ag) : Prop := HA M ta σ H (fun vs H => AgAll K M H vs as)
theorem hb_nil : HB K M tNil σ H [] := fun H1 e m Q q => q [] H1 (Ex.refl H1) .nil
theorem hb_im {tr : TA} {x : α} {as : List Ag} (h : Hv K M te σ H x) (hr : HB K M tr σ H as) : HB K M (tCons te tr) σ H (.im (Dx.toX x) :: as) := fun H1 e m Q q =>
  h H1 e m _ fun v H2 e2 d => hr H2 (e.trans e2) (m.ex e2) _ fun vs H3 e3 p => q _ H3 (e2.trans e3) (.cons (AgOk.ex (a := .im (Dx.toX x)) e3 d) p)
theorem hb_bo {tr : TA} {xs : List α} {as : List Ag} (h : HS K M te σ H xs) (hr : HB K M tr σ H as) : HB K M (tCons te tr) σ H (.bo (xs.map Dx.toX) :: as) := fun H1 e m Q q =>
  h H1 e m _ fun a vs H2 e2 s d => hr H2 (e.trans e2) (m.ex e2) _ fun ws H3 e3 p => q _ H3 (e2.trans e3) (.cons (AgOk.ex (a := .bo (xs.map Dx.toX)) e3 ⟨a, vs, rfl, s, d⟩) p)
theorem hv_callB {args : γ → List Ag} {pre : γ → Prop} {F : γ → β} {tr : TA} {E : XK} (c : γ) (h : HB K M tr σ H (args c)) (p : pre c) : Hv K M (tCall (PrB K args pre F) [] E tr) σ H (F c) := fun H1 e m Q q =>
  h H1 e m _ fun vs H2 e2 d => by
    show PrB K args pre F (vs ++ []) H2 Q E
    rw [List.append_nil]
    exact ⟨M, c, m.ex e2, d, p, fun w H3 e3 d3 => q w H3 (e2.trans e3) d3⟩
theorem Sg.entry (s : Sg K Mc He H is ms) : Ex (msk Mc He) (msk (muA ms ++ Mc) H) := fun a o h => by
  by_cases q : a ∈ Mc
  · rw [msk_in q] at h; cases h
  · rw [msk_out q] at h
    have h2 := s.ext a o h
    by_cases q2 : a ∈ muA ms
    · rw [msk_in q2] at h2; cases h2
    · rw [msk_out q2] at h2
      rw [msk_out (by simp [q, q2])]
      exact h2
/-- a lent list -/
theorem hs_bor (s : Sg K Mc He H is ms) {i : Nat} {l : Addr} {ws : List V} {xs : List α} (q : SqL K He l ws) (d : XpAll K (msk Mc He) ws (xs.map Dx.toX)) (h : σ[i]? = some (some (.ref l))) : HS K (muA ms ++ Mc) (tVar i) σ H xs := fun H1 e1 m Q k =>
  ⟨_, h, k l ws H1 (Ex.refl H1) (ex_l (s.all.trans e1) q) (dpa_mono (s.entry.trans (msk_ex e1)) d)⟩
/-- all of it, for a use that leaves nothing behind -/
theorem hv_bor (s : Sg K Mc He H is ms) {i : Nat} {l : Addr} {ws : List V} {xs : List α} (q : SqL K He l ws) (d : XpAll K (msk Mc He) ws (xs.map Dx.toX)) (h : σ[i]? = some (some (.ref l))) : Hv K [] (tVar i) σ H xs := hv_wholeS s (hs_bor s q d h)
/-! ### comprehensions over a list that may still change -/
theorem msk_newD {D : Addr} (e : Ex H H1) (h : H D = none) : Ex (msk M H) (msk (D :: M) H1) := fun a o q => by
  by_cases z : a ∈ M
  · rw [msk_in z] at q; cases q
  · rw [msk_out z] at q
    have n : a ≠ D := ne_of_none q h
    rw [msk_out (by simp [n, z])]
    exact e a o q
theorem hf_lcS0 {vs : List Nat} (s : Sg K Mc He H is ms) {xs : List α} (ef : α → β) (h : HS K (muA ms ++ Mc) tl σ H xs) (hz : xs.length ≤ 40000)
    (hb : ∀ D x w (ys : List β) H1, Sg K Mc He H1 ((w, Dx.toX x) :: is) ((D, .lst (ys.map Dx.toX)) :: ms) → x ∈ xs →
      ∀ Q : L2.St → Hp → Prop, (∀ σ2, wipe σ2 vs = wipe σ vs → Hv K (muA ((D, Mv.lst (ys.map Dx.toX)) :: ms) ++ Mc) te σ2 H1 (ef x) → Q σ2 H1) → g w (wipe σ vs) H1 Q) :
    HF K (muA ms ++ Mc) (tLc (iList K tl) g tYes te vs) σ H (xs.map ef) := fun H1 e m Q q =>
  h H1 e m _ fun a us H2 e2 s1 ds => by
    refine ⟨a, rfl, ⟨us, s1⟩, fun D hD => ?_⟩
    have sA : Sg K Mc He H2 is ms := (s.ex e).ex e2
    have sB : Sg K Mc He (upd H2 D (.lst [])) is ((D, .lst (([] : List β).map Dx.toX)) :: ms) := sA.new hD ⟨[], rfl, .nil⟩
    refine lc_listD (xs := xs) (M' := D :: (muA ms ++ Mc)) (fun i H' => Ex H2 H' ∧ Sg K Mc He H' is ((D, .lst (((xs.take i).map ef).map Dx.toX)) :: ms)) ⟨Ex.new hD, sB⟩
      (fun i H' _ p => ?_) (fun i x w H' hx p dw => ?_) (fun H' p => ?_)
    · exact ⟨us, ex_l p.1 s1, Dts.mono (msk_newD p.1 hD) ds⟩
    · have hi : i < xs.length := (List.getElem?_eq_some_iff.mp hx).1
      refine hb D x w _ H' (p.2.put dw) (List.mem_of_getElem? hx) _ fun σ2 hw he => ⟨hw, ?_⟩
      have hlen : ((xs.take i).map ef).length < 50000 := by
        rw [List.length_map, List.length_take]
        omega
      exact lc_turn (ms := ms) (tt := tYes) (b := true) (zs := (xs.take (i + 1)).map ef) p.2 hlen (fun H3 => Ex H2 H3 ∧ Sg K Mc He H3 is ((D, .lst (((xs.take (i + 1)).map ef).map Dx.toX)) :: ms)) (fun H2 _ _ _ q => q H2 (Ex.refl H2)) (fun _ => he) (by rw [if_pos rfl, take_snoc hx, List.map_append]; rfl) (fun H3 h4 s3 => ⟨by
        obtain ⟨H4, e4, e5⟩ := h4
        rcases e5 with e5 | ⟨o, e5⟩
        · rw [e5]; exact p.1.trans e4
        · rw [e5]; exact Ex.mut (p.1.trans e4) hD, s3⟩)
    · have z := p.2
      rw [List.take_length] at z
      obtain ⟨us2, h3, h4⟩ := z.lst (k := 0) rfl
      exact q D us2 H' (fresh_back e2 hD) (e2.trans p.1) h3 h4
theorem hv_lcS {vs : List Nat} (s : Sg K Mc He H is ms) {xs : List α} (f : α → Bool) (ef : α → β) (h : HS K (muA ms ++ Mc) tl σ H xs) (hz : xs.length ≤ 40000)
    (hb : ∀ D x w (ys : List β) H1, Sg K Mc He H1 ((w, Dx.toX x) :: is) ((D, .lst (ys.map Dx.toX)) :: ms) → x ∈ xs →
      ∀ Q : L2.St → Hp → Prop, (∀ σ2, wipe σ2 vs = wipe σ vs → HT (muA ((D, Mv.lst (ys.map Dx.toX)) :: ms) ++ Mc) tt σ2 H1 (f x) → (f x = true → Hv K (muA ((D, Mv.lst (ys.map Dx.toX)) :: ms) ++ Mc) te σ2 H1 (ef x)) → Q σ2 H1) → g w (wipe σ vs) H1 Q) :
    Hv K (muA ms ++ Mc) (tLc (iList K tl) g tt te vs) σ H ((xs.filter f).map ef) := fun H1 e m Q q =>
  h H1 e m _ fun a us H2 e2 s1 ds => by
    refine ⟨a, rfl, ⟨us, s1⟩, fun D hD => ?_⟩
    have sA : Sg K Mc He H2 is ms := (s.ex e).ex e2
    have sB : Sg K Mc He (upd H2 D (.lst [])) is ((D, .lst (([] : List β).map Dx.toX)) :: ms) := sA.new hD ⟨[], rfl, .nil⟩
    refine lc_listD (xs := xs) (M' := D :: (muA ms ++ Mc)) (fun i H' => Ex H2 H' ∧ Sg K Mc He H' is ((D, .lst ((((xs.take i).filter f).map ef).map Dx.toX)) :: ms)) ⟨Ex.new hD, sB⟩
      (fun i H' _ p => ?_) (fun i x w H' hx p dw => ?_) (fun H' p => ?_)
    · exact ⟨us, ex_l p.1 s1, Dts.mono (msk_newD p.1 hD) ds⟩
    · have hi : i < xs.length := (List.getElem?_eq_some_iff.mp hx).1
      refine hb D x w _ H' (p.2.put dw) (List.mem_of_getElem? hx) _ fun σ2 hw ht he => ⟨hw, ?_⟩
      have hlen : (((xs.take i).filter f).map ef).length < 50000 := by
        rw [List.length_map]
        have := List.length_filter_le f (xs.take i)
        rw [List.length_take] at this
        omega
      have key := lc_turn (ms := ms) (zs := ((xs.take (i + 1)).filter f).map ef) p.2 hlen (fun H3 => Ex H2 H3 ∧ Sg K Mc He H3 is ((D, .lst ((((xs.take (i + 1)).filter f).map ef).map Dx.toX)) :: ms)) ht he (filter_snoc hx) (fun H3 h4 s3 => ⟨by
        obtain ⟨H4, e4, e5⟩ := h4
        rcases e5 with e5 | ⟨o, e5⟩
        · rw [e5]; exact p.1.trans e4
        · rw [e5]; exact Ex.mut (p.1.trans e4) hD, s3⟩)
      exact key
    · have z := p.2
      rw [List.take_length] at z
      exact q _ H' (e2.trans p.1) (z.frz).im.1
end
section
variable {K : PySem.W.Frag} {Mc M : List Addr} {He H : Hp} {is : Ims} {ms : Mus} {σ : L2.St} {te : TE} {g : TG} {tu tz : TS} {D : Ends}
variable {α : Type} [DecidableEq α] [Dx α]
/-- over a lent list -/
theorem zq_forB {xs : List α} {ii : Nat} {l : Addr} {ws : List V} (s : Sg K Mc He H is ms) (q : SqL K He l ws) (d : XpAll K (msk Mc He) ws (xs.map Dx.toX)) (h : σ[ii]? = some (some (.ref l))) (Pv : Nat → L2.St → Hp → Prop) (h0 : ∀ H1, Sg K Mc He H1 is ms → Pv 0 σ H1)
    (hl : ∀ i σ' H', Pv i σ' H' → ∃ is2 ms2, Sg K Mc He H' is2 ms2 ∧ muA ms2 = muA ms)
    (hs : ∀ i x w σ' H', xs[i]? = some x → Pv i σ' H' → Dt K (msk (muA ms ++ Mc) H') w x → g w σ' H' fun σ2 H2 => tu { D with nx := Pv (i + 1), ct := Pv (i + 1), bk := tz D } σ2 H2)
    (hd : ∀ σ' H', Pv xs.length σ' H' → tz D σ' H') : tSeq (tFor (iList K (tVar ii)) g tu) tz D σ H := by
  refine ⟨_, h, l, rfl, ⟨ws, ex_l s.all q⟩, for_listD (D := { D with nx := tz D }) (M := muA ms ++ Mc) Pv (h0 H s) (fun i σ' H' _ p => ?_) hs hd⟩
  obtain ⟨is2, ms2, s2, e⟩ := hl i σ' H' p
  refine ⟨ws, ex_l s2.all q, ?_⟩
  have := s2.entry
  rw [e] at this
  exact dpa_mono this d
/-- what may be none, where it is known that it is not -/
theorem hv_unO {x : Option α} {y : α} (h : Hv K M te σ H x) (e : x = some y) : Hv K M te σ H y := by subst e; exact fun H1 e m Q q => h H1 e m Q fun v H2 e2 d => q v H2 e2 d
theorem hv_getO [SomeX α] {x : Option α} {d : α} (h : Hv K M te σ H x) (e : x.isNone = false) : Hv K M te σ H (Option.getD x d) := by
  cases x with
  | none => cases e
  | some y => exact hv_unO h rfl
end
end Ly

namespace My
open PySem PySem.Spec PyProof.Rows L2 Evl Ly CwR
open PySem.W (Datum DatumOrd Tup T3 T4 minOf)
def topS (i : Nat) : Stmt := PySem.Challenge.pw_folio_k38_demands_outside.main.body.getD i (.Pass ⟨0, 0, 0, 0⟩)
def small (y : V) : Prop := ∃ i : Int, y = .int i ∧ 0 ≤ i ∧ i ≤ 1000
section
open NdefX
abbrev st_BadDemand : Stmt := inClass (topS 2) 0
theorem ini_BadDemand {CX : CXT} {P : Program} {w : World} {K : PySem.W.Frag} {mg : Str → Option Value} {base : Heap} {f C cc cda : Addr} {dV kV doc pm ct oc : Value} {an od : Option Addr} {osl : Array (Option Value)} {file : Str}
  (lk : K.lookup f = some ⟨oc, od, .func (PySem.W.fnX "__init__" "BadDemand.__init__" (defArgs st_BadDemand) (defBody st_BadDemand) (defScope st_BadDemand) [("__class__", cc)] dV kV doc pm an (.ref cda) ct), osl⟩) (hcd : PySem.W.codeIn K (.ref cda) "BadDemand.__init__" = true)
  (T : OexC K C) (Z : SupC K C f cda cc (PySem.W.fnX "__init__" "BadDemand.__init__" (defArgs st_BadDemand) (defBody st_BadDemand) (defScope st_BadDemand) [("__class__", cc)] dV kV doc pm an (.ref cda) ct) "self" file) (hno : PySem.W.findIn K (.ref C) "at" = some none)
  (hfile : ((P.main.file : Str) == file) = true) (htop : (P.main.scope.names.lookup ("super" : Str)).isSome = false) (hm : mg "super" = none) : FnOk P w K mg base CX 1 f (PySem.W.fnX "__init__" "BadDemand.__init__" (defArgs st_BadDemand) (defBody st_BadDemand) (defScope st_BadDemand) [("__class__", cc)] dV kV doc pm an (.ref cda) ct) ["self", "at"] (spOne C "at" small) := by
  refine fn_sup (N := ["self", "at", "__class__"]) lk hcd (nscope_by (by decide +kernel)) spOne_len T Z hfile htop (by rfl) hm rfl (fun A outer s H vs Q E hr h => ?_)
  obtain ⟨a, y, rfl, hp, ea, q⟩ := h
  refine ⟨_, _, a, pe_joined (.cons pe_str (.cons (pe_fmt (pv 1)) (.cons pe_str .nil))), pss_cons (ps_ost (pv 0) (pv 1)) pss_nil, rfl, ea, one_body rfl T hno (fun Q' k => ?_) ea q⟩
  obtain ⟨i, rfl, h1, h2⟩ := hp
  exact fs_int rfl (log2_few h1 (by omega)) (by decide +kernel) k
theorem bin_BadDemand {K : PySem.W.Frag} {cc : Addr} {kV doc pm ct cd : Value} {an : Option Addr} : Binds K (PySem.W.fnX "__init__" "BadDemand.__init__" (defArgs st_BadDemand) (defBody st_BadDemand) (defScope st_BadDemand) [("__class__", cc)] .none kV doc pm an cd ct) ["self", "at"] [] :=
  .all fun us hl => match us, hl with | [_, _], _ => rfl
end
structure Txt (P : Program) (K : PySem.W.Frag) (mg : Str → Option Value) where
  C_BadDemand : Addr
  g_BadDemand : mg "BadDemand" = some (.ref C_BadDemand)
  C_FolioError : Addr
  g_FolioError : mg "FolioError" = some (.ref C_FolioError)
  T_BadDemand : OexC K C_BadDemand
  fi_BadDemand : Addr
  fd_BadDemand : FuncData
  iC_BadDemand : PySem.W.findIn K (.ref C_BadDemand) "__init__" = some (some (.ref fi_BadDemand))
  tI_BadDemand : PySem.W.typeIn K (.ref fi_BadDemand) = some (.type "function")
  FI_BadDemand : ∀ (w : World) (base : Heap), FnOk P w K mg base (L2N.CX P w) 1 fi_BadDemand fd_BadDemand ["self", "at"] (spOne C_BadDemand "at" small)
  bI_BadDemand : Binds K fd_BadDemand ["self", "at"] []
  xf_BadDemand : XfC K C_BadDemand
  ec_BadDemand : ExcC K C_BadDemand
  cl_BadDemand : (PySem.W.clsIn K C_BadDemand).isSome = true
  ex_BadDemand : PySem.W.exmOne K (.ref C_BadDemand) (.ref C_BadDemand) = some true
  no_BadDemand_at : PySem.W.findIn K (.ref C_BadDemand) "at" = some none
  k_BadDemand_FolioError : PySem.W.kitOne K (.ref C_BadDemand) (.ref C_FolioError) = some true
  k_BadDemand_ValueError : PySem.W.kitOne K (.ref C_BadDemand) (.type "ValueError") = some true
  f_columns : Addr
  d_columns : FuncData
  u_columns : Fun K "columns" "columns" (topS 4) f_columns d_columns
  b_columns : Binds K d_columns ["demands", "count", "width"] []
  g_columns : mg "columns" = some (.ref f_columns)
  f_boundaries : Addr
  d_boundaries : FuncData
  u_boundaries : Fun K "boundaries" "boundaries" (topS 5) f_boundaries d_boundaries
  b_boundaries : Binds K d_boundaries ["demands", "count"] []
  g_boundaries : mg "boundaries" = some (.ref f_boundaries)
  f_chosen_boundaries : Addr
  d_chosen_boundaries : FuncData
  u_chosen_boundaries : Fun K "chosen_boundaries" "chosen_boundaries" (topS 6) f_chosen_boundaries d_chosen_boundaries
  b_chosen_boundaries : Binds K d_chosen_boundaries ["least", "wide", "width"] []
  g_chosen_boundaries : mg "chosen_boundaries" = some (.ref f_chosen_boundaries)
  f_law_cell : Addr
  d_law_cell : FuncData
  u_law_cell : Fun K "_law_cell" "_law_cell" (topS 8) f_law_cell d_law_cell
  b_law_cell : Binds K d_law_cell ["script", "k"] []
  g_law_cell : mg "_law_cell" = some (.ref f_law_cell)
  f_law_draws : Addr
  d_law_draws : FuncData
  u_law_draws : Fun K "_law_draws" "_law_draws" (topS 9) f_law_draws d_law_draws
  b_law_draws : Binds K d_law_draws ["cell", "count"] []
  g_law_draws : mg "_law_draws" = some (.ref f_law_draws)
  f_law_is_integer : Addr
  d_law_is_integer : FuncData
  u_law_is_integer : Fun K "_law_is_integer" "_law_is_integer" (topS 10) f_law_is_integer d_law_is_integer
  b_law_is_integer : Binds K d_law_is_integer ["actual"] []
  g_law_is_integer : mg "_law_is_integer" = some (.ref f_law_is_integer)
  f_law : Addr
  d_law : FuncData
  u_law : Fun K "law" "law" (topS 11) f_law d_law
  b_law : Binds K d_law ["script"] []
  g_law : mg "law" = some (.ref f_law)
  n_ValueError : mg "ValueError" = none
  n_bool : mg "bool" = none
  n_enumerate : mg "enumerate" = none
  n_int : mg "int" = none
  n_isinstance : mg "isinstance" = none
  n_len : mg "len" = none
  n_list : mg "list" = none
  n_max : mg "max" = none
  n_range : mg "range" = none
  n_zip : mg "zip" = none
section
variable {P : Program} {w : World} {K : PySem.W.Frag} {mg : Str → Option Value} {base : Heap}

theorem zip_fst {xs ys : List Int} {p : Int × Int} (h : p ∈ zipL xs ys) : p.1 ∈ xs := (List.of_mem_zip (show p ∈ List.zip xs ys from h)).1
theorem zip_snd {xs ys : List Int} {p : Int × Int} (h : p ∈ zipL xs ys) : p.2 ∈ ys := (List.of_mem_zip (show p ∈ List.zip xs ys from h)).2
theorem demA {ds : List (T4 Int Int Int Int)} {n : Int} (h : ∀ d ∈ ds, 0 ≤ d.a ∧ d.a < d.b ∧ d.b ≤ n ∧ 0 ≤ d.c ∧ d.c ≤ 100 ∧ 0 ≤ d.d ∧ d.d ≤ 100) : ∀ d ∈ List.map (fun (c_ : (T4 Int Int Int Int)) => (T3.mk c_.a c_.b c_.c)) ds, 0 ≤ d.a ∧ d.a < d.b ∧ 0 ≤ d.c ∧ d.c ≤ 100 := fun d hd => by
  obtain ⟨e, he, rfl⟩ := List.mem_map.mp hd
  have := h e he
  refine ⟨?_, ?_, ?_, ?_⟩ <;> (try dsimp only) <;> omega
theorem demB {ds : List (T4 Int Int Int Int)} {n : Int} (h : ∀ d ∈ ds, 0 ≤ d.a ∧ d.a < d.b ∧ d.b ≤ n ∧ 0 ≤ d.c ∧ d.c ≤ 100 ∧ 0 ≤ d.d ∧ d.d ≤ 100) : ∀ d ∈ List.map (fun (c_ : (T4 Int Int Int Int)) => (T3.mk c_.a c_.b (max c_.c c_.d))) ds, 0 ≤ d.a ∧ d.a < d.b ∧ 0 ≤ d.c ∧ d.c ≤ 100 := fun d hd => by
  obtain ⟨e, he, rfl⟩ := List.mem_map.mp hd
  have := h e he
  refine ⟨?_, ?_, ?_, ?_⟩ <;> (try dsimp only) <;> omega
theorem getD_mem {xs : List Int} {i : Nat} (h : i < xs.length) : xs.getD i 0 ∈ xs := by
  rw [List.getD_eq_getElem?_getD, List.getElem?_eq_getElem h]; exact List.getElem_mem h

def m_boundaries_l0 (demands_ : (List (T3 Int Int Int))) (s_ : (List Int)) (x_ : Int) : (List Int) :=
  let found_ : (List Int) := s_
  let column_ : Int := x_
  let ends_ : (List Int) := (List.map (fun (c_ : (T3 Int Int Int)) => ((found_.getD (Int.toNat c_.a) 0) + c_.c)) (List.filter (fun (c_ : (T3 Int Int Int)) => (decide (c_.b = column_))) demands_))
  let found_ : (List Int) := found_ ++ [(maxL ((found_.getD ((found_).length - 1) 0) :: (ends_ ++ [])))]
  found_
def m_boundaries (demands_ : (List (T3 Int Int Int))) (count_ : Int) : (List Int) :=
  let found_ : (List Int) := [(0 : Int)]
  let r0_ : (List Int) := loopN (m_boundaries_l0 demands_) (Int.toNat ((count_ + (1 : Int)) - (1 : Int))) (1 : Int) found_
  let found_ : (List Int) := r0_
  found_
abbrev D3 := List (T3 Int Int Int)
def DOk (ds : D3) : Prop := ∀ d ∈ ds, 0 ≤ d.a ∧ d.a < d.b ∧ 0 ≤ d.c ∧ d.c ≤ 100
theorem bstep {ds : D3} (hd : DOk ds) {f : List Int} {i : Nat} (hl : f.length = i + 1) (hf : ∀ x ∈ f, 0 ≤ x ∧ x ≤ 100 * (i : Int)) :
    ∃ y, m_boundaries_l0 ds f (1 + (i : Int)) = f ++ [y] ∧ f.getD i 0 ≤ y ∧ 0 ≤ y ∧ y ≤ 100 * ((i : Int) + 1) ∧ (∀ d ∈ ds, d.b = 1 + (i : Int) → f.getD d.a.toNat 0 + d.c ≤ y) ∧
      y = maxL (f.getD i 0 :: (((ds.filter fun d => decide (d.b = 1 + (i : Int))).map fun d => f.getD d.a.toNat 0 + d.c) ++ [])) := by
  refine ⟨_, rfl, ?_⟩
  rw [show f.length - 1 = i by omega]
  have k := maxL_spec (l := f.getD i 0 :: (((ds.filter fun d => decide (d.b = 1 + (i : Int))).map fun d => f.getD d.a.toNat 0 + d.c) ++ [])) (by simp)
  have h0 := hf _ (getD_mem (xs := f) (i := i) (by omega))
  refine ⟨k.2 _ List.mem_cons_self, ?_, ?_, fun d hdm e => ?_, rfl⟩
  · exact Int.le_trans h0.1 (k.2 _ List.mem_cons_self)
  · rcases List.mem_cons.mp k.1 with k1 | k1
    · rw [k1]; omega
    · rw [List.append_nil] at k1
      obtain ⟨d, hdm, e⟩ := List.mem_map.mp k1
      rw [List.append_nil, ← e]
      have hd' := List.mem_filter.mp hdm
      have h1 := hd d hd'.1
      have h2 := of_decide_eq_true hd'.2
      have h3 := hf _ (getD_mem (xs := f) (i := d.a.toNat) (by omega))
      omega
  · refine k.2 _ (List.mem_cons_of_mem _ ?_)
    rw [List.append_nil]
    exact List.mem_map.mpr ⟨d, List.mem_filter.mpr ⟨hdm, decide_eq_true e⟩, rfl⟩
theorem bstep2 {ds : D3} (hd : DOk ds) {f : List Int} {i : Nat} (hl : f.length = i + 1) (hf : ∀ x ∈ f, 0 ≤ x ∧ x ≤ 100 * (i : Int)) :
    (m_boundaries_l0 ds f (1 + (i : Int))).length = i + 1 + 1 ∧ ∀ x ∈ m_boundaries_l0 ds f (1 + (i : Int)), 0 ≤ x ∧ x ≤ 100 * ((i + 1 : Nat) : Int) := by
  obtain ⟨y, e, h1, h2, h3, _⟩ := bstep hd hl hf
  rw [e]
  refine ⟨by rw [List.length_append, hl]; rfl, fun x hx => ?_⟩
  rcases List.mem_append.mp hx with hx | hx
  · have := hf x hx; omega
  · rw [List.mem_singleton.mp hx]; omega
/-- the boundaries found after i columns -/
def bnd (ds : D3) : Nat → List Int
  | 0 => [0]
  | i + 1 => m_boundaries_l0 ds (bnd ds i) (1 + (i : Int))
theorem bnd_ok {ds : D3} (hd : DOk ds) : ∀ i, (bnd ds i).length = i + 1 ∧ ∀ x ∈ bnd ds i, 0 ≤ x ∧ x ≤ 100 * (i : Int)
  | 0 => ⟨rfl, fun x hx => by simp [bnd] at hx; omega⟩
  | i + 1 => by
    have ih := bnd_ok hd i
    obtain ⟨y, e, h1, h2, h3, _⟩ := bstep hd ih.1 ih.2
    rw [bnd, e]
    refine ⟨by rw [List.length_append, ih.1]; rfl, fun x hx => ?_⟩
    rcases List.mem_append.mp hx with hx | hx
    · have := ih.2 x hx; omega
    · rw [List.mem_singleton.mp hx]; omega
theorem bnd_eq (ds : D3) (n : Int) : m_boundaries ds n = bnd ds n.toNat := by
  unfold m_boundaries
  dsimp only
  rw [show n + 1 - 1 = n by omega]
  have := loopN_seq (f := m_boundaries_l0 ds) (bnd ds) 1 n.toNat (fun i _ => rfl)
  exact this
theorem bounds_ok {ds : D3} (hd : DOk ds) {n : Int} (h1 : 1 ≤ n) (h2 : n ≤ 100) : ((m_boundaries ds n).length : Int) = n + 1 ∧ ∀ x ∈ m_boundaries ds n, 0 ≤ x ∧ x ≤ 10000 := by
  rw [bnd_eq]
  have k := bnd_ok hd n.toNat
  refine ⟨by rw [k.1]; omega, fun x hx => ?_⟩
  have := k.2 x hx
  omega
theorem bnd_pre (ds : D3) {i j : Nat} (h : i ≤ j) (hd : DOk ds) : (bnd ds j).getD i 0 = (bnd ds i).getD i 0 := by
  obtain ⟨k, rfl⟩ := Nat.exists_eq_add_of_le h
  induction k with
  | zero => rfl
  | succ k ih =>
    have hb := bnd_ok hd (i + k)
    obtain ⟨y, e, _⟩ := bstep hd hb.1 hb.2
    rw [show i + (k + 1) = (i + k) + 1 by omega, bnd, e, List.getD_eq_getElem?_getD, List.getElem?_append_left (by omega), ← List.getD_eq_getElem?_getD]
    exact ih (by omega)

abbrev s_boundaries : Stmt := (topS 5)
theorem sc_boundaries : FnScope ["demands", "count", "found", "column", "ends", "first", "last", "width"] ["demands", "count"] (defScope s_boundaries) := ⟨rfl, rfl, rfl, by decide +kernel, rfl, by decide +kernel, by decide +kernel⟩
abbrev sp_boundaries (K : PySem.W.Frag) : Sp := PrD K (fun c : (List (T3 Int Int Int)) × Int => [Dx.toX c.1, Dx.toX c.2]) (fun c => c.2 ≤ 100 ∧ 1 ≤ c.2 ∧ c.1.length ≤ 20 ∧ (∀ d ∈ c.1, 0 ≤ d.a ∧ d.a < d.b ∧ 0 ≤ d.c ∧ d.c ≤ 100)) (fun c => (m_boundaries c.1 c.2 : (List Int)))
theorem ok_boundaries (T : Txt P K mg) : FnOk P w K mg base CX0 1 T.f_boundaries T.d_boundaries ["demands", "count"] (sp_boundaries K) := by
  refine T.u_boundaries.ok sc_boundaries (fun vs H Q E h => ?_) (fun cdv A outer s H vs Q E hr h => ?_)
  · obtain ⟨Mc, c, mok, da, pre, q⟩ := h
    exact (dpa_len da)
  · obtain ⟨Mc, c, mok, da, pre, q⟩ := h
    obtain ⟨demands_, count_⟩ := c
    dsimp only at da pre q
    obtain ⟨v0, w0, rfl, d0, da0⟩ := dpa_inv da
    obtain ⟨v1, w1, rfl, d1, da1⟩ := dpa_inv da0
    cases dpa_inv0 da1
    cases (Dt.int d1)
    have s0 : Sg K Mc H H [(v0, Dx.toX demands_)] [] := Sg.enter mok ⟨d0, True.intro⟩
    refine ⟨_, (pss_cons (ps_set (i := 2) sc_boundaries.nd rfl (.inr rfl) (pe_lst (pa_cons pe_int pa_nil))) (pss_cons (ps_for PassesOwn.never rfl (pi_range2 (by rfl) T.n_range (pa_cons pe_int (pa_cons (pe_op op_add (pv 1) pe_int) pa_nil))) (pg_name (i := 3) sc_boundaries.nd rfl (.inr rfl)) (pss_cons (ps_setLc (i := 4) rfl sc_boundaries.nd rfl rfl (sw_true rfl rfl rfl (by decide +kernel)) (own := [("first", 5), ("last", 6), ("width", 7)]) (g := gTup K 3 (gCons (gName 5) (gCons (gName 6) (gCons (gName 7) gNil)))) (pi_list (pv 0)) (blkOk_by (own := [("first", 5), ("last", 6), ("width", 7)]) (N := ["demands", "count", "found", "column", "ends", "first", "last", "width"]) (sc := defScope s_boundaries) (by decide +kernel)) (fun _ _ _ _ _ => (pg_tup rfl (pgs_cons (pg_name (i := 5) sc_boundaries.nd rfl (Or.inl rfl) (.inr (by rfl))) (pgs_cons (pg_name (i := 6) sc_boundaries.nd rfl (Or.inl rfl) (.inr (by rfl))) (pgs_cons (pg_name (i := 7) sc_boundaries.nd rfl (Or.inl rfl) (.inr (by rfl))) pgs_nil))))) (fun _ _ _ _ _ => pts_one (pt_cmpR op_eq (pv 6) (pv 3) (nomark _))) (fun _ _ _ _ _ => (pe_op op_add (pe_ix (show IxR _ (rIxL K) from ix_list) (pv 2) (pv 5) (fun _ _ => rfl)) (pv 7)))) (pss_cons (ps_expr (pe_bm PySem.F.plainAttrs_list PySem.F.slot_list_append PySem.F.type_list_append mt_append (pv 2) (pa_cons (pe_callB (cr_max rfl) (by rfl) T.n_max (by decide +kernel) (pa_cons (pe_lst (pa_cons (pe_ix ix_list (pv 2) (pe_un un_neg pe_int) (fun _ _ => rfl)) (StX.pa_star (pv 4) pa_nil))) pa_nil)) pa_nil))) pss_nil))) (pss_cons (ps_ret (pv 2)) pss_nil))), ?_⟩
    refine z_freshG s0 (hf_lst (has_cons (hv_int 0) has_nil) (Nat.le_of_ble_eq_true rfl)) fun found_2 hfound_2 ps1 Hs1 s1 => ?_
    try dsimp only at hfound_2
    have lfound_2 := congrArg List.length hfound_2
    try simp only [List.length_map, irng_len, List.length_flatten, List.map_replicate, List.sum_replicate_nat, List.length_cons, List.length_nil] at lfound_2
    refine zq_forR2G s1 (hv_int 1) (hv_add (hv_vI rfl) (hv_int 1)) (by first | omega | decide +kernel | (simp only [List.length_cons, List.length_nil]; omega)) (fun i σ' H' => ∃ (found_3 : (List Int)) (o4 : Option V) (o5 : Option V) (o6 : Option V) (o7 : Option V) (o8 : Option V), (loopN (m_boundaries_l0 demands_) (Int.toNat ((count_ + (1 : Int)) - (1 : Int))) (1 : Int) found_2 : (List Int)) = (loopN (m_boundaries_l0 demands_) ((Int.toNat ((count_ + (1 : Int)) - (1 : Int))) - i) ((1 : Int) + (i : Int)) found_3 : (List Int)) ∧ (found_3.length = (i) + 1 ∧ ∀ x ∈ found_3, 0 ≤ x ∧ x ≤ 100 * ((i) : Int)) ∧ σ' = [some v0, some (V.int count_), some (.ref ps1), o4, o5, o6, o7, o8] ∧ Sg K Mc H H' [(v0, Dx.toX demands_)] [(ps1, .lst (List.map Dx.toX found_3))]) (fun Hs9 s9 => ⟨found_2, _, _, _, _, _, (by simp), (by subst_vars; exact ⟨rfl, fun x hx => by simp at hx; omega⟩), rfl, s9.keep fun _ h => ⟨h.1, True.intro⟩⟩) (fun i13 x14 σ' Hs12 hx15 hi16 hP => ?_) (fun σ' Hs12 hP => ?_)
    · obtain ⟨found_3, o4, o5, o6, o7, o8, he10, hg11, rfl, s12⟩ := hP
      have hg11q0 := hg11.1
      have hg11q1 := hg11.2
      have hgL := hg11.1
      have hg_ := hg11.2
      refine z_asgG s12 (hv_lcL s12 (fun (c_ : (T3 Int Int Int)) => (decide (c_.b = x14))) (fun (c_ : (T3 Int Int Int)) => ((found_3.getD (Int.toNat c_.a) 0) + c_.c)) (hv_var (x := demands_) rfl s12.im.1) (by first | omega | decide +kernel | (simp only [List.length_cons, List.length_nil]; omega)) (fun D21 src25 c22 w23 ys24 Hs20 s20 hx26 Q k => by obtain ⟨l34, u28, u29, u30, w23e, st35, d31, d32, d33⟩ := Dt.t3 (p := c22) s20.im.1; have zd31 := Dt.int d31; subst zd31; have zd32 := Dt.int d32; subst zd32; have zd33 := Dt.int d33; subst zd33; subst w23e; have hdm := pre.2.2.2 _ hx26; exact ⟨_, _, rfl, ex_t msk_le st35, rfl, _, _, rfl, _, _, rfl, _, _, rfl, rfl, k _ rfl (ht_val (K := K) (hv_eqI (hv_vI rfl) (hv_vI rfl))) (fun hf => (hv_add (hv_at 0 (hs_mut s20 (k := 1) rfl rfl) (hv_vI rfl) (by have hf2 := of_decide_eq_true hf; omega) (by have hf2 := of_decide_eq_true hf; omega)) (hv_vI rfl)))⟩)) fun ends_19 hends_19 vends_19 Hs18 s18 => ?_
      try dsimp only at hends_19
      have lends_19 : ends_19.length ≤ 20 := by rw [hends_19, List.length_map]; exact Nat.le_trans (List.length_filter_le _ _) pre.2.2.1
      refine zq_appG s18 (kk := 0) rfl (ev_var rfl) (hv_max (hs_of (hv_lst (has_cons (hv_last 0 (hs_mut s18 (k := 0) rfl rfl) (by first | omega | decide +kernel | (simp only [List.length_cons, List.length_nil]; omega))) (has_star (hs_of (hv_var (x := ends_19) rfl s18.im.1)) has_nil)) (by simp only [List.length_cons, List.length_append, List.length_nil]; omega))) (by simp only [List.length_cons]; omega)) (by first | omega | decide +kernel | (simp only [List.length_cons, List.length_nil]; omega)) fun found_37 hfound_37 Hs36 s36 => ?_
      have lfound_37 : found_37.length = found_3.length + 1 := by rw [hfound_37, List.length_append]; rfl
      have s36 : Sg K Mc _ _ _ [(ps1, .lst (List.map Dx.toX found_37))] := s36
      have hf38 : (m_boundaries_l0 demands_) found_3 x14 = found_37 := (by subst hfound_37; subst hends_19; subst hfound_2; first | (simp only [m_boundaries_l0, if_true, if_false, Bool.false_eq_true, decide_true, decide_false, Option.getD_some, Option.isNone_none, Option.isNone_some, Bool.not_true, Bool.not_false, ↓reduceIte]; done) | (rfl; done) | ((unfold m_boundaries_l0); (dsimp only); first | done | rfl))
      exact ⟨found_37, _, _, _, _, _, he10.trans ((loopN_step hi16).trans (by rw [← hx15, hf38])), (by subst_vars; exact bstep2 pre.2.2.2 hgL hg_), rfl, s36.keep fun _ h => ⟨h.2.1, True.intro⟩⟩
    · obtain ⟨found_39, o40, o41, o42, o43, o44, he46, hg47, rfl, s45⟩ := hP
      have hg47q0 := hg47.1
      have hg47q1 := hg47.2
      rw [loopN_end] at he46
      have s48 := Sg.frz (xs := found_39) s45
      have hF49 : m_boundaries demands_ count_ = found_39 := (by subst hfound_2; first | (simp only [m_boundaries, he46, if_true, if_false, Bool.false_eq_true, decide_true, decide_false, Option.getD_some, Option.isNone_none, Option.isNone_some, Bool.not_true, Bool.not_false, ↓reduceIte]; done) | (rfl; done) | ((unfold m_boundaries); (dsimp only); (first | rw [he46] | skip); (try dsimp only); first | done | rfl))
      exact zq_ret s48 (hv_var (x := found_39) rfl s48.im.1) fun v H' e d => q v H' e (by rw [hF49]; exact d)
def m_chosen_boundaries (least_ : (List Int)) (wide_ : (List Int)) (width_ : Int) : (List Int) :=
  let low_ : Int := (least_.getD ((least_).length - 1) 0)
  let high_ : Int := (wide_.getD ((wide_).length - 1) 0)
  if (decide (width_ ≤ low_)) = true then
    least_
  else
    if (decide (high_ ≤ width_)) = true then
      wide_
    else
      (List.map (fun (c_ : (Int × Int)) => (((c_.1 * (high_ - width_)) + (c_.2 * (width_ - low_))) / (high_ - low_))) (zipL least_ wide_))
abbrev s_chosen_boundaries : Stmt := (topS 6)
theorem sc_chosen_boundaries : FnScope ["least", "wide", "width", "low", "high", "one", "other"] ["least", "wide", "width"] (defScope s_chosen_boundaries) := ⟨rfl, rfl, rfl, by decide +kernel, rfl, by decide +kernel, by decide +kernel⟩
abbrev sp_chosen_boundaries (K : PySem.W.Frag) : Sp := PrD K (fun c : (List Int) × (List Int) × Int => [Dx.toX c.1, Dx.toX c.2.1, Dx.toX c.2.2]) (fun c => c.1.length ≤ 101 ∧ 1 ≤ c.1.length ∧ c.2.1.length = c.1.length ∧ 0 ≤ c.2.2 ∧ c.2.2 ≤ 1000 ∧ (∀ x ∈ c.1, 0 ≤ x ∧ x ≤ 10000) ∧ ∀ x ∈ c.2.1, 0 ≤ x ∧ x ≤ 10000) (fun c => (m_chosen_boundaries c.1 c.2.1 c.2.2 : (List Int)))
theorem ok_chosen_boundaries (T : Txt P K mg) : FnOk P w K mg base CX0 1 T.f_chosen_boundaries T.d_chosen_boundaries ["least", "wide", "width"] (sp_chosen_boundaries K) := by
  refine T.u_chosen_boundaries.ok sc_chosen_boundaries (fun vs H Q E h => ?_) (fun cdv A outer s H vs Q E hr h => ?_)
  · obtain ⟨Mc, c, mok, da, pre, q⟩ := h
    exact (dpa_len da)
  · obtain ⟨Mc, c, mok, da, pre, q⟩ := h
    obtain ⟨least_, wide_, width_⟩ := c
    dsimp only at da pre q
    obtain ⟨v0, w0, rfl, d0, da0⟩ := dpa_inv da
    obtain ⟨v1, w1, rfl, d1, da1⟩ := dpa_inv da0
    obtain ⟨v2, w2, rfl, d2, da2⟩ := dpa_inv da1
    cases dpa_inv0 da2
    cases (Dt.int d2)
    have s0 : Sg K Mc H H [(v0, Dx.toX least_), (v1, Dx.toX wide_)] [] := Sg.enter mok ⟨d0, ⟨d1, True.intro⟩⟩
    refine ⟨_, (pss_cons (ps_set (i := 3) sc_chosen_boundaries.nd rfl (.inr rfl) (pe_ix ix_list (pv 0) (pe_un un_neg pe_int) (fun _ _ => rfl))) (pss_cons (ps_set (i := 4) sc_chosen_boundaries.nd rfl (.inr rfl) (pe_ix ix_list (pv 1) (pe_un un_neg pe_int) (fun _ _ => rfl))) (pss_cons (ps_if (pt_cmpR op_le (pv 2) (pv 3) (nomark _)) (pss_cons (ps_ret (pe_callTy call_list_of (by rfl) T.n_list (by decide +kernel) (pa_cons (pv 0) pa_nil))) pss_nil) pss_nil) (pss_cons (ps_if (pt_cmpR op_ge (pv 2) (pv 4) (nomark _)) (pss_cons (ps_ret (pe_callTy call_list_of (by rfl) T.n_list (by decide +kernel) (pa_cons (pv 1) pa_nil))) pss_nil) pss_nil) (pss_cons (ps_ret (pe_lc (own := [("one", 5), ("other", 6)]) (g := gTup K 2 (gCons (gName 5) (gCons (gName 6) gNil))) rfl sc_chosen_boundaries.nd (pi_zip (by rfl) T.n_zip (pa_cons (pv 0) (pa_cons (pv 1) pa_nil))) (blkOk_by (own := [("one", 5), ("other", 6)]) (N := ["least", "wide", "width", "low", "high", "one", "other"]) (sc := defScope s_chosen_boundaries) (by decide +kernel)) (fun _ _ _ _ _ => (pg_tup rfl (pgs_cons (pg_name (i := 5) sc_chosen_boundaries.nd rfl (Or.inl rfl) (.inr (by rfl))) (pgs_cons (pg_name (i := 6) sc_chosen_boundaries.nd rfl (Or.inl rfl) (.inr (by rfl))) pgs_nil)))) (fun _ _ _ _ _ => pts_nil) (fun _ _ _ _ _ => (pe_op op_fdivW (pe_op op_add (pe_op op_mul (pv 5) (pe_op op_sub (pv 4) (pv 2))) (pe_op op_mul (pv 6) (pe_op op_sub (pv 2) (pv 3)))) (pe_op op_sub (pv 4) (pv 3)))))) pss_nil))))), ?_⟩
    refine z_asgIG s0 (hv_last 0 (hs_of (hv_var (x := least_) rfl s0.im.1)) (by first | omega | decide +kernel | (simp only [List.length_cons, List.length_nil]; omega))) fun low_2 hlow_2 Hs1 s1 => ?_
    try dsimp only at hlow_2
    have blow_2 : 0 ≤ low_2 ∧ low_2 ≤ 10000 := by rw [hlow_2]; exact pre.2.2.2.2.2.1 _ (getD_mem (by omega))
    refine z_asgIG s1 (hv_last 0 (hs_of (hv_var (x := wide_) rfl s1.im.2.1)) (by first | omega | decide +kernel | (simp only [List.length_cons, List.length_nil]; omega))) fun high_4 hhigh_4 Hs3 s3 => ?_
    try dsimp only at hhigh_4
    have bhigh_4 : 0 ≤ high_4 ∧ high_4 ≤ 10000 := by rw [hhigh_4]; exact pre.2.2.2.2.2.2 _ (getD_mem (by omega))
    refine z_ifx (b := (decide (width_ ≤ low_2))) s3 (ht_val (K := K) (hv_le (hv_vI rfl) (hv_vI rfl))) (fun hb5 Hs6 s6 => ?_) (fun hb5 Hs7 s7 => ?_)
    · have hb5P := hb5
      try simp only [decide_eq_true_eq, decide_eq_false_iff_not, Bool.not_eq_true', Bool.not_eq_false', Bool.and_eq_true, Bool.or_eq_true, Bool.or_eq_false_iff] at hb5P
      have hF8 : m_chosen_boundaries least_ wide_ width_ = least_ := (by subst hhigh_4; subst hlow_2; first | (simp only [m_chosen_boundaries, hb5, if_true, if_false, Bool.false_eq_true, decide_true, decide_false, Option.getD_some, Option.isNone_none, Option.isNone_some, Bool.not_true, Bool.not_false, ↓reduceIte]; done) | (rfl; done) | ((unfold m_chosen_boundaries); (dsimp only); (first | rw [ifT hb5] | rw [ifF hb5] | skip); (try dsimp only); first | done | rfl) | (exfalso; simp at hb5; done))
      exact zq_ret s6 (hv_listOf (hs_of (hv_var (x := least_) rfl s6.im.1))) fun v H' e d => q v H' e (by rw [hF8]; exact d)
    · have hb5P := hb5
      try simp only [decide_eq_true_eq, decide_eq_false_iff_not, Bool.not_eq_true', Bool.not_eq_false', Bool.and_eq_true, Bool.or_eq_true, Bool.or_eq_false_iff] at hb5P
      refine z_ifx (b := (decide (high_4 ≤ width_))) s7 (ht_val (K := K) (hv_ge (hv_vI rfl) (hv_vI rfl))) (fun hb9 Hs10 s10 => ?_) (fun hb9 Hs11 s11 => ?_)
      · have hb9P := hb9
        try simp only [decide_eq_true_eq, decide_eq_false_iff_not, Bool.not_eq_true', Bool.not_eq_false', Bool.and_eq_true, Bool.or_eq_true, Bool.or_eq_false_iff] at hb9P
        have hF12 : m_chosen_boundaries least_ wide_ width_ = wide_ := (by subst hhigh_4; subst hlow_2; first | (simp only [m_chosen_boundaries, hb5, hb9, if_true, if_false, Bool.false_eq_true, decide_true, decide_false, Option.getD_some, Option.isNone_none, Option.isNone_some, Bool.not_true, Bool.not_false, ↓reduceIte]; done) | (rfl; done) | ((unfold m_chosen_boundaries); (dsimp only); (first | rw [ifT hb5] | rw [ifF hb5] | skip); (try dsimp only); (first | rw [ifT hb9] | rw [ifF hb9] | skip); (try dsimp only); first | done | rfl) | (exfalso; simp at hb9; done) | (exfalso; simp at hb5; done))
        exact zq_ret s10 (hv_listOf (hs_of (hv_var (x := wide_) rfl s10.im.2.1))) fun v H' e d => q v H' e (by rw [hF12]; exact d)
      · have hb9P := hb9
        try simp only [decide_eq_true_eq, decide_eq_false_iff_not, Bool.not_eq_true', Bool.not_eq_false', Bool.and_eq_true, Bool.or_eq_true, Bool.or_eq_false_iff] at hb9P
        have hF13 : m_chosen_boundaries least_ wide_ width_ = (List.map (fun (c_ : (Int × Int)) => (((c_.1 * (high_4 - width_)) + (c_.2 * (width_ - low_2))) / (high_4 - low_2))) (zipL least_ wide_)) := (by subst hhigh_4; subst hlow_2; first | (simp only [m_chosen_boundaries, hb5, hb9, if_true, if_false, Bool.false_eq_true, decide_true, decide_false, Option.getD_some, Option.isNone_none, Option.isNone_some, Bool.not_true, Bool.not_false, ↓reduceIte]; done) | (rfl; done) | ((unfold m_chosen_boundaries); (dsimp only); (first | rw [ifT hb5] | rw [ifF hb5] | skip); (try dsimp only); (first | rw [ifT hb9] | rw [ifF hb9] | skip); (try dsimp only); first | done | rfl) | (exfalso; simp at hb9; done) | (exfalso; simp at hb5; done))
        exact zq_ret s11 (hv_hf (hf_lcZ0 s11 (fun (c_ : (Int × Int)) => (((c_.1 * (high_4 - width_)) + (c_.2 * (width_ - low_2))) / (high_4 - low_2))) (hv_var (x := least_) rfl s11.im.1) (hv_var (x := wide_) rfl s11.im.2.1) (by first | omega | decide +kernel | (simp only [List.length_cons, List.length_nil]; omega)) (fun D15 src19 c16 w17 ys18 Hs14 s14 hx20 Q k => by obtain ⟨l26, u22, u23, w17e, st27, d24, d25⟩ := Dt.pair (p := c16) s14.im.1; have zd24 := Dt.int d24; subst zd24; have zd25 := Dt.int d25; subst zd25; subst w17e; have hz1 := pre.2.2.2.2.2.1 _ (zip_fst hx20); have hz2 := pre.2.2.2.2.2.2 _ (zip_snd hx20); exact ⟨_, _, rfl, ex_t msk_le st27, rfl, _, _, rfl, _, _, rfl, rfl, k _ rfl (hv_div (hv_add (hv_mul (hv_vI rfl) (hv_sub (hv_vI rfl) (hv_vI rfl)) (by first | exact Or.inr ⟨by omega, by omega⟩ | exact Or.inl ⟨by omega, by omega⟩ | (dsimp only; first | exact Or.inr ⟨by omega, by omega⟩ | exact Or.inl ⟨by omega, by omega⟩))) (hv_mul (hv_vI rfl) (hv_sub (hv_vI rfl) (hv_vI rfl)) (by first | exact Or.inr ⟨by omega, by omega⟩ | exact Or.inl ⟨by omega, by omega⟩ | (dsimp only; first | exact Or.inr ⟨by omega, by omega⟩ | exact Or.inl ⟨by omega, by omega⟩)))) (hv_sub (hv_vI rfl) (hv_vI rfl)) (by first | exact ⟨by decide +kernel, by decide +kernel⟩ | (refine log_small ?_ ?_ <;> omega)))⟩))) fun v H' e d => q v H' e (by rw [hF13]; exact d)
def m_law_cell (script_ : (List Int)) (k_ : Int) : Int :=
  if (decide (k_ < ((script_).length : Int))) = true then
    (script_.getD (Int.toNat k_) 0)
  else
    (0 : Int)
abbrev s_law_cell : Stmt := (topS 8)
theorem sc_law_cell : FnScope ["script", "k"] ["script", "k"] (defScope s_law_cell) := ⟨rfl, rfl, rfl, by decide +kernel, rfl, by decide +kernel, by decide +kernel⟩
abbrev sp_law_cell (K : PySem.W.Frag) : Sp := PrD K (fun c : (List Int) × Int => [Dx.toX c.1, Dx.toX c.2]) (fun c => 0 ≤ c.2) (fun c => (m_law_cell c.1 c.2 : Int))
theorem ok_law_cell (T : Txt P K mg) : FnOk P w K mg base CX0 1 T.f_law_cell T.d_law_cell ["script", "k"] (sp_law_cell K) := by
  refine T.u_law_cell.ok sc_law_cell (fun vs H Q E h => ?_) (fun cdv A outer s H vs Q E hr h => ?_)
  · obtain ⟨Mc, c, mok, da, pre, q⟩ := h
    exact (dpa_len da)
  · obtain ⟨Mc, c, mok, da, pre, q⟩ := h
    obtain ⟨script_, k_⟩ := c
    dsimp only at da pre q
    obtain ⟨v0, w0, rfl, d0, da0⟩ := dpa_inv da
    obtain ⟨v1, w1, rfl, d1, da1⟩ := dpa_inv da0
    cases dpa_inv0 da1
    cases (Dt.int d1)
    have s0 : Sg K Mc H H [(v0, Dx.toX script_)] [] := Sg.enter mok ⟨d0, True.intro⟩
    refine ⟨_, (pss_cons (ps_if (pt_cmpR op_lt (pv 1) (pe_callB call_len (by rfl) T.n_len (by decide +kernel) (pa_cons (pv 0) pa_nil)) (nomark _)) (pss_cons (ps_ret (pe_ix ix_list (pv 0) (pv 1) (fun _ _ => rfl))) pss_nil) pss_nil) (pss_cons (ps_ret pe_int) pss_nil)), ?_⟩
    refine z_ifx (b := (decide (k_ < ((script_).length : Int)))) s0 (ht_val (K := K) (hv_lt (hv_vI rfl) (hv_len (hs_of (hv_var (x := script_) rfl s0.im.1))))) (fun hb1 Hs2 s2 => ?_) (fun hb1 Hs3 s3 => ?_)
    · have hb1P := hb1
      try simp only [decide_eq_true_eq, decide_eq_false_iff_not, Bool.not_eq_true', Bool.not_eq_false', Bool.and_eq_true, Bool.or_eq_true, Bool.or_eq_false_iff] at hb1P
      have hF4 : m_law_cell script_ k_ = (script_.getD (Int.toNat k_) 0) := (by  first | (simp only [m_law_cell, hb1, if_true, if_false, Bool.false_eq_true, decide_true, decide_false, Option.getD_some, Option.isNone_none, Option.isNone_some, Bool.not_true, Bool.not_false, ↓reduceIte]; done) | (rfl; done) | ((unfold m_law_cell); (dsimp only); (first | rw [ifT hb1] | rw [ifF hb1] | skip); (try dsimp only); first | done | rfl) | (exfalso; simp at hb1; done))
      exact zq_ret s2 (hv_at 0 (hs_of (hv_var (x := script_) rfl s2.im.1)) (hv_vI rfl) (by first | omega | decide +kernel | (simp only [List.length_cons, List.length_nil]; omega)) (by first | omega | decide +kernel | (simp only [List.length_cons, List.length_nil]; omega))) fun v H' e d => q v H' e (by rw [hF4]; exact d)
    · have hb1P := hb1
      try simp only [decide_eq_true_eq, decide_eq_false_iff_not, Bool.not_eq_true', Bool.not_eq_false', Bool.and_eq_true, Bool.or_eq_true, Bool.or_eq_false_iff] at hb1P
      have hF5 : m_law_cell script_ k_ = (0 : Int) := (by  first | (simp only [m_law_cell, hb1, if_true, if_false, Bool.false_eq_true, decide_true, decide_false, Option.getD_some, Option.isNone_none, Option.isNone_some, Bool.not_true, Bool.not_false, ↓reduceIte]; done) | (rfl; done) | ((unfold m_law_cell); (dsimp only); (first | rw [ifT hb1] | rw [ifF hb1] | skip); (try dsimp only); first | done | rfl) | (exfalso; simp at hb1; done))
      exact zq_ret s3 (hv_int 0) fun v H' e d => q v H' e (by rw [hF5]; exact d)
def m_law_draws_l0 (is_wide_ : Bool) (s_ : (List Int) × Int) (x_ : Int) : (List Int) × Int :=
  let found_ : (List Int) := s_.1
  let cell_ : Int := s_.2
  let k_ : Int := x_
  if is_wide_ = true then
    let found_ : (List Int) := found_ ++ [(cell_ % (1009 : Int))]
    let cell_ : Int := (cell_ / (1009 : Int))
    (found_, cell_)
  else
    let mixed_ : Int := (((cell_ * (48271 : Int)) + (k_ * (69621 : Int))) % (2147483647 : Int))
    let found_ : (List Int) := found_ ++ [((((mixed_ * mixed_) + (cell_ * (31 : Int))) + k_) % (1000003 : Int))]
    (found_, cell_)
def m_law_draws (cell_ : Int) (count_ : Int) : (List Int) :=
  let found_ : (List Int) := []
  let is_wide_ : Bool := (decide ((1000000000000000000 : Int) ≤ cell_))
  let r0_ : (List Int) × Int := loopN (m_law_draws_l0 is_wide_) (Int.toNat count_) (0 : Int) (found_, cell_)
  let found_ : (List Int) := r0_.1
  let cell_ : Int := r0_.2
  found_
abbrev s_law_draws : Stmt := (topS 9)
theorem sc_law_draws : FnScope ["cell", "count", "found", "is_wide", "k", "mixed"] ["cell", "count"] (defScope s_law_draws) := ⟨rfl, rfl, rfl, by decide +kernel, rfl, by decide +kernel, by decide +kernel⟩
abbrev sp_law_draws (K : PySem.W.Frag) : Sp := PrD K (fun c : Int × Int => [Dx.toX c.1, Dx.toX c.2]) (fun c => 0 ≤ c.2 ∧ c.2 ≤ 1000) (fun c => (m_law_draws c.1 c.2 : (List Int)))
theorem ok_law_draws (T : Txt P K mg) : FnOk P w K mg base CX0 1 T.f_law_draws T.d_law_draws ["cell", "count"] (sp_law_draws K) := by
  refine T.u_law_draws.ok sc_law_draws (fun vs H Q E h => ?_) (fun cdv A outer s H vs Q E hr h => ?_)
  · obtain ⟨Mc, c, mok, da, pre, q⟩ := h
    exact (dpa_len da)
  · obtain ⟨Mc, c, mok, da, pre, q⟩ := h
    obtain ⟨cell_, count_⟩ := c
    dsimp only at da pre q
    obtain ⟨v0, w0, rfl, d0, da0⟩ := dpa_inv da
    obtain ⟨v1, w1, rfl, d1, da1⟩ := dpa_inv da0
    cases dpa_inv0 da1
    cases (Dt.int d0)
    cases (Dt.int d1)
    have s0 : Sg K Mc H H [] [] := Sg.enter mok True.intro
    refine ⟨_, (pss_cons (ps_set (i := 2) sc_law_draws.nd rfl (.inl rfl) (pe_lst pa_nil)) (pss_cons (ps_set (i := 3) sc_law_draws.nd rfl (.inl rfl) (pe_cmpR op_ge (pv 0) (pe_op op_pow pe_int pe_int) (nomark _))) (pss_cons (ps_for PassesOwn.never rfl (pi_range1 (by rfl) T.n_range (pa_cons (pv 1) pa_nil)) (pg_name (i := 4) sc_law_draws.nd rfl (.inl rfl)) (pss_cons (ps_if (pt_val (pv 3)) (pss_cons (ps_expr (pe_bm PySem.F.plainAttrs_list PySem.F.slot_list_append PySem.F.type_list_append mt_append (pv 2) (pa_cons (pe_op op_mod (pv 0) pe_int) pa_nil))) (pss_cons (ps_set (i := 0) sc_law_draws.nd rfl (.inl rfl) (pe_op op_fdivW (pv 0) pe_int)) pss_nil)) (pss_cons (ps_set (i := 5) sc_law_draws.nd rfl (.inl rfl) (pe_op op_mod (pe_op op_add (pe_op op_mul (pv 0) pe_int) (pe_op op_mul (pv 4) pe_int)) pe_int)) (pss_cons (ps_expr (pe_bm PySem.F.plainAttrs_list PySem.F.slot_list_append PySem.F.type_list_append mt_append (pv 2) (pa_cons (pe_op op_mod (pe_op op_add (pe_op op_add (pe_op op_mul (pv 5) (pv 5)) (pe_op op_mul (pv 0) pe_int)) (pv 4)) pe_int) pa_nil))) pss_nil))) pss_nil)) (pss_cons (ps_ret (pv 2)) pss_nil)))), ?_⟩
    refine z_nilG Int s0 fun found_2 hfound_2 ps1 Hs1 s1 => ?_
    have lfound_2 : found_2.length = 0 := by rw [hfound_2]; rfl
    refine z_asgBG s1 (hv_ge (hv_vI rfl) ((hv_pow (hv_int 10) (hv_int 18) ⟨by decide +kernel, by decide +kernel, by decide +kernel⟩).is (show _ = (1000000000000000000 : Int) by decide +kernel))) fun is_wide_4 his_wide_4 Hs3 s3 => ?_
    try dsimp only at his_wide_4
    refine zq_forR1G s3 (hv_vI rfl) (by first | omega | decide +kernel | (simp only [List.length_cons, List.length_nil]; omega)) (fun i σ' H' => ∃ (found_5 : (List Int)) (cell_6 : Int) (o7 : Option V) (o8 : Option V), (loopN (m_law_draws_l0 is_wide_4) (Int.toNat count_) (0 : Int) (found_2, cell_) : (List Int) × Int) = (loopN (m_law_draws_l0 is_wide_4) ((Int.toNat count_) - i) ((0 : Int) + (i : Int)) (found_5, cell_6) : (List Int) × Int) ∧ (found_5.length = (i)) ∧ σ' = [some (V.int cell_6), some (V.int count_), some (.ref ps1), some (V.bl is_wide_4), o7, o8] ∧ Sg K Mc H H' [] [(ps1, .lst (List.map Dx.toX found_5))]) (fun Hs9 s9 => ⟨found_2, cell_, _, _, (by simp), (by first | trivial | omega | (simp; done) | simp_all), rfl, s9.keep fun _ h => True.intro⟩) (fun i13 x14 σ' Hs12 hx15 hi16 hP => ?_) (fun σ' Hs12 hP => ?_)
    · obtain ⟨found_5, cell_6, o7, o8, he10, hg11, rfl, s12⟩ := hP
      refine z_if (b := is_wide_4) s12 (ht_B (K := K) (hv_vB rfl)) (fun hb18 Hs19 s19 => ?_) (fun hb18 Hs20 s20 => ?_)
      · have hb18P := hb18
        try simp only [decide_eq_true_eq, decide_eq_false_iff_not, Bool.not_eq_true', Bool.not_eq_false', Bool.and_eq_true, Bool.or_eq_true, Bool.or_eq_false_iff] at hb18P
        refine zq_appG s19 (kk := 0) rfl (ev_var rfl) (hv_mod (hv_vI rfl) (hv_int 1009) (by first | omega | decide +kernel | (simp only [List.length_cons, List.length_nil]; omega))) (by first | omega | decide +kernel | (simp only [List.length_cons, List.length_nil]; omega)) fun found_22 hfound_22 Hs21 s21 => ?_
        have lfound_22 : found_22.length = found_5.length + 1 := by rw [hfound_22, List.length_append]; rfl
        have s21 : Sg K Mc _ _ _ [(ps1, .lst (List.map Dx.toX found_22))] := s21
        refine z_asgIG s21 (hv_div (hv_vI rfl) (hv_int 1009) (by first | exact ⟨by decide +kernel, by decide +kernel⟩ | (refine log_small ?_ ?_ <;> omega))) fun cell_24 hcell_24 Hs23 s23 => ?_
        try dsimp only at hcell_24
        have hf25 : (m_law_draws_l0 is_wide_4) (found_5, cell_6) x14 = (found_22, cell_24) := (by subst hcell_24; subst hfound_22; subst his_wide_4; subst hfound_2; first | (simp only [m_law_draws_l0, hb18, if_true, if_false, Bool.false_eq_true, decide_true, decide_false, Option.getD_some, Option.isNone_none, Option.isNone_some, Bool.not_true, Bool.not_false, ↓reduceIte]; done) | (rfl; done) | ((unfold m_law_draws_l0); (dsimp only); (first | rw [ifT hb18] | rw [ifF hb18] | skip); (try dsimp only); first | done | rfl) | (exfalso; simp at hb18; done))
        exact ⟨found_22, cell_24, _, _, he10.trans ((loopN_step hi16).trans (by rw [← hx15, hf25])), (by first | trivial | omega | (simp_all; done) | (simp_all; omega)), rfl, s23.keep fun _ h => True.intro⟩
      · have hb18P := hb18
        try simp only [decide_eq_true_eq, decide_eq_false_iff_not, Bool.not_eq_true', Bool.not_eq_false', Bool.and_eq_true, Bool.or_eq_true, Bool.or_eq_false_iff] at hb18P
        refine z_asgIG s20 (hv_mod (hv_add (hv_mul (hv_vI rfl) (hv_int 48271) (by first | exact Or.inr ⟨by omega, by omega⟩ | exact Or.inl ⟨by omega, by omega⟩ | (dsimp only; first | exact Or.inr ⟨by omega, by omega⟩ | exact Or.inl ⟨by omega, by omega⟩))) (hv_mul (hv_vI rfl) (hv_int 69621) (by first | exact Or.inr ⟨by omega, by omega⟩ | exact Or.inl ⟨by omega, by omega⟩ | (dsimp only; first | exact Or.inr ⟨by omega, by omega⟩ | exact Or.inl ⟨by omega, by omega⟩)))) (hv_int 2147483647) (by first | omega | decide +kernel | (simp only [List.length_cons, List.length_nil]; omega))) fun mixed_27 hmixed_27 Hs26 s26 => ?_
        try dsimp only at hmixed_27
        refine zq_appG s26 (kk := 0) rfl (ev_var rfl) (hv_mod (hv_add (hv_add (hv_mul (hv_vI rfl) (hv_vI rfl) (by first | exact Or.inr ⟨by omega, by omega⟩ | exact Or.inl ⟨by omega, by omega⟩ | (dsimp only; first | exact Or.inr ⟨by omega, by omega⟩ | exact Or.inl ⟨by omega, by omega⟩))) (hv_mul (hv_vI rfl) (hv_int 31) (by first | exact Or.inr ⟨by omega, by omega⟩ | exact Or.inl ⟨by omega, by omega⟩ | (dsimp only; first | exact Or.inr ⟨by omega, by omega⟩ | exact Or.inl ⟨by omega, by omega⟩)))) (hv_vI rfl)) (hv_int 1000003) (by first | omega | decide +kernel | (simp only [List.length_cons, List.length_nil]; omega))) (by first | omega | decide +kernel | (simp only [List.length_cons, List.length_nil]; omega)) fun found_29 hfound_29 Hs28 s28 => ?_
        have lfound_29 : found_29.length = found_5.length + 1 := by rw [hfound_29, List.length_append]; rfl
        have s28 : Sg K Mc _ _ _ [(ps1, .lst (List.map Dx.toX found_29))] := s28
        have hf30 : (m_law_draws_l0 is_wide_4) (found_5, cell_6) x14 = (found_29, cell_6) := (by subst hfound_29; subst hmixed_27; subst his_wide_4; subst hfound_2; first | (simp only [m_law_draws_l0, hb18, if_true, if_false, Bool.false_eq_true, decide_true, decide_false, Option.getD_some, Option.isNone_none, Option.isNone_some, Bool.not_true, Bool.not_false, ↓reduceIte]; done) | (rfl; done) | ((unfold m_law_draws_l0); (dsimp only); (first | rw [ifT hb18] | rw [ifF hb18] | skip); (try dsimp only); first | done | rfl) | (exfalso; simp at hb18; done))
        exact ⟨found_29, cell_6, _, _, he10.trans ((loopN_step hi16).trans (by rw [← hx15, hf30])), (by first | trivial | omega | (simp_all; done) | (simp_all; omega)), rfl, s28.keep fun _ h => True.intro⟩
    · obtain ⟨found_31, cell_32, o33, o34, he36, hg37, rfl, s35⟩ := hP
      rw [loopN_end] at he36
      have s38 := Sg.frz (xs := found_31) s35
      have hF39 : m_law_draws cell_ count_ = found_31 := (by subst his_wide_4; subst hfound_2; first | (simp only [m_law_draws, he36, if_true, if_false, Bool.false_eq_true, decide_true, decide_false, Option.getD_some, Option.isNone_none, Option.isNone_some, Bool.not_true, Bool.not_false, ↓reduceIte]; done) | (rfl; done) | ((unfold m_law_draws); (dsimp only); (first | rw [he36] | skip); (try dsimp only); first | done | rfl))
      exact zq_ret s38 (hv_var (x := found_31) rfl s38.im.1) fun v H' e d => q v H' e (by rw [hF39]; exact d)

theorem draws_len (c n : Int) : (m_law_draws c n).length = n.toNat := by
  have key := loopN_keep (f := m_law_draws_l0 (decide ((1000000000000000000 : Int) ≤ c))) (fun s j => s.1.length = j) (fun s k j h => by
    unfold m_law_draws_l0
    dsimp only
    split <;> (rw [List.length_append, h]; rfl)) n.toNat 0 ([], c) 0 rfl
  simpa [m_law_draws] using key

def m_law_is_integer (actual_ : Int) : Bool :=
  true
abbrev s_law_is_integer : Stmt := (topS 10)
theorem sc_law_is_integer : FnScope ["actual"] ["actual"] (defScope s_law_is_integer) := ⟨rfl, rfl, rfl, by decide +kernel, rfl, by decide +kernel, by decide +kernel⟩
abbrev sp_law_is_integer (K : PySem.W.Frag) : Sp := PrD K (fun c : Int => [Dx.toX c]) (fun c => True) (fun c => (m_law_is_integer c : Bool))
theorem ok_law_is_integer (T : Txt P K mg) : FnOk P w K mg base CX0 1 T.f_law_is_integer T.d_law_is_integer ["actual"] (sp_law_is_integer K) := by
  refine T.u_law_is_integer.ok sc_law_is_integer (fun vs H Q E h => ?_) (fun cdv A outer s H vs Q E hr h => ?_)
  · obtain ⟨Mc, c, mok, da, pre, q⟩ := h
    exact (dpa_len da)
  · obtain ⟨Mc, c, mok, da, pre, q⟩ := h
    obtain ⟨actual_, rfl⟩ : ∃ z, z = c := ⟨c, rfl⟩
    dsimp only at da pre q
    obtain ⟨v0, w0, rfl, d0, da0⟩ := dpa_inv da
    cases dpa_inv0 da0
    cases (Dt.int d0)
    have s0 : Sg K Mc H H [] [] := Sg.enter mok True.intro
    refine ⟨_, (pss_cons (ps_ret (pe_and (pe_callB call_isi (by rfl) T.n_isinstance (by decide +kernel) (pa_cons (pv 0) (pa_cons (pe_bltn (v := .ty "int") (by rfl) T.n_int (by decide +kernel) rfl) pa_nil))) (pe_one (pe_not (pe_callB call_isi (by rfl) T.n_isinstance (by decide +kernel) (pa_cons (pv 0) (pa_cons (pe_bltn (v := .ty "bool") (by rfl) T.n_bool (by decide +kernel) rfl) pa_nil))))))) pss_nil), ?_⟩
    have hF1 : m_law_is_integer actual_ = true := (by  first | (simp only [m_law_is_integer, if_true, if_false, Bool.false_eq_true, decide_true, decide_false, Option.getD_some, Option.isNone_none, Option.isNone_some, Bool.not_true, Bool.not_false, ↓reduceIte]; done) | (rfl; done) | ((unfold m_law_is_integer); (dsimp only); first | done | rfl))
    exact zq_ret s0 (Hv.is (hv_and (hv_isi (b := true) (hv_vI rfl) (by decide +kernel)) (fun hb0 => (Hv.is (hv_not (hv_isi (b := false) (hv_vI rfl) (by decide +kernel))) (show _ = true by first | rfl | decide | simp)))) (show _ = true by first | rfl | decide | simp)) fun v H' e d => q v H' e (by rw [hF1]; exact d)
theorem hot_law_is_integer (T : Txt P K mg) : L2H.FnH P w K mg base CX0 1 T.f_law_is_integer T.d_law_is_integer ["actual"] (sp_law_is_integer K) := by
  refine fun_okH T.u_law_is_integer sc_law_is_integer (fun vs H Q E h => ?_) (fun cdv A outer s H vs Q E p hot hr h => ?_)
  · obtain ⟨Mc, c, mok, da, pre, q⟩ := h
    exact (dpa_len da)
  · obtain ⟨Mc, c, mok, da, pre, q⟩ := h
    dsimp only at da pre q
    obtain ⟨v0, w0, rfl, d0, da0⟩ := dpa_inv da
    cases dpa_inv0 da0
    cases (Dt.int d0)
    have s0 : Sg K Mc H H [] [] := Sg.enter mok True.intro
    refine ⟨_, (pss_cons (ps_ret (pe_and (pe_callB call_isi (by rfl) T.n_isinstance (by decide +kernel) (pa_cons (pv 0) (pa_cons (pe_bltn (v := .ty "int") (by rfl) T.n_int (by decide +kernel) rfl) pa_nil))) (pe_one (pe_not (pe_callB call_isi (by rfl) T.n_isinstance (by decide +kernel) (pa_cons (pv 0) (pa_cons (pe_bltn (v := .ty "bool") (by rfl) T.n_bool (by decide +kernel) rfl) pa_nil))))))) pss_nil), ?_⟩
    exact zq_ret s0 (Hv.is (hv_and (hv_isi (b := true) (hv_vI rfl) (by decide +kernel)) (fun hb0 => (Hv.is (hv_not (hv_isi (b := false) (hv_vI rfl) (by decide +kernel))) (show _ = true by first | rfl | decide | simp)))) (show _ = m_law_is_integer c by first | rfl | decide | simp [m_law_is_integer])) fun v H' e d => q v H' e d

theorem enumL_at {α : Type} [DecidableEq α] [Dx α] {xs : List α} {i : Nat} {x : Int × α} (h : (enumL xs)[i]? = some x) : x.1 = (i : Int) ∧ xs[i]? = some x.2 := by
  have hl := (List.getElem?_eq_some_iff.mp h).1
  rw [enumL_len] at hl
  have e := List.getElem?_eq_getElem hl
  have k := enumL_get e
  rw [h] at k
  cases k
  exact ⟨rfl, e⟩
theorem dm_of {n : Int} {ds : List (T4 Int Int Int Int)} (h : ∀ j d, j < (enumL ds).length → ds[j]? = some d → ¬ n < d.b) (p : ∀ d ∈ ds, 0 ≤ d.a ∧ d.a < d.b ∧ 0 ≤ d.c ∧ d.c ≤ 100 ∧ 0 ≤ d.d ∧ d.d ≤ 100) : ∀ d ∈ ds, 0 ≤ d.a ∧ d.a < d.b ∧ d.b ≤ n ∧ 0 ≤ d.c ∧ d.c ≤ 100 ∧ 0 ≤ d.d ∧ d.d ≤ 100 := fun d hd => by
  obtain ⟨j, hj⟩ := List.mem_iff_getElem?.mp hd
  have hl := (List.getElem?_eq_some_iff.mp hj).1
  have := h j d (by rw [enumL_len]; exact hl) hj
  have := p d hd
  omega

def m_columns_l0 (count_ : Int) (s_ : Unit) (x_ : (Int × (T4 Int Int Int Int))) : Lp (Except Int (T3 (List Int) (List Int) (List Int))) (Unit) :=
  let at_ : Int := x_.1
  let demand_ : (T4 Int Int Int Int) := x_.2
  if (decide (count_ < demand_.b)) = true then
    Lp.ret (.error at_)
  else
    Lp.nxt ()
def m_columns (demands_ : (List (T4 Int Int Int Int))) (count_ : Int) (width_ : Int) : (Except Int (T3 (List Int) (List Int) (List Int))) :=
  match (loopL (m_columns_l0 count_) (enumL demands_) () : (Except Int (T3 (List Int) (List Int) (List Int))) ⊕ (Unit)) with
  | .inl rr_ => rr_
  | .inr r0_ =>
    let least_ : (List Int) := (m_boundaries (List.map (fun (c_ : (T4 Int Int Int Int)) => (T3.mk c_.a c_.b c_.c)) demands_) count_)
    let wide_ : (List Int) := (m_boundaries (List.map (fun (c_ : (T4 Int Int Int Int)) => (T3.mk c_.a c_.b (max c_.c c_.d))) demands_) count_)
    (.ok (T3.mk least_ wide_ (m_chosen_boundaries least_ wide_ width_)))
abbrev s_columns : Stmt := (topS 4)
theorem sc_columns : FnScope ["demands", "count", "width", "at", "demand", "least", "first", "last", "low", "_", "wide", "high"] ["demands", "count", "width"] (defScope s_columns) := ⟨rfl, rfl, rfl, by decide +kernel, rfl, by decide +kernel, by decide +kernel⟩
abbrev sp_columns (K : PySem.W.Frag) (C : Addr) : Sp := PrE K (fun c : (List (T4 Int Int Int Int)) × Int × Int => [Dx.toX c.1, Dx.toX c.2.1, Dx.toX c.2.2]) (fun c => c.2.1 ≤ 100 ∧ 1 ≤ c.2.1 ∧ c.1.length ≤ 20 ∧ (∀ d ∈ c.1, 0 ≤ d.a ∧ d.a < d.b ∧ 0 ≤ d.c ∧ d.c ≤ 100 ∧ 0 ≤ d.d ∧ d.d ≤ 100) ∧ 0 ≤ c.2.2 ∧ c.2.2 ≤ 1000) (fun c => (m_columns c.1 c.2.1 c.2.2 : (Except Int (T3 (List Int) (List Int) (List Int))))) C [PySem.Str.ofString "at"] (fun (i : Int) => [Dx.toX i])
theorem ok_columns (T : Txt P K mg) : FnOk P w K mg base (L2N.CX P w) 3 T.f_columns T.d_columns ["demands", "count", "width"] (sp_columns K T.C_BadDemand) := by
  refine fun_okC T.u_columns sc_columns (fun vs H Q E h => ?_) (fun cdv A outer s H vs Q E hr h => ?_)
  · obtain ⟨Mc, c, mok, da, pre, qok, qer⟩ := h
    exact (dpa_len da)
  · obtain ⟨Mc, c, mok, da, pre, qok, qer⟩ := h
    obtain ⟨demands_, count_, width_⟩ := c
    dsimp only at da pre qok qer
    obtain ⟨v0, w0, rfl, d0, da0⟩ := dpa_inv da
    obtain ⟨v1, w1, rfl, d1, da1⟩ := dpa_inv da0
    obtain ⟨v2, w2, rfl, d2, da2⟩ := dpa_inv da1
    cases dpa_inv0 da2
    cases (Dt.int d1)
    cases (Dt.int d2)
    have s0 : Sg K Mc H H [(v0, Dx.toX demands_)] [] := Sg.enter mok ⟨d0, True.intro⟩
    refine ⟨_, (pss_cons (ps_for (passes_of rfl) rfl (pi_enum (by rfl) T.n_enumerate (pa_cons (pv 0) pa_nil)) (pg_tup rfl (pgs_cons (pg_name (i := 3) sc_columns.nd rfl (.inl rfl)) (pgs_cons (pg_name (i := 4) sc_columns.nd rfl (.inl rfl)) pgs_nil))) (pss_cons (ps_if (pt_cmpR op_gt (pe_ix ix_tup (pv 4) pe_int (fun _ _ => rfl)) (pv 1) (nomark _)) (pss_cons (L2N.ps_raise rfl (L2N.takes_of rfl rfl rfl rfl) (mk_excN T.T_BadDemand T.iC_BadDemand T.tI_BadDemand (T.FI_BadDemand w base) hr T.bI_BadDemand passN (by rfl) T.g_BadDemand (pv 3))) pss_nil) pss_nil) pss_nil)) (pss_cons (ps_set (i := 5) sc_columns.nd rfl (.inl rfl) (pe_call (ok_boundaries T) (hr.mono (by decide)) (by rfl) T.g_boundaries T.u_boundaries.kp T.b_boundaries .nil pass0 (pa_cons (pe_lc (own := [("first", 6), ("last", 7), ("low", 8), ("_", 9)]) (g := gTup K 4 (gCons (gName 6) (gCons (gName 7) (gCons (gName 8) (gCons (gName 9) gNil))))) rfl sc_columns.nd (pi_list (pv 0)) (blkOk_by (own := [("first", 6), ("last", 7), ("low", 8), ("_", 9)]) (N := ["demands", "count", "width", "at", "demand", "least", "first", "last", "low", "_", "wide", "high"]) (sc := defScope s_columns) (by decide +kernel)) (fun _ _ _ _ _ => (pg_tup rfl (pgs_cons (pg_name (i := 6) sc_columns.nd rfl (Or.inl rfl) (.inr (by rfl))) (pgs_cons (pg_name (i := 7) sc_columns.nd rfl (Or.inl rfl) (.inr (by rfl))) (pgs_cons (pg_name (i := 8) sc_columns.nd rfl (Or.inl rfl) (.inr (by rfl))) (pgs_cons (pg_name (i := 9) sc_columns.nd rfl (Or.inl rfl) (.inr (by rfl))) pgs_nil)))))) (fun _ _ _ _ _ => pts_nil) (fun _ _ _ _ _ => (pe_tup (pa_cons (pv 6) (pa_cons (pv 7) (pa_cons (pv 8) pa_nil)))))) (pa_cons (pv 1) pa_nil)))) (pss_cons (ps_set (i := 10) sc_columns.nd rfl (.inl rfl) (pe_call (ok_boundaries T) (hr.mono (by decide)) (by rfl) T.g_boundaries T.u_boundaries.kp T.b_boundaries .nil pass0 (pa_cons (pe_lc (own := [("first", 6), ("last", 7), ("low", 8), ("high", 11)]) (g := gTup K 4 (gCons (gName 6) (gCons (gName 7) (gCons (gName 8) (gCons (gName 11) gNil))))) rfl sc_columns.nd (pi_list (pv 0)) (blkOk_by (own := [("first", 6), ("last", 7), ("low", 8), ("high", 11)]) (N := ["demands", "count", "width", "at", "demand", "least", "first", "last", "low", "_", "wide", "high"]) (sc := defScope s_columns) (by decide +kernel)) (fun _ _ _ _ _ => (pg_tup rfl (pgs_cons (pg_name (i := 6) sc_columns.nd rfl (Or.inl rfl) (.inr (by rfl))) (pgs_cons (pg_name (i := 7) sc_columns.nd rfl (Or.inl rfl) (.inr (by rfl))) (pgs_cons (pg_name (i := 8) sc_columns.nd rfl (Or.inl rfl) (.inr (by rfl))) (pgs_cons (pg_name (i := 11) sc_columns.nd rfl (Or.inl rfl) (.inr (by rfl))) pgs_nil)))))) (fun _ _ _ _ _ => pts_nil) (fun _ _ _ _ _ => (pe_tup (pa_cons (pv 6) (pa_cons (pv 7) (pa_cons (pe_callB (call_max2 rfl) (by rfl) T.n_max (by decide +kernel) (pa_cons (pv 8) (pa_cons (pv 11) pa_nil))) pa_nil)))))) (pa_cons (pv 1) pa_nil)))) (pss_cons (ps_ret (pe_tup (pa_cons (pv 5) (pa_cons (pv 10) (pa_cons (pe_call (ok_chosen_boundaries T) (hr.mono (by decide)) (by rfl) T.g_chosen_boundaries T.u_chosen_boundaries.kp T.b_chosen_boundaries .nil pass0 (pa_cons (pv 5) (pa_cons (pv 10) (pa_cons (pv 2) pa_nil)))) pa_nil))))) pss_nil)))), ?_⟩
    refine zq_forE s0 (hv_var (x := demands_) rfl s0.im.1) (fun vsrc0 i σ' H' => ∃ (o1 : Option V) (o2 : Option V) (o3 : Option V) (o4 : Option V) (o5 : Option V) (o6 : Option V) (o7 : Option V) (o8 : Option V) (o9 : Option V), (loopL (m_columns_l0 count_) (enumL demands_) () : (Except Int (T3 (List Int) (List Int) (List Int))) ⊕ (Unit)) = (loopL (m_columns_l0 count_) (List.drop i (enumL demands_)) () : (Except Int (T3 (List Int) (List Int) (List Int))) ⊕ (Unit)) ∧ (∀ j d, j < (i) → demands_[j]? = some d → ¬ count_ < d.b) ∧ σ' = [some v0, some (V.int count_), some (V.int width_), o1, o2, o3, o4, o5, o6, o7, o8, o9] ∧ Sg K Mc H H' [(vsrc0, Dx.toX demands_), (v0, Dx.toX demands_)] []) (fun vsrc0 Hs10 s10 => ⟨_, _, _, _, _, _, _, _, _, rfl, (by intro j d hj; omega), rfl, s10.keep fun _ h => ⟨h.1, ⟨h.2.1, True.intro⟩⟩⟩) (fun vsrc0 i σ' H' hP => by obtain ⟨o1, o2, o3, o4, o5, o6, o7, o8, o9, he, hg, hs, hS⟩ := hP; exact ⟨hS.im.1, hS.mok⟩) (fun vsrc0 i14 x15 wx15 σ' Hs13 Hs13b hi17 hP eT19 hx16 => ?_) (fun vsrc0 σ' Hs13 hP => ?_)
    · obtain ⟨o1, o2, o3, o4, o5, o6, o7, o8, o9, he11, hg12, rfl, s13⟩ := hP
      have s13 := s13.ex eT19
      have qx15 := (List.getElem?_eq_some_iff.mp hi17).1
      rw [enumL_len] at qx15
      obtain ⟨l24, u20, u21, rfl, st25, d22, d23⟩ := Dt.pair (p := x15) hx16
      have zd22 := Dt.int d22
      subst zd22
      have s26 := s13.put d23
      refine ⟨_, _, rfl, ex_t msk_le st25, rfl, _, _, rfl, _, _, rfl, rfl, ?_⟩
      have hgT := hg12
      have exT := enumL_at hi17
      have hmi := (List.getElem?_eq_some_iff.mp exT.2).1
      refine z_ifx (b := (decide (count_ < x15.2.b))) s26 (ht_val (K := K) (hv_gt (hv_t41 (p := x15.2) (hv_var (x := x15.2) rfl s26.im.1)) (hv_vI rfl))) (fun hb27 Hs28 s28 => ?_) (fun hb27 Hs29 s29 => ?_)
      · have hb27P := hb27
        try simp only [decide_eq_true_eq, decide_eq_false_iff_not, Bool.not_eq_true', Bool.not_eq_false', Bool.and_eq_true, Bool.or_eq_true, Bool.or_eq_false_iff] at hb27P
        have hf30 : (m_columns_l0 count_) () x15 = Lp.ret (.error x15.1) := (by  first | (simp only [m_columns_l0, hb27, if_true, if_false, Bool.false_eq_true, decide_true, decide_false, Option.getD_some, Option.isNone_none, Option.isNone_some, Bool.not_true, Bool.not_false, ↓reduceIte]; done) | (rfl; done) | ((unfold m_columns_l0); (dsimp only); (first | rw [ifT hb27] | rw [ifF hb27] | skip); (try dsimp only); first | done | rfl) | (exfalso; simp at hb27; done))
        have hl31 := he11.trans (loopL_ret hi17 hf30)
        have hF32 : m_columns demands_ count_ width_ = (.error x15.1) := (by  first | (simp only [m_columns, hb27, hl31, if_true, if_false, Bool.false_eq_true, decide_true, decide_false, Option.getD_some, Option.isNone_none, Option.isNone_some, Bool.not_true, Bool.not_false, ↓reduceIte]; done) | (rfl; done) | ((unfold m_columns); (dsimp only); (first | rw [ifT hb27] | rw [ifF hb27] | skip); (try dsimp only); (first | rw [hl31] | skip); (try dsimp only); first | done | rfl) | (exfalso; simp at hb27; done))
        exact zq_raiseE s28 (hv_vI rfl) ⟨_, rfl, (by omega), (by omega)⟩ fun d H' e hd => qer _ hF32 d H' e hd
      · have hb27P := hb27
        try simp only [decide_eq_true_eq, decide_eq_false_iff_not, Bool.not_eq_true', Bool.not_eq_false', Bool.and_eq_true, Bool.or_eq_true, Bool.or_eq_false_iff] at hb27P
        have hf33 : (m_columns_l0 count_) () x15 = Lp.nxt () := (by  first | (simp only [m_columns_l0, hb27, if_true, if_false, Bool.false_eq_true, decide_true, decide_false, Option.getD_some, Option.isNone_none, Option.isNone_some, Bool.not_true, Bool.not_false, ↓reduceIte]; done) | (rfl; done) | ((unfold m_columns_l0); (dsimp only); (first | rw [ifT hb27] | rw [ifF hb27] | skip); (try dsimp only); first | done | rfl) | (exfalso; simp at hb27; done))
        exact ⟨_, _, _, _, _, _, _, _, _, he11.trans (loopL_nxt hi17 hf33), (by intro j d hj hd; rcases Nat.lt_succ_iff_lt_or_eq.mp hj with q | q; exact hgT j d q hd; subst q; rw [exT.2] at hd; cases hd; omega), rfl, s29.keep fun _ h => ⟨h.2.1, ⟨h.2.2.1, True.intro⟩⟩⟩
    · obtain ⟨o34, o35, o36, o37, o38, o39, o40, o41, o42, he44, hg45, rfl, s43⟩ := hP
      rw [loopL_end] at he44
      have dm := dm_of hg45 pre.2.2.2.1
      refine z_asgG s43 (hv_call ((List.map (fun (c_ : (T4 Int Int Int Int)) => (T3.mk c_.a c_.b c_.c)) demands_), count_) (hd_cons (hv_lcL0 s43 (fun (c_ : (T4 Int Int Int Int)) => (T3.mk c_.a c_.b c_.c)) (hv_var (x := demands_) rfl s43.im.2.1) (by first | omega | decide +kernel | (simp only [List.length_cons, List.length_nil]; omega)) (fun D49 src53 c50 w51 ys52 Hs48 s48 hx54 Q k => by obtain ⟨l64, u56, u57, u58, u59, w51e, st65, d60, d61, d62, d63⟩ := Dt.t4 (p := c50) s48.im.1; have zd60 := Dt.int d60; subst zd60; have zd61 := Dt.int d61; subst zd61; have zd62 := Dt.int d62; subst zd62; have zd63 := Dt.int d63; subst zd63; subst w51e; exact ⟨_, _, rfl, ex_t msk_le st65, rfl, _, _, rfl, _, _, rfl, _, _, rfl, _, _, rfl, rfl, k _ rfl (hv_tup3 (hv_vI rfl) (hv_vI rfl) (hv_vI rfl))⟩)) (hd_cons (hv_vI rfl) hd_nil)) (by first | exact ⟨pre.1, pre.2.1, by rw [List.length_map]; exact pre.2.2.1, demA dm⟩ | exact ⟨pre.1, pre.2.1, by rw [List.length_map]; exact pre.2.2.1, demB dm⟩)) fun least_47 hleast_47 vleast_47 Hs46 s46 => ?_
      try dsimp only at hleast_47
      have bL := bounds_ok (demA dm) pre.2.1 pre.1
      refine z_asgG s46 (hv_call ((List.map (fun (c_ : (T4 Int Int Int Int)) => (T3.mk c_.a c_.b (max c_.c c_.d))) demands_), count_) (hd_cons (hv_lcL0 s46 (fun (c_ : (T4 Int Int Int Int)) => (T3.mk c_.a c_.b (max c_.c c_.d))) (hv_var (x := demands_) rfl s46.im.2.2.1) (by first | omega | decide +kernel | (simp only [List.length_cons, List.length_nil]; omega)) (fun D69 src73 c70 w71 ys72 Hs68 s68 hx74 Q k => by obtain ⟨l84, u76, u77, u78, u79, w71e, st85, d80, d81, d82, d83⟩ := Dt.t4 (p := c70) s68.im.1; have zd80 := Dt.int d80; subst zd80; have zd81 := Dt.int d81; subst zd81; have zd82 := Dt.int d82; subst zd82; have zd83 := Dt.int d83; subst zd83; subst w71e; exact ⟨_, _, rfl, ex_t msk_le st85, rfl, _, _, rfl, _, _, rfl, _, _, rfl, _, _, rfl, rfl, k _ rfl (hv_tup3 (hv_vI rfl) (hv_vI rfl) (hv_max2 (hv_vI rfl) (hv_vI rfl)))⟩)) (hd_cons (hv_vI rfl) hd_nil)) (by first | exact ⟨pre.1, pre.2.1, by rw [List.length_map]; exact pre.2.2.1, demA dm⟩ | exact ⟨pre.1, pre.2.1, by rw [List.length_map]; exact pre.2.2.1, demB dm⟩)) fun wide_67 hwide_67 vwide_67 Hs66 s66 => ?_
      try dsimp only at hwide_67
      have bW := bounds_ok (demB dm) pre.2.1 pre.1
      have hF86 : m_columns demands_ count_ width_ = (.ok (T3.mk least_47 wide_67 (m_chosen_boundaries least_47 wide_67 width_))) := (by subst hwide_67; subst hleast_47; first | (simp only [m_columns, he44, if_true, if_false, Bool.false_eq_true, decide_true, decide_false, Option.getD_some, Option.isNone_none, Option.isNone_some, Bool.not_true, Bool.not_false, ↓reduceIte]; done) | (rfl; done) | ((unfold m_columns); (dsimp only); (first | rw [he44] | skip); (try dsimp only); first | done | rfl))
      exact zq_ret s66 (hv_tup3 (hv_var (x := least_47) rfl s66.im.2.1) (hv_var (x := wide_67) rfl s66.im.1) (hv_call (least_47, wide_67, width_) (hd_cons (hv_var (x := least_47) rfl s66.im.2.1) (hd_cons (hv_var (x := wide_67) rfl s66.im.1) (hd_cons (hv_vI rfl) hd_nil))) (by dsimp only; refine ⟨?_, ?_, ?_, pre.2.2.2.2.1, pre.2.2.2.2.2, ?_, ?_⟩ <;> subst_vars <;> first | omega | assumption | (refine And.right (And.intro True.intro ?_); first | exact bL.2 | exact bW.2)))) fun v H' e d => qok _ hF86 v H' e d

theorem lastgt {a b m : Int} (h : 0 < m) : a < a + 1 + b % m := by
  have := Int.emod_nonneg b (show m ≠ 0 by omega)
  omega
theorem dstep38 {ds : List (T4 Int Int Int Int)} {a b : Int} (h : ∀ d ∈ ds, 0 ≤ d.a ∧ d.a < d.b ∧ 0 ≤ d.c ∧ d.c ≤ 100 ∧ 0 ≤ d.d ∧ d.d ≤ 100) (h0 : 0 ≤ a) (h1 : a < b) : ∀ d ∈ ds ++ [T4.mk a b 3 5], 0 ≤ d.a ∧ d.a < d.b ∧ 0 ≤ d.c ∧ d.c ≤ 100 ∧ 0 ≤ d.d ∧ d.d ≤ 100 := fun d hd => by
  rcases List.mem_append.mp hd with hd | hd
  · exact h d hd
  · obtain rfl := List.mem_singleton.mp hd
    dsimp only
    omega

def m_law_l0 (script_ : (List Int)) (count_ : Int) (s_ : Int × (List (T4 Int Int Int Int))) (x_ : Int) : Int × (List (T4 Int Int Int Int)) :=
  let expected_ : Int := s_.1
  let demands_ : (List (T4 Int Int Int Int)) := s_.2
  let k_ : Int := x_
  let draws_ : (List Int) := (m_law_draws (m_law_cell script_ ((3 : Int) + k_)) (3 : Int))
  let first_ : Int := ((draws_.getD (Int.toNat (0 : Int)) 0) % count_)
  let last_ : Int := ((first_ + (1 : Int)) + ((draws_.getD (Int.toNat (1 : Int)) 0) % (count_ - first_)))
  let j1_ : Int × Int := if (decide (((draws_.getD (Int.toNat (2 : Int)) 0) % (4 : Int)) = (1 : Int))) = true then
      let last_ : Int := ((count_ + (1 : Int)) + (((draws_.getD (Int.toNat (2 : Int)) 0) / (4 : Int)) % (3 : Int)))
      if (decide (expected_ < (0 : Int))) = true then
        let expected_ : Int := k_
        (last_, expected_)
      else
        (last_, expected_)
    else
      (last_, expected_)
  let last_ : Int := j1_.1
  let expected_ : Int := j1_.2
  let demands_ : (List (T4 Int Int Int Int)) := demands_ ++ [(T4.mk first_ last_ (3 : Int) (5 : Int))]
  (expected_, demands_)
def m_law (script_ : (List Int)) : Bool :=
  let count_ : Int := ((1 : Int) + ((m_law_cell script_ (0 : Int)) % (16 : Int)))
  let demands_ : (List (T4 Int Int Int Int)) := []
  let expected_ : Int := (-1 : Int)
  let r0_ : Int × (List (T4 Int Int Int Int)) := loopN (m_law_l0 script_ count_) (Int.toNat ((1 : Int) + ((m_law_cell script_ (1 : Int)) % (8 : Int)))) (0 : Int) (expected_, demands_)
  let expected_ : Int := r0_.1
  let demands_ : (List (T4 Int Int Int Int)) := r0_.2
  let found_ : Int := (-1 : Int)
  match ((m_columns demands_ count_ ((m_law_cell script_ (2 : Int)) % (100 : Int))) : Except Int (T3 (List Int) (List Int) (List Int))) with
  | .ok tv_ =>
    (decide (found_ = expected_))
  | .error te_ =>
    if (!(m_law_is_integer te_)) = true then
      false
    else
      let found_ : Int := te_
      (decide (found_ = expected_))
abbrev s_law : Stmt := (topS 11)
theorem sc_law : FnScope ["script", "count", "demands", "expected", "k", "draws", "first", "last", "found", "e"] ["script"] (defScope s_law) := ⟨rfl, rfl, rfl, by decide +kernel, rfl, by decide +kernel, by decide +kernel⟩
abbrev sp_law (K : PySem.W.Frag) : Sp := PrD K (fun c : (List Int) => [Dx.toX c]) (fun c => True) (fun c => (m_law c : Bool))
theorem ok_law (T : Txt P K mg) : FnOk P w K mg base CX0 4 T.f_law T.d_law ["script"] (sp_law K) := by
  refine T.u_law.ok sc_law (fun vs H Q E h => ?_) (fun cdv A outer s H vs Q E hr h => ?_)
  · obtain ⟨Mc, c, mok, da, pre, q⟩ := h
    exact (dpa_len da)
  · obtain ⟨Mc, c, mok, da, pre, q⟩ := h
    obtain ⟨script_, rfl⟩ : ∃ z, z = c := ⟨c, rfl⟩
    dsimp only at da pre q
    obtain ⟨v0, w0, rfl, d0, da0⟩ := dpa_inv da
    cases dpa_inv0 da0
    have s0 : Sg K Mc H H [(v0, Dx.toX script_)] [] := Sg.enter mok ⟨d0, True.intro⟩
    refine ⟨_, (pss_cons (ps_set (i := 1) sc_law.nd rfl (.inl rfl) (pe_op op_add pe_int (pe_op op_mod (pe_call (ok_law_cell T) (hr.mono (by decide)) (by rfl) T.g_law_cell T.u_law_cell.kp T.b_law_cell .nil pass0 (pa_cons (pv 0) (pa_cons pe_int pa_nil))) pe_int))) (pss_cons (ps_set (i := 2) sc_law.nd rfl (.inl rfl) (pe_lst pa_nil)) (pss_cons (ps_set (i := 3) sc_law.nd rfl (.inl rfl) (pe_un un_neg pe_int)) (pss_cons (ps_for PassesOwn.never rfl (pi_range1 (by rfl) T.n_range (pa_cons (pe_op op_add pe_int (pe_op op_mod (pe_call (ok_law_cell T) (hr.mono (by decide)) (by rfl) T.g_law_cell T.u_law_cell.kp T.b_law_cell .nil pass0 (pa_cons (pv 0) (pa_cons pe_int pa_nil))) pe_int)) pa_nil)) (pg_name (i := 4) sc_law.nd rfl (.inl rfl)) (pss_cons (ps_set (i := 5) sc_law.nd rfl (.inl rfl) (pe_call (ok_law_draws T) (hr.mono (by decide)) (by rfl) T.g_law_draws T.u_law_draws.kp T.b_law_draws .nil pass0 (pa_cons (pe_call (ok_law_cell T) (hr.mono (by decide)) (by rfl) T.g_law_cell T.u_law_cell.kp T.b_law_cell .nil pass0 (pa_cons (pv 0) (pa_cons (pe_op op_add pe_int (pv 4)) pa_nil))) (pa_cons pe_int pa_nil)))) (pss_cons (ps_set (i := 6) sc_law.nd rfl (.inl rfl) (pe_op op_mod (pe_ix ix_list (pv 5) pe_int (fun _ _ => rfl)) (pv 1))) (pss_cons (ps_set (i := 7) sc_law.nd rfl (.inl rfl) (pe_op op_add (pe_op op_add (pv 6) pe_int) (pe_op op_mod (pe_ix ix_list (pv 5) pe_int (fun _ _ => rfl)) (pe_op op_sub (pv 1) (pv 6))))) (pss_cut (ps_if (pt_cmpR op_eq (pe_op op_mod (pe_ix ix_list (pv 5) pe_int (fun _ _ => rfl)) pe_int) pe_int (nomark _)) (pss_cons (ps_set (i := 7) sc_law.nd rfl (.inl rfl) (pe_op op_add (pe_op op_add (pv 1) pe_int) (pe_op op_mod (pe_op op_fdivW (pe_ix ix_list (pv 5) pe_int (fun _ _ => rfl)) pe_int) pe_int))) (pss_cons (ps_if (pt_cmpR op_lt (pv 3) pe_int (nomark _)) (pss_cons (ps_set (i := 3) sc_law.nd rfl (.inl rfl) (pv 4)) pss_nil) pss_nil) pss_nil)) pss_nil) (pss_cons (ps_expr (pe_bm PySem.F.plainAttrs_list PySem.F.slot_list_append PySem.F.type_list_append mt_append (pv 2) (pa_cons (pe_tup (pa_cons (pv 6) (pa_cons (pv 7) (pa_cons pe_int (pa_cons pe_int pa_nil))))) pa_nil))) pss_nil)))))) (pss_cons (ps_set (i := 8) sc_law.nd rfl (.inl rfl) (pe_un un_neg pe_int)) (pss_cons (L2N.ps_try_as (i := 9) rfl rfl sc_law.nd rfl rfl ⟨by rfl, by decide, .inl T.g_BadDemand⟩ takes0N (fun W pn xe tk po => (pss_cons (ps_expr (pe_callS (ok_columns T) hr (by rfl) T.g_columns T.u_columns.kp T.b_columns (L2N.passAt tk) (pa_cons (pv 2) (pa_cons (pv 1) (pa_cons (pe_op op_mod (pe_call (ok_law_cell T) (hr.mono (by decide)) (by rfl) T.g_law_cell T.u_law_cell.kp T.b_law_cell .nil pass0 (pa_cons (pv 0) (pa_cons pe_int pa_nil))) pe_int) pa_nil))))) pss_nil)) (fun a_ oe_ cls_ d_ pn_ hz hf => (pss_cons (ps_if (PW.pt (pw_or (pt_not (pt_val (pe_callB (call_isG T.ec_BadDemand ⟨hz.1, hz.2.1⟩ hf T.cl_BadDemand) (by rfl) T.n_isinstance (by decide +kernel) (pa_cons (pv 9) (pa_cons (pe_glob (v := .ref T.C_FolioError) rfl T.g_FolioError rfl) pa_nil))))) (pw_or (pt_not (pt_val (pe_callB (call_isG T.ec_BadDemand ⟨hz.1, hz.2.1⟩ hf T.cl_BadDemand) (by rfl) T.n_isinstance (by decide +kernel) (pa_cons (pv 9) (pa_cons (pe_bltn (v := .ty "ValueError") (by rfl) T.n_ValueError (by decide +kernel) rfl) pa_nil))))) (pw_or1 (pt_not (pt_val (L2H.pe_callH (E := fun _ => E0) (hot_law_is_integer T) ⟨(show Room 1 _ from hr.mono (by decide)).dp, (show Room 1 _ from hr.mono (by decide)).un⟩ (hot_suite hz hf) (by rfl) T.g_law_is_integer T.u_law_is_integer.kp T.b_law_is_integer passH0 (pa_cons (pe_xf T.xf_BadDemand T.no_BadDemand_at ⟨hz.1, hz.2.1⟩ hf (pv 9)) pa_nil)))))))) (pss_cons (ps_ret pe_bl) pss_nil) pss_nil) (pss_cons (ps_set (i := 8) sc_law.nd rfl (.inl rfl) (pe_xf T.xf_BadDemand T.no_BadDemand_at ⟨hz.1, hz.2.1⟩ hf (pv 9))) pss_nil)))) (pss_cons (ps_ret (pe_cmpR op_eq (pv 8) (pv 3) (nomark _))) pss_nil))))))), ?_⟩
    refine z_asgIG s0 (hv_add (hv_int 1) (hv_mod (hv_call (script_, (0 : Int)) (hd_cons (hv_var (x := script_) rfl s0.im.1) (hd_cons (hv_int 0) hd_nil)) (by first | omega | (dsimp only; omega) | (subst_vars; omega) | decide +kernel)) (hv_int 16) (by first | omega | decide +kernel | (simp only [List.length_cons, List.length_nil]; omega)))) fun count_2 hcount_2 Hs1 s1 => ?_
    try dsimp only at hcount_2
    refine z_nilG (T4 Int Int Int Int) s1 fun demands_4 hdemands_4 ps3 Hs3 s3 => ?_
    have ldemands_4 : demands_4.length = 0 := by rw [hdemands_4]; rfl
    refine z_asgIG s3 (hv_neg (hv_int 1)) fun expected_6 hexpected_6 Hs5 s5 => ?_
    try dsimp only at hexpected_6
    refine zq_forR1G s5 (hv_add (hv_int 1) (hv_mod (hv_call (script_, (1 : Int)) (hd_cons (hv_var (x := script_) rfl s5.im.1) (hd_cons (hv_int 1) hd_nil)) (by first | omega | (dsimp only; omega) | (subst_vars; omega) | decide +kernel)) (hv_int 8) (by first | omega | decide +kernel | (simp only [List.length_cons, List.length_nil]; omega)))) (by first | omega | decide +kernel | (simp only [List.length_cons, List.length_nil]; omega)) (fun i σ' H' => ∃ (expected_7 : Int) (demands_8 : (List (T4 Int Int Int Int))) (o9 : Option V) (o10 : Option V) (o11 : Option V) (o12 : Option V) (o13 : Option V) (o14 : Option V), (loopN (m_law_l0 script_ count_2) (Int.toNat ((1 : Int) + ((m_law_cell script_ (1 : Int)) % (8 : Int)))) (0 : Int) (expected_6, demands_4) : Int × (List (T4 Int Int Int Int))) = (loopN (m_law_l0 script_ count_2) ((Int.toNat ((1 : Int) + ((m_law_cell script_ (1 : Int)) % (8 : Int)))) - i) ((0 : Int) + (i : Int)) (expected_7, demands_8) : Int × (List (T4 Int Int Int Int))) ∧ (demands_8.length = (i) ∧ (∀ d ∈ demands_8, 0 ≤ d.a ∧ d.a < d.b ∧ 0 ≤ d.c ∧ d.c ≤ 100 ∧ 0 ≤ d.d ∧ d.d ≤ 100)) ∧ σ' = [some v0, some (V.int count_2), some (.ref ps3), some (V.int expected_7), o9, o10, o11, o12, o13, o14] ∧ Sg K Mc H H' [(v0, Dx.toX script_)] [(ps3, .lst (List.map Dx.toX demands_8))]) (fun Hs15 s15 => ⟨expected_6, demands_4, _, _, _, _, _, _, (by simp), (by subst_vars; exact ⟨rfl, fun d hd => by cases hd⟩), rfl, s15.keep fun _ h => ⟨h.1, True.intro⟩⟩) (fun i19 x20 σ' Hs18 hx21 hi22 hP => ?_) (fun σ' Hs18 hP => ?_)
    · obtain ⟨expected_7, demands_8, o9, o10, o11, o12, o13, o14, he16, hg17, rfl, s18⟩ := hP
      have hg17q0 := hg17.1
      have hg17q1 := hg17.2
      have hgD := hg17
      refine z_asgG s18 (hv_call ((m_law_cell script_ ((3 : Int) + x20)), (3 : Int)) (hd_cons (hv_call (script_, ((3 : Int) + x20)) (hd_cons (hv_var (x := script_) rfl s18.im.1) (hd_cons (hv_add (hv_int 3) (hv_vI rfl)) hd_nil)) (by first | omega | (dsimp only; omega) | (subst_vars; omega) | decide +kernel)) (hd_cons (hv_int 3) hd_nil)) (by first | omega | (dsimp only; omega) | (subst_vars; omega) | decide +kernel)) fun draws_25 hdraws_25 vdraws_25 Hs24 s24 => ?_
      try dsimp only at hdraws_25
      have f26 := draws_len (m_law_cell script_ ((3 : Int) + x20)) (3 : Int)
      rw [← hdraws_25] at f26
      refine z_asgIG s24 (hv_mod (hv_at 0 (hs_of (hv_var (x := draws_25) rfl s24.im.1)) (hv_int 0) (by first | omega | decide +kernel | (simp only [List.length_cons, List.length_nil]; omega)) (by first | omega | decide +kernel | (simp only [List.length_cons, List.length_nil]; omega))) (hv_vI rfl) (by first | omega | decide +kernel | (simp only [List.length_cons, List.length_nil]; omega))) fun first_28 hfirst_28 Hs27 s27 => ?_
      try dsimp only at hfirst_28
      have bfirst_28 : 0 ≤ first_28 ∧ first_28 < count_2 := by rw [hfirst_28]; exact ⟨Int.emod_nonneg _ (by omega), Int.emod_lt_of_pos _ (by omega)⟩
      refine z_asgIG s27 (hv_add (hv_add (hv_vI rfl) (hv_int 1)) (hv_mod (hv_at 0 (hs_of (hv_var (x := draws_25) rfl s27.im.1)) (hv_int 1) (by first | omega | decide +kernel | (simp only [List.length_cons, List.length_nil]; omega)) (by first | omega | decide +kernel | (simp only [List.length_cons, List.length_nil]; omega))) (hv_sub (hv_vI rfl) (hv_vI rfl)) (by first | omega | decide +kernel | (simp only [List.length_cons, List.length_nil]; omega)))) fun last_30 hlast_30 Hs29 s29 => ?_
      try dsimp only at hlast_30
      have clast_30 : first_28 < last_30 := by rw [hlast_30]; exact lastgt (by omega)
      refine z_ifj (fun σ' H' => ∃ (last_34 : Int) (expected_35 : Int)  (o38 : Option V) (o39 : Option V), (last_34, expected_35) = (if (decide (((draws_25.getD (Int.toNat (2 : Int)) 0) % (4 : Int)) = (1 : Int))) = true then
        let last_ : Int := ((count_2 + (1 : Int)) + (((draws_25.getD (Int.toNat (2 : Int)) 0) / (4 : Int)) % (3 : Int)))
        if (decide (expected_7 < (0 : Int))) = true then
          let expected_ : Int := x20
          (last_, expected_)
        else
          (last_, expected_7)
      else
        (last_30, expected_7)) ∧ σ' = [some v0, some (V.int count_2), some (.ref ps3), some (V.int expected_35), some (V.int x20), some vdraws_25, some (V.int first_28), some (V.int last_34), o38, o39] ∧ Sg K Mc H H' [(vdraws_25, Dx.toX draws_25), (v0, Dx.toX script_)] [(ps3, .lst (List.map Dx.toX demands_8))]) s29 (ht_val (K := K) (hv_eqI (hv_mod (hv_at 0 (hs_of (hv_var (x := draws_25) rfl s29.im.1)) (hv_int 2) (by first | omega | decide +kernel | (simp only [List.length_cons, List.length_nil]; omega)) (by first | omega | decide +kernel | (simp only [List.length_cons, List.length_nil]; omega))) (hv_int 4) (by first | omega | decide +kernel | (simp only [List.length_cons, List.length_nil]; omega))) (hv_int 1))) (fun hb31 Hs32 s32 => ?_) (fun hb31 Hs33 s33 => ?_) (fun σ' Hs37 hN => ?_)
      · have hb31P := hb31
        try simp only [decide_eq_true_eq, decide_eq_false_iff_not, Bool.not_eq_true', Bool.not_eq_false', Bool.and_eq_true, Bool.or_eq_true, Bool.or_eq_false_iff] at hb31P
        refine z_asgIG s32 (hv_add (hv_add (hv_vI rfl) (hv_int 1)) (hv_mod (hv_div (hv_at 0 (hs_of (hv_var (x := draws_25) rfl s32.im.1)) (hv_int 2) (by first | omega | decide +kernel | (simp only [List.length_cons, List.length_nil]; omega)) (by first | omega | decide +kernel | (simp only [List.length_cons, List.length_nil]; omega))) (hv_int 4) (by first | exact ⟨by decide +kernel, by decide +kernel⟩ | (refine log_small ?_ ?_ <;> omega))) (hv_int 3) (by first | omega | decide +kernel | (simp only [List.length_cons, List.length_nil]; omega)))) fun last_41 hlast_41 Hs40 s40 => ?_
        try dsimp only at hlast_41
        refine z_ifx (b := (decide (expected_7 < (0 : Int)))) s40 (ht_val (K := K) (hv_lt (hv_vI rfl) (hv_int 0))) (fun hb42 Hs43 s43 => ?_) (fun hb42 Hs44 s44 => ?_)
        · have hb42P := hb42
          try simp only [decide_eq_true_eq, decide_eq_false_iff_not, Bool.not_eq_true', Bool.not_eq_false', Bool.and_eq_true, Bool.or_eq_true, Bool.or_eq_false_iff] at hb42P
          refine z_asgIG s43 (hv_vI rfl) fun expected_46 hexpected_46 Hs45 s45 => ?_
          try dsimp only at hexpected_46
          exact ⟨last_41, expected_46, _, _, (by subst hexpected_46; subst hlast_41; subst hlast_30; subst hfirst_28; subst hdraws_25; subst hexpected_6; subst hdemands_4; subst hcount_2; first | (simp only [hb31, hb42, if_true, if_false, Bool.false_eq_true, decide_true, decide_false, Option.getD_some, Option.isNone_none, Option.isNone_some, Bool.not_true, Bool.not_false, ↓reduceIte]; done) | (rfl; done) | ((skip); (dsimp only); (first | rw [ifT hb31] | rw [ifF hb31] | skip); (try dsimp only); (first | rw [ifT hb42] | rw [ifF hb42] | skip); (try dsimp only); first | done | rfl) | (exfalso; simp at hb42; done) | (exfalso; simp at hb31; done)), rfl, s45.keep fun _ h => ⟨h.1, ⟨h.2.1, True.intro⟩⟩⟩
        · have hb42P := hb42
          try simp only [decide_eq_true_eq, decide_eq_false_iff_not, Bool.not_eq_true', Bool.not_eq_false', Bool.and_eq_true, Bool.or_eq_true, Bool.or_eq_false_iff] at hb42P
          exact ⟨last_41, expected_7, _, _, (by subst hlast_41; subst hlast_30; subst hfirst_28; subst hdraws_25; subst hexpected_6; subst hdemands_4; subst hcount_2; first | (simp only [hb31, hb42, if_true, if_false, Bool.false_eq_true, decide_true, decide_false, Option.getD_some, Option.isNone_none, Option.isNone_some, Bool.not_true, Bool.not_false, ↓reduceIte]; done) | (rfl; done) | ((skip); (dsimp only); (first | rw [ifT hb31] | rw [ifF hb31] | skip); (try dsimp only); (first | rw [ifT hb42] | rw [ifF hb42] | skip); (try dsimp only); first | done | rfl) | (exfalso; simp at hb42; done) | (exfalso; simp at hb31; done)), rfl, s44.keep fun _ h => ⟨h.1, ⟨h.2.1, True.intro⟩⟩⟩
      · have hb31P := hb31
        try simp only [decide_eq_true_eq, decide_eq_false_iff_not, Bool.not_eq_true', Bool.not_eq_false', Bool.and_eq_true, Bool.or_eq_true, Bool.or_eq_false_iff] at hb31P
        exact ⟨last_30, expected_7, _, _, (by subst hlast_30; subst hfirst_28; subst hdraws_25; subst hexpected_6; subst hdemands_4; subst hcount_2; first | (simp only [hb31, if_true, if_false, Bool.false_eq_true, decide_true, decide_false, Option.getD_some, Option.isNone_none, Option.isNone_some, Bool.not_true, Bool.not_false, ↓reduceIte]; done) | (rfl; done) | ((skip); (dsimp only); (first | rw [ifT hb31] | rw [ifF hb31] | skip); (try dsimp only); first | done | rfl) | (exfalso; simp at hb31; done)), rfl, s33.keep fun _ h => ⟨h.1, ⟨h.2.1, True.intro⟩⟩⟩
      · obtain ⟨last_34, expected_35, o38, o39, hj36, rfl, s37⟩ := hN
        try dsimp only at hj36
        have tb : first_28 < last_34 := by have hj9 := congrArg Prod.fst hj36; split at hj9 <;> (try split at hj9) <;> ((try dsimp only at hj9); omega)
        refine zq_appG s37 (kk := 0) rfl (ev_var rfl) (hv_tup4 (hv_vI rfl) (hv_vI rfl) (hv_int 3) (hv_int 5)) (by first | omega | decide +kernel | (simp only [List.length_cons, List.length_nil]; omega)) fun demands_48 hdemands_48 Hs47 s47 => ?_
        have ldemands_48 : demands_48.length = demands_8.length + 1 := by rw [hdemands_48, List.length_append]; rfl
        have s47 : Sg K Mc _ _ _ [(ps3, .lst (List.map Dx.toX demands_48))] := s47
        have hf49 : (m_law_l0 script_ count_2) (expected_7, demands_8) x20 = (expected_35, demands_48) := (by subst hdemands_48; subst hlast_30; subst hfirst_28; subst hdraws_25; subst hexpected_6; subst hdemands_4; subst hcount_2; first | (simp only [m_law_l0, hj36, if_true, if_false, Bool.false_eq_true, decide_true, decide_false, Option.getD_some, Option.isNone_none, Option.isNone_some, Bool.not_true, Bool.not_false, ↓reduceIte]; done) | (simp only [m_law_l0, ← hj36, if_true, if_false, Bool.false_eq_true, decide_true, decide_false, Option.getD_some, Option.isNone_none, Option.isNone_some, Bool.not_true, Bool.not_false, ↓reduceIte]; done) | (rfl; done) | ((unfold m_law_l0); (dsimp only); (first | rw [← hj36] | rw [hj36] | skip); (try dsimp only); first | done | rfl))
        exact ⟨expected_35, demands_48, _, _, _, _, _, _, he16.trans ((loopN_step hi22).trans (by rw [← hx21, hf49])), (by subst_vars; refine ⟨by omega, dstep38 hgD.2 ?_ ?_⟩ <;> omega), rfl, s47.keep fun _ h => ⟨h.2.1, True.intro⟩⟩
    · obtain ⟨expected_50, demands_51, o52, o53, o54, o55, o56, o57, he59, hg60, rfl, s58⟩ := hP
      have hg60q0 := hg60.1
      have hg60q1 := hg60.2
      rw [loopN_end] at he59
      have hgD := hg60
      have s61 := Sg.frz (xs := demands_51) s58
      refine z_asgIG s61 (hv_neg (hv_int 1)) fun found_63 hfound_63 Hs62 s62 => ?_
      try dsimp only at hfound_63
      refine zq_tryE (demands_51, count_2, ((m_law_cell script_ (2 : Int)) % (100 : Int))) s62 (hd_cons (hv_var (x := demands_51) rfl s62.im.1) (hd_cons (hv_vI rfl) (hd_cons (hv_mod (hv_call (script_, (2 : Int)) (hd_cons (hv_var (x := script_) rfl s62.im.2.1) (hd_cons (hv_int 2) hd_nil)) (by first | omega | (dsimp only; omega) | (subst_vars; omega) | decide +kernel)) (hv_int 100) (by first | omega | decide +kernel | (simp only [List.length_cons, List.length_nil]; omega))) hd_nil))) (by dsimp only; exact ⟨by omega, by omega, by omega, hgD.2, by omega, by omega⟩) T.ex_BadDemand (fun tv64 hok66 Hs68 s68 => ?_) (fun te65 her67 a70 d71 Hs69 s69 => ?_)
      · try dsimp only at hok66
        have hF72 : m_law script_ = (decide (found_63 = expected_50)) := (by subst hfound_63; subst hexpected_6; subst hdemands_4; subst hcount_2; first | (simp only [m_law, he59, hok66, if_true, if_false, Bool.false_eq_true, decide_true, decide_false, Option.getD_some, Option.isNone_none, Option.isNone_some, Bool.not_true, Bool.not_false, ↓reduceIte]; done) | (rfl; done) | ((unfold m_law); (dsimp only); (first | rw [he59] | skip); (try dsimp only); (first | rw [hok66] | skip); (try dsimp only); first | done | rfl))
        exact zq_ret s68 (hv_eqI (hv_vI rfl) (hv_vI rfl)) fun v H' e d => q v H' e (by rw [hF72]; exact d)
      · try dsimp only at her67
        refine z_ifx (b := (!(m_law_is_integer te65))) s69 (HT.is (ht_or (HT.is (ht_not (ht_B (K := K) (hv_isG (b := true) rfl s69.im.1 (fun _ h => h) T.k_BadDemand_FolioError))) (show _ = false by first | rfl | decide | simp)) (fun hb0 => (ht_or (HT.is (ht_not (ht_B (K := K) (hv_isG (b := true) rfl s69.im.1 (fun _ h => h) T.k_BadDemand_ValueError))) (show _ = false by first | rfl | decide | simp)) (fun hb1 => (ht_not (ht_B (K := K) (hv_callS0 te65 (hd_cons (hv_xf (x := te65) (i := 0) rfl s69.im.1 rfl (by decide +kernel) rfl) hd_nil) True.intro))))))) (show _ = (!(m_law_is_integer te65)) by first | rfl | decide | simp)) (fun hb73 Hs74 s74 => ?_) (fun hb73 Hs75 s75 => ?_)
        · have hb73P := hb73
          try simp only [decide_eq_true_eq, decide_eq_false_iff_not, Bool.not_eq_true', Bool.not_eq_false', Bool.and_eq_true, Bool.or_eq_true, Bool.or_eq_false_iff] at hb73P
          have hF76 : m_law script_ = false := (by subst hfound_63; subst hexpected_6; subst hdemands_4; subst hcount_2; first | (simp only [m_law, he59, her67, hb73, if_true, if_false, Bool.false_eq_true, decide_true, decide_false, Option.getD_some, Option.isNone_none, Option.isNone_some, Bool.not_true, Bool.not_false, ↓reduceIte]; done) | (rfl; done) | ((unfold m_law); (dsimp only); (first | rw [he59] | skip); (try dsimp only); (first | rw [her67] | skip); (try dsimp only); (first | rw [ifT hb73] | rw [ifF hb73] | skip); (try dsimp only); first | done | rfl) | (exfalso; simp at hb73; done))
          exact zq_ret s74 (hv_bl false) fun v H' e d => q v H' e (by rw [hF76]; exact d)
        · have hb73P := hb73
          try simp only [decide_eq_true_eq, decide_eq_false_iff_not, Bool.not_eq_true', Bool.not_eq_false', Bool.and_eq_true, Bool.or_eq_true, Bool.or_eq_false_iff] at hb73P
          refine z_asgIG s75 (hv_xf (x := te65) (i := 0) rfl s75.im.1 rfl (by decide +kernel) rfl) fun found_78 hfound_78 Hs77 s77 => ?_
          try dsimp only at hfound_78
          refine suite_end ?_
          have hF79 : m_law script_ = (decide (found_78 = expected_50)) := (by subst hfound_78; subst hfound_63; subst hexpected_6; subst hdemands_4; subst hcount_2; first | (simp only [m_law, he59, her67, hb73, if_true, if_false, Bool.false_eq_true, decide_true, decide_false, Option.getD_some, Option.isNone_none, Option.isNone_some, Bool.not_true, Bool.not_false, ↓reduceIte]; done) | (rfl; done) | ((unfold m_law); (dsimp only); (first | rw [he59] | skip); (try dsimp only); (first | rw [her67] | skip); (try dsimp only); (first | rw [ifT hb73] | rw [ifF hb73] | skip); (try dsimp only); first | done | rfl) | (exfalso; simp at hb73; done))
          exact zq_ret s77 (hv_eqI (hv_vI rfl) (hv_vI rfl)) fun v H' e d => q v H' e (by rw [hF79]; exact d)
end
/-- MATH -/
theorem cols_no {n w : Int} {ds : List (T4 Int Int Int Int)} (h : ∀ d ∈ ds, ¬ n < d.b) : ∃ b, m_columns ds n w = .ok b := by
  unfold m_columns
  rw [loopL_all' (enumL ds) (fun x hx => by
    obtain ⟨i, hi⟩ := List.mem_iff_getElem?.mp hx
    have e := enumL_at hi
    have hm : x.2 ∈ ds := List.mem_of_getElem? e.2
    unfold m_columns_l0
    dsimp only
    rw [if_neg (by simpa using h _ hm)])]
  exact ⟨_, rfl⟩
theorem loopL_first {α ρ S : Type} {f : S → α → Lp ρ S} {s : S} {r : ρ} : ∀ (xs : List α) (i : Nat) (x : α), xs[i]? = some x → f s x = .ret r → (∀ j y, j < i → xs[j]? = some y → f s y = .nxt s) → loopL f xs s = .inl r
  | [], i, x, h, _, _ => by simp at h
  | y :: ys, 0, x, h, hx, _ => by
    simp at h
    subst h
    rw [loopL, hx]
  | y :: ys, i + 1, x, h, hx, hb => by
    rw [loopL, hb 0 y (by omega) rfl]
    exact loopL_first ys i x (by simpa using h) hx fun j z hj hz => hb (j + 1) z (by omega) (by simpa using hz)
theorem cols_yes {n w : Int} {ds : List (T4 Int Int Int Int)} {i : Nat} {d : T4 Int Int Int Int} (h : ds[i]? = some d) (hd : n < d.b) (hb : ∀ j e, j < i → ds[j]? = some e → ¬ n < e.b) : m_columns ds n w = .error (i : Int) := by
  unfold m_columns
  rw [loopL_first (r := .error (i : Int)) (enumL ds) i ((i : Int), d) (enumL_get h) (by
    unfold m_columns_l0
    dsimp only
    rw [if_pos (by simpa using hd)]) (fun j y hj hy => by
    have e := enumL_at hy
    unfold m_columns_l0
    dsimp only
    rw [if_neg (by simpa using hb j _ hj e.2)])]
def St38 (n : Int) (i : Nat) (s : Int × List (T4 Int Int Int Int)) : Prop := s.2.length = i ∧ ((s.1 = -1 ∧ ∀ d ∈ s.2, ¬ n < d.b) ∨ ∃ (k : Nat) (d : T4 Int Int Int Int), s.1 = (k : Int) ∧ s.2[k]? = some d ∧ n < d.b ∧ ∀ j e, j < k → s.2[j]? = some e → ¬ n < e.b)
theorem st38_old {n : Int} {i : Nat} {s : Int × List (T4 Int Int Int Int)} (d : T4 Int Int Int Int) (h : St38 n i s) (hs : ¬ s.1 < 0 ∨ ¬ n < d.b) : St38 n (i + 1) (s.1, s.2 ++ [d]) := by
  obtain ⟨hl, h⟩ := h
  refine ⟨by rw [List.length_append, hl]; rfl, ?_⟩
  rcases h with ⟨h1, h2⟩ | ⟨k, e, h1, h2, h3, h4⟩
  · refine .inl ⟨h1, fun e he => ?_⟩
    rcases List.mem_append.mp he with he | he
    · exact h2 e he
    · obtain rfl := List.mem_singleton.mp he
      omega
  · have hk := (List.getElem?_eq_some_iff.mp h2).1
    refine .inr ⟨k, e, h1, ?_, h3, fun j x hj hx => h4 j x hj ?_⟩
    · dsimp only; rw [List.getElem?_append_left hk]; exact h2
    · dsimp only at hx; rw [List.getElem?_append_left (by omega)] at hx; exact hx
theorem st38_new {n : Int} {i : Nat} {s : Int × List (T4 Int Int Int Int)} (d : T4 Int Int Int Int) (h : St38 n i s) (hs : s.1 < 0) (hd : n < d.b) : St38 n (i + 1) ((i : Int), s.2 ++ [d]) := by
  obtain ⟨hl, h⟩ := h
  refine ⟨by rw [List.length_append, hl]; rfl, ?_⟩
  rcases h with ⟨h1, h2⟩ | ⟨k, e, h1, h2, h3, h4⟩
  · refine .inr ⟨i, d, rfl, ?_, hd, fun j x hj hx => ?_⟩
    · dsimp only; rw [List.getElem?_append_right (by omega), hl]; simp
    · dsimp only at hx; rw [List.getElem?_append_left (by omega)] at hx
      exact h2 x (List.mem_of_getElem? hx)
  · omega
theorem law_true (ns : List Int) (hl : ns.length ≤ 63) : m_law ns = true := by
  unfold m_law
  dsimp only
  generalize hn : (1 : Int) + (m_law_cell ns 0) % 16 = n
  have n1 : 1 ≤ n := by omega
  have key := loopN_ind (f := m_law_l0 ns n) (fun i s => St38 n i s) 0 (Int.toNat ((1 : Int) + ((m_law_cell ns (1 : Int)) % (8 : Int)))) ((-1 : Int), []) ⟨rfl, .inl ⟨rfl, fun d hd => by cases hd⟩⟩ (fun i s hi h => by
    unfold m_law_l0
    dsimp only
    split
    · split
      · rename_i h1 h2
        rw [show (0 : Int) + (i : Int) = (i : Int) by omega]
        exact st38_new _ h (by simpa using h2) (by dsimp only; omega)
      · rename_i h1 h2
        exact st38_old _ h (.inl (by simpa using h2))
    · refine st38_old _ h (.inr ?_)
      dsimp only
      have h0 := Int.emod_lt_of_pos ((m_law_draws (m_law_cell ns (3 + (0 + (i : Int)))) 3).getD (Int.toNat 0) 0) (show 0 < n by omega)
      have h1 := Int.emod_lt_of_pos ((m_law_draws (m_law_cell ns (3 + (0 + (i : Int)))) 3).getD (Int.toNat 1) 0) (show 0 < n - (m_law_draws (m_law_cell ns (3 + (0 + (i : Int)))) 3).getD (Int.toNat 0) 0 % n by omega)
      omega)
  generalize loopN (m_law_l0 ns n) (Int.toNat ((1 : Int) + ((m_law_cell ns (1 : Int)) % (8 : Int)))) (0 : Int) ((-1 : Int), []) = r at key
  obtain ⟨hl, h⟩ := key
  rcases h with ⟨h1, h2⟩ | ⟨k, e, h1, h2, h3, h4⟩
  · obtain ⟨b, hb⟩ := cols_no (w := m_law_cell ns 2 % 100) h2
    rw [hb, h1]
    rfl
  · rw [cols_yes h2 h3 h4, h1]
    dsimp only
    rw [if_neg (by simp [m_law_is_integer])]
    simp

theorem all_mk {w : World} {K : PySem.W.Frag} {h : Heap} {mg : Str → Option Value} {fa : Addr} (X : K.In h) (G : h.Ns mainGlobals mg) (hfa : mg "law" = some (.ref fa))
    {C_BadDemand : Addr} (aC_BadDemand : PySem.W.nsIn K mainGlobals "BadDemand" = some (some (.ref C_BadDemand)))
    {C_FolioError : Addr} (aC_FolioError : PySem.W.nsIn K mainGlobals "FolioError" = some (some (.ref C_FolioError)))
    {nm_BadDemand q_BadDemand : Str} {N_BadDemand : Addr} {bs_BadDemand bm_BadDemand : List Value} {sn_BadDemand : List Str} {sub_BadDemand : List Value} {ab_BadDemand : Bool} {col_BadDemand : Option Bool} {dd_BadDemand : Option Addr} {k0_BadDemand k1_BadDemand k2_BadDemand k3_BadDemand k5_BadDemand : Option Value}
    (lC_BadDemand : K.lookup C_BadDemand = some (excClassObj nm_BadDemand q_BadDemand C_BadDemand N_BadDemand bs_BadDemand bm_BadDemand true sn_BadDemand sub_BadDemand ab_BadDemand col_BadDemand dd_BadDemand k0_BadDemand k1_BadDemand k2_BadDemand k3_BadDemand k5_BadDemand "ValueError.__new__"))
    (saC_BadDemand : PySem.W.findIn K (.ref C_BadDemand) "__setattr__" = some (some (.builtin "object.__setattr__")))
    (exC_BadDemand : PySem.W.subIn K (.ref C_BadDemand) (.type "BaseException") = some true)
    (tyC_BadDemand : PySem.W.typeIn K (.ref C_BadDemand) = some (.type "type"))
    (kC_BadDemand : PySem.W.keepIn K (.ref C_BadDemand) = true)
    (noC_BadDemand : PySem.W.findIn K (.ref C_BadDemand) "at" = some none)
    (veC_BadDemand : PySem.W.subIn K (.ref C_BadDemand) (.type "ValueError") = some true)
    (suC_BadDemand : PySem.W.mroIn K C_BadDemand (.ref C_BadDemand) = some true)
    (anC_BadDemand : PySem.W.nsIn K cStatics "thirdparty.any" = some none)
    (spC_BadDemand : PySem.W.ks_superIn K C_BadDemand C_BadDemand "__init__" = some (some (.builtin "ValueError.__init__")))
    {f_BadDemand cc_BadDemand cda_BadDemand : Addr} {kV_BadDemand doc_BadDemand pm_BadDemand ct_BadDemand oc_BadDemand : Value} {an_BadDemand od_BadDemand : Option Addr} {osl_BadDemand : Array (Option Value)}
    (iC_BadDemand : PySem.W.findIn K (.ref C_BadDemand) "__init__" = some (some (.ref f_BadDemand)))
    (tI_BadDemand : PySem.W.typeIn K (.ref f_BadDemand) = some (.type "function"))
    (lk_BadDemand : K.lookup f_BadDemand = some ⟨oc_BadDemand, od_BadDemand, .func (PySem.W.fnX "__init__" "BadDemand.__init__" (defArgs st_BadDemand) (defBody st_BadDemand) (defScope st_BadDemand) [("__class__", cc_BadDemand)] .none kV_BadDemand doc_BadDemand pm_BadDemand an_BadDemand (.ref cda_BadDemand) ct_BadDemand), osl_BadDemand⟩)
    (hcd_BadDemand : PySem.W.codeIn K (.ref cda_BadDemand) "BadDemand.__init__" = true)
    {oc3_BadDemand : Value} {od3_BadDemand : Option Addr} {osl3_BadDemand : Array (Option Value)} (lcc_BadDemand : K.lookup cc_BadDemand = some ⟨oc3_BadDemand, od3_BadDemand, .cell (some (.ref C_BadDemand)), osl3_BadDemand⟩)
    {oc2_BadDemand : Value} {od2_BadDemand : Option Addr} {vs2_BadDemand : Array Value} {osl2_BadDemand : Array (Option Value)} (lcd_BadDemand : K.lookup cda_BadDemand = some ⟨oc2_BadDemand, od2_BadDemand, .fields vs2_BadDemand, osl2_BadDemand⟩)
    (zs_BadDemand : PySem.W.nsIn K mainGlobals "super" = some none) {file_BadDemand : Str} {tf_BadDemand : Tok} (hvs_BadDemand : vs2_BadDemand[2]? = some (.str file_BadDemand tf_BadDemand)) (hbm_BadDemand : PySem.HandSPX.refsVE bm_BadDemand = true) (hfile_BadDemand : ((PySem.Challenge.rw_folio_k38_demands_outside.prog.main.file : Str) == file_BadDemand) = true) (htop_BadDemand : (PySem.Challenge.rw_folio_k38_demands_outside.prog.main.scope.names.lookup ("super" : Str)).isSome = false)
    (xgC_BadDemand : PySem.W.findIn K (.ref C_BadDemand) "__getattribute__" = some (some (.builtin "BaseException.__getattribute__"))) (xkC_BadDemand : PySem.W.findIn K (.ref C_BadDemand) "__getattr__" = some none) (hdC_BadDemand : PySem.W.hasDictIn K C_BadDemand = true) (haC_BadDemand : PySem.W.findIn K (.ref C_BadDemand) "__class__" = some (some (.builtin "object.__class__")))
    (hnC_BadDemand : PySem.W.specialIn K (.builtin "object.__class__") "__get__" = some (some (.builtin "getset_descriptor.__get__"))) (htC_BadDemand : PySem.W.takesIn K (.builtin "object.__class__") = some true) (hmC_BadDemand : PySem.W.mroIn K C_BadDemand (.type "object") = some true)
    (eC_BadDemand : PySem.W.exmOne K (.ref C_BadDemand) (.ref C_BadDemand) = some true)
    (k_BadDemand_FolioError : PySem.W.kitOne K (.ref C_BadDemand) (.ref C_FolioError) = some true)
    (k_BadDemand_ValueError : PySem.W.kitOne K (.ref C_BadDemand) (.type "ValueError") = some true)
    {f_columns : Addr} {od_columns an_columns : Option Addr} {sl_columns : Array (Option Value)} {oc_columns kV_columns dc_columns pm_columns cd_columns ct_columns : Value}
    (a_columns : PySem.W.nsIn K mainGlobals "columns" = some (some (.ref f_columns))) (l_columns : K.lookup f_columns = some ⟨oc_columns, od_columns, .func (PySem.W.fnOf "columns" "columns" (defArgs (topS 4)) (defBody (topS 4)) (defScope (topS 4)) .none kV_columns dc_columns pm_columns an_columns cd_columns ct_columns), sl_columns⟩) (c_columns : PySem.W.codeIn K cd_columns "columns" = true) (k_columns : PySem.W.keepIn K (.ref f_columns) = true)
    {f_boundaries : Addr} {od_boundaries an_boundaries : Option Addr} {sl_boundaries : Array (Option Value)} {oc_boundaries kV_boundaries dc_boundaries pm_boundaries cd_boundaries ct_boundaries : Value}
    (a_boundaries : PySem.W.nsIn K mainGlobals "boundaries" = some (some (.ref f_boundaries))) (l_boundaries : K.lookup f_boundaries = some ⟨oc_boundaries, od_boundaries, .func (PySem.W.fnOf "boundaries" "boundaries" (defArgs (topS 5)) (defBody (topS 5)) (defScope (topS 5)) .none kV_boundaries dc_boundaries pm_boundaries an_boundaries cd_boundaries ct_boundaries), sl_boundaries⟩) (c_boundaries : PySem.W.codeIn K cd_boundaries "boundaries" = true) (k_boundaries : PySem.W.keepIn K (.ref f_boundaries) = true)
    {f_chosen_boundaries : Addr} {od_chosen_boundaries an_chosen_boundaries : Option Addr} {sl_chosen_boundaries : Array (Option Value)} {oc_chosen_boundaries kV_chosen_boundaries dc_chosen_boundaries pm_chosen_boundaries cd_chosen_boundaries ct_chosen_boundaries : Value}
    (a_chosen_boundaries : PySem.W.nsIn K mainGlobals "chosen_boundaries" = some (some (.ref f_chosen_boundaries))) (l_chosen_boundaries : K.lookup f_chosen_boundaries = some ⟨oc_chosen_boundaries, od_chosen_boundaries, .func (PySem.W.fnOf "chosen_boundaries" "chosen_boundaries" (defArgs (topS 6)) (defBody (topS 6)) (defScope (topS 6)) .none kV_chosen_boundaries dc_chosen_boundaries pm_chosen_boundaries an_chosen_boundaries cd_chosen_boundaries ct_chosen_boundaries), sl_chosen_boundaries⟩) (c_chosen_boundaries : PySem.W.codeIn K cd_chosen_boundaries "chosen_boundaries" = true) (k_chosen_boundaries : PySem.W.keepIn K (.ref f_chosen_boundaries) = true)
    {f_law_cell : Addr} {od_law_cell an_law_cell : Option Addr} {sl_law_cell : Array (Option Value)} {oc_law_cell kV_law_cell dc_law_cell pm_law_cell cd_law_cell ct_law_cell : Value}
    (a_law_cell : PySem.W.nsIn K mainGlobals "_law_cell" = some (some (.ref f_law_cell))) (l_law_cell : K.lookup f_law_cell = some ⟨oc_law_cell, od_law_cell, .func (PySem.W.fnOf "_law_cell" "_law_cell" (defArgs (topS 8)) (defBody (topS 8)) (defScope (topS 8)) .none kV_law_cell dc_law_cell pm_law_cell an_law_cell cd_law_cell ct_law_cell), sl_law_cell⟩) (c_law_cell : PySem.W.codeIn K cd_law_cell "_law_cell" = true) (k_law_cell : PySem.W.keepIn K (.ref f_law_cell) = true)
    {f_law_draws : Addr} {od_law_draws an_law_draws : Option Addr} {sl_law_draws : Array (Option Value)} {oc_law_draws kV_law_draws dc_law_draws pm_law_draws cd_law_draws ct_law_draws : Value}
    (a_law_draws : PySem.W.nsIn K mainGlobals "_law_draws" = some (some (.ref f_law_draws))) (l_law_draws : K.lookup f_law_draws = some ⟨oc_law_draws, od_law_draws, .func (PySem.W.fnOf "_law_draws" "_law_draws" (defArgs (topS 9)) (defBody (topS 9)) (defScope (topS 9)) .none kV_law_draws dc_law_draws pm_law_draws an_law_draws cd_law_draws ct_law_draws), sl_law_draws⟩) (c_law_draws : PySem.W.codeIn K cd_law_draws "_law_draws" = true) (k_law_draws : PySem.W.keepIn K (.ref f_law_draws) = true)
    {f_law_is_integer : Addr} {od_law_is_integer an_law_is_integer : Option Addr} {sl_law_is_integer : Array (Option Value)} {oc_law_is_integer kV_law_is_integer dc_law_is_integer pm_law_is_integer cd_law_is_integer ct_law_is_integer : Value}
    (a_law_is_integer : PySem.W.nsIn K mainGlobals "_law_is_integer" = some (some (.ref f_law_is_integer))) (l_law_is_integer : K.lookup f_law_is_integer = some ⟨oc_law_is_integer, od_law_is_integer, .func (PySem.W.fnOf "_law_is_integer" "_law_is_integer" (defArgs (topS 10)) (defBody (topS 10)) (defScope (topS 10)) .none kV_law_is_integer dc_law_is_integer pm_law_is_integer an_law_is_integer cd_law_is_integer ct_law_is_integer), sl_law_is_integer⟩) (c_law_is_integer : PySem.W.codeIn K cd_law_is_integer "_law_is_integer" = true) (k_law_is_integer : PySem.W.keepIn K (.ref f_law_is_integer) = true)
    {f_law : Addr} {od_law an_law : Option Addr} {sl_law : Array (Option Value)} {oc_law kV_law dc_law pm_law cd_law ct_law : Value}
    (a_law : PySem.W.nsIn K mainGlobals "law" = some (some (.ref f_law))) (l_law : K.lookup f_law = some ⟨oc_law, od_law, .func (PySem.W.fnOf "law" "law" (defArgs (topS 11)) (defBody (topS 11)) (defScope (topS 11)) .none kV_law dc_law pm_law an_law cd_law ct_law), sl_law⟩) (c_law : PySem.W.codeIn K cd_law "law" = true) (k_law : PySem.W.keepIn K (.ref f_law) = true)
    (z_ValueError : PySem.W.nsIn K mainGlobals "ValueError" = some none)
    (z_bool : PySem.W.nsIn K mainGlobals "bool" = some none)
    (z_enumerate : PySem.W.nsIn K mainGlobals "enumerate" = some none)
    (z_int : PySem.W.nsIn K mainGlobals "int" = some none)
    (z_isinstance : PySem.W.nsIn K mainGlobals "isinstance" = some none)
    (z_len : PySem.W.nsIn K mainGlobals "len" = some none)
    (z_list : PySem.W.nsIn K mainGlobals "list" = some none)
    (z_max : PySem.W.nsIn K mainGlobals "max" = some none)
    (z_range : PySem.W.nsIn K mainGlobals "range" = some none)
    (z_zip : PySem.W.nsIn K mainGlobals "zip" = some none) :
    ∃ fd : FuncData, (∀ (s : Shared) (v : Value), BindsTo s fd ⟨[v], []⟩ [("script", v)]) ∧ ∀ base : Heap, K.In base → base.Ns mainGlobals mg → FnOk PySem.Challenge.rw_folio_k38_demands_outside.prog w K mg base CX0 4 fa fd ["script"] (sp_law K) := by
  have e := hfa.symm.trans (PySem.W.mg_of X G a_law)
  cases e
  have T_BadDemand : OexC K C_BadDemand := ⟨⟨nm_BadDemand, q_BadDemand, N_BadDemand, bs_BadDemand, bm_BadDemand, sn_BadDemand, sub_BadDemand, ab_BadDemand, col_BadDemand, dd_BadDemand, k0_BadDemand, k1_BadDemand, k2_BadDemand, k3_BadDemand, k5_BadDemand, lC_BadDemand, hbm_BadDemand⟩, saC_BadDemand, exC_BadDemand, tyC_BadDemand, kC_BadDemand⟩
  have Z_BadDemand : SupC K C_BadDemand f_BadDemand cda_BadDemand cc_BadDemand (PySem.W.fnX "__init__" "BadDemand.__init__" (defArgs st_BadDemand) (defBody st_BadDemand) (defScope st_BadDemand) [("__class__", cc_BadDemand)] .none kV_BadDemand doc_BadDemand pm_BadDemand an_BadDemand (.ref cda_BadDemand) ct_BadDemand) "self" file_BadDemand := ⟨⟨_, _, _, lk_BadDemand⟩, ⟨_, rfl, rfl⟩, ⟨_, _, _, _, _, lcd_BadDemand, hvs_BadDemand⟩, ⟨_, _, _, lcc_BadDemand⟩, suC_BadDemand, anC_BadDemand, spC_BadDemand, veC_BadDemand⟩
  have cl_BadDemand : (PySem.W.clsIn K C_BadDemand).isSome = true := by unfold PySem.W.clsIn; rw [lC_BadDemand]; rfl
  have F_columns := fun_mk (st := (topS 4)) l_columns c_columns k_columns
  have B_columns := F_columns.binds (ps := ["demands", "count", "width"]) fun _ _ _ _ _ _ us hl => match us, hl with | [_, _, _], _ => rfl
  have F_boundaries := fun_mk (st := (topS 5)) l_boundaries c_boundaries k_boundaries
  have B_boundaries := F_boundaries.binds (ps := ["demands", "count"]) fun _ _ _ _ _ _ us hl => match us, hl with | [_, _], _ => rfl
  have F_chosen_boundaries := fun_mk (st := (topS 6)) l_chosen_boundaries c_chosen_boundaries k_chosen_boundaries
  have B_chosen_boundaries := F_chosen_boundaries.binds (ps := ["least", "wide", "width"]) fun _ _ _ _ _ _ us hl => match us, hl with | [_, _, _], _ => rfl
  have F_law_cell := fun_mk (st := (topS 8)) l_law_cell c_law_cell k_law_cell
  have B_law_cell := F_law_cell.binds (ps := ["script", "k"]) fun _ _ _ _ _ _ us hl => match us, hl with | [_, _], _ => rfl
  have F_law_draws := fun_mk (st := (topS 9)) l_law_draws c_law_draws k_law_draws
  have B_law_draws := F_law_draws.binds (ps := ["cell", "count"]) fun _ _ _ _ _ _ us hl => match us, hl with | [_, _], _ => rfl
  have F_law_is_integer := fun_mk (st := (topS 10)) l_law_is_integer c_law_is_integer k_law_is_integer
  have B_law_is_integer := F_law_is_integer.binds (ps := ["actual"]) fun _ _ _ _ _ _ us hl => match us, hl with | [_], _ => rfl
  have F_law := fun_mk (st := (topS 11)) l_law c_law k_law
  have B_law := F_law.binds (ps := ["script"]) fun _ _ _ _ _ _ us hl => match us, hl with | [_], _ => rfl
  refine ⟨PySem.W.fnOf "law" "law" (defArgs (topS 11)) (defBody (topS 11)) (defScope (topS 11)) .none kV_law dc_law pm_law an_law cd_law ct_law, fun s v => .of_eq rfl, fun base _ _ => ?_⟩
  exact ok_law ⟨_, PySem.W.mg_of X G aC_BadDemand, _, PySem.W.mg_of X G aC_FolioError, T_BadDemand, _, _, iC_BadDemand, tI_BadDemand, fun w base => ini_BadDemand lk_BadDemand hcd_BadDemand T_BadDemand Z_BadDemand noC_BadDemand hfile_BadDemand htop_BadDemand (PySem.W.mg_none_of X G zs_BadDemand), bin_BadDemand, ⟨xgC_BadDemand, xkC_BadDemand, exC_BadDemand, hdC_BadDemand⟩, ⟨xgC_BadDemand, xkC_BadDemand, exC_BadDemand, hdC_BadDemand, haC_BadDemand, hnC_BadDemand, htC_BadDemand, hmC_BadDemand⟩, cl_BadDemand, eC_BadDemand, noC_BadDemand, k_BadDemand_FolioError, k_BadDemand_ValueError, _, _, F_columns, B_columns, PySem.W.mg_of X G a_columns, _, _, F_boundaries, B_boundaries, PySem.W.mg_of X G a_boundaries, _, _, F_chosen_boundaries, B_chosen_boundaries, PySem.W.mg_of X G a_chosen_boundaries, _, _, F_law_cell, B_law_cell, PySem.W.mg_of X G a_law_cell, _, _, F_law_draws, B_law_draws, PySem.W.mg_of X G a_law_draws, _, _, F_law_is_integer, B_law_is_integer, PySem.W.mg_of X G a_law_is_integer, _, _, F_law, B_law, PySem.W.mg_of X G a_law, PySem.W.mg_none_of X G z_ValueError, PySem.W.mg_none_of X G z_bool, PySem.W.mg_none_of X G z_enumerate, PySem.W.mg_none_of X G z_int, PySem.W.mg_none_of X G z_isinstance, PySem.W.mg_none_of X G z_len, PySem.W.mg_none_of X G z_list, PySem.W.mg_none_of X G z_max, PySem.W.mg_none_of X G z_range, PySem.W.mg_none_of X G z_zip⟩
end My
open PySem PySem.W PyProof.Rows
set_option maxHeartbeats 0 in
theorem PySem.Challenge.cw_folio_k38_demands_outside_holds : PySem.Challenge.rw_folio_k38_demands_outside.Holds := by
  w_on; o_law; k_head; (case hw => w_witness2)
  k_fill
  refine L2.walk_of (l := PySem.Challenge.rw_folio_k38_demands_outside) (n := 63) (k := 4) (x := "script") (CX := fun _ => L2.CX0) (sp := fun w => My.sp_law _) rfl (by decide) rfl ⟨rfl, by decide, by decide⟩ (fun w h Y => PySem.W.kIn_of Y) ?F (fun _ _ a ns hl _ hS => Ly.law_sp hS True.intro (My.law_true ns hl)) (fun _ _ _ _ _ h => h)
  case F =>
    intro w mg fa h KX G hmg
    refine' My.all_mk KX G hmg ?aC_BadDemand ?aC_FolioError ?lC_BadDemand ?saC_BadDemand ?exC_BadDemand ?tyC_BadDemand ?kC_BadDemand ?noC_BadDemand ?veC_BadDemand ?suC_BadDemand ?anC_BadDemand ?spC_BadDemand ?iC_BadDemand ?tI_BadDemand ?lk_BadDemand ?hcd_BadDemand ?lcc_BadDemand ?lcd_BadDemand ?zs_BadDemand ?hvs_BadDemand ?hbm_BadDemand ?hfile_BadDemand ?htop_BadDemand ?xgC_BadDemand ?xkC_BadDemand ?hdC_BadDemand ?haC_BadDemand ?hnC_BadDemand ?htC_BadDemand ?hmC_BadDemand ?eC_BadDemand ?k_BadDemand_FolioError ?k_BadDemand_ValueError ?a_columns ?l_columns ?c_columns ?k_columns ?a_boundaries ?l_boundaries ?c_boundaries ?k_boundaries ?a_chosen_boundaries ?l_chosen_boundaries ?c_chosen_boundaries ?k_chosen_boundaries ?a_law_cell ?l_law_cell ?c_law_cell ?k_law_cell ?a_law_draws ?l_law_draws ?c_law_draws ?k_law_draws ?a_law_is_integer ?l_law_is_integer ?c_law_is_integer ?k_law_is_integer ?a_law ?l_law ?c_law ?k_law ?z_ValueError ?z_bool ?z_enumerate ?z_int ?z_isinstance ?z_len ?z_list ?z_max ?z_range ?z_zip
    (case aC_BadDemand => k_is); (case aC_FolioError => k_is); (case lC_BadDemand => k_is); (case saC_BadDemand => k_is); (case exC_BadDemand => k_is); (case tyC_BadDemand => k_is); (case kC_BadDemand => k_is); (case noC_BadDemand => k_is); (case veC_BadDemand => k_is); (case suC_BadDemand => k_is); (case anC_BadDemand => k_is); (case iC_BadDemand => k_is); (case tI_BadDemand => k_is); (case lk_BadDemand => k_is); (case hcd_BadDemand => k_is); (case lcc_BadDemand => k_is); (case lcd_BadDemand => k_is); (case zs_BadDemand => k_is); (case xgC_BadDemand => k_is); (case xkC_BadDemand => k_is); (case hdC_BadDemand => k_is); (case haC_BadDemand => k_is); (case hnC_BadDemand => k_is); (case htC_BadDemand => k_is); (case hmC_BadDemand => k_is); (case a_columns => k_is); (case l_columns => k_is); (case c_columns => k_is); (case k_columns => k_is); (case a_boundaries => k_is); (case l_boundaries => k_is); (case c_boundaries => k_is); (case k_boundaries => k_is); (case a_chosen_boundaries => k_is); (case l_chosen_boundaries => k_is); (case c_chosen_boundaries => k_is); (case k_chosen_boundaries => k_is); (case a_law_cell => k_is); (case l_law_cell => k_is); (case c_law_cell => k_is); (case k_law_cell => k_is); (case a_law_draws => k_is); (case l_law_draws => k_is); (case c_law_draws => k_is); (case k_law_draws => k_is); (case a_law_is_integer => k_is); (case l_law_is_integer => k_is); (case c_law_is_integer => k_is); (case k_law_is_integer => k_is); (case a_law => k_is); (case l_law => k_is); (case c_law => k_is); (case k_law => k_is); (case z_ValueError => k_is); (case z_bool => k_is); (case z_enumerate => k_is); (case z_int => k_is); (case z_isinstance => k_is); (case z_len => k_is); (case z_list => k_is); (case z_max => k_is); (case z_range => k_is); (case z_zip => k_is); (case spC_BadDemand => ks_is); (case hvs_BadDemand => rfl); (case hbm_BadDemand => rfl); (case hfile_BadDemand => decide +kernel); (case htop_BadDemand => decide +kernel); (case eC_BadDemand => first | k_is | kernel_rfl); (case k_BadDemand_FolioError => first | k_is | kit_is | kernel_rfl); (case k_BadDemand_ValueError => first | k_is | kit_is | kernel_rfl)
