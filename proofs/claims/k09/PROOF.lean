import PyProof.Rows.All
import Wide.All
import OpenK.AllK
import Wide.FinOn
import HandS.ForMost
import HandS.Evl
import HandS.IsInst
import HandS.EndBits
import HandS.Wide
import KE.DatumMoreOrd
import HandS.Walk
import HandS.StrMore
import PyProof.StrLawsFrom
import KE.IntTextLaws
import PyProof.Rows.RegStrFacts
import PyProof.Rows.StrCase
import HandS.Replace
import HandS.ReplaceLit
import HandS.ReplaceDef
import HandS.Words
import PyProof.Rows.StrStrike
import HandS.Dict
import HandS.DictComp
import HandS.More
import HandS.TupAny
import HandS.Star
import HandS.Zip
import HandS.RevRange
import HandS.Style
import HandS.MakeKwOnly
import HandS.Defaults
import KE.GoesZip
import KE.GoesEnum
import KE.GoesMore
import HandS.Nested
import HandS.ExcInit
import HandS.FStr
import HandS.WordsExc
import HandS.ExcIs
import HandS.ExcField
import HandS.ExcCtx
import HandS.HotCalls
import KE.KExcSuper
import KE.KExcIs
import HandS.SortKw
import HandS.Iter
import KE.GoesEnumKw
import PySem.Challenge.RW_folio_k09_entries
set_option Elab.async false
set_option linter.all false
set_option maxRecDepth 100000
set_option maxHeartbeats 4000000
set_option Elab.async false
namespace Ly
open PySem PySem.Spec PyProof.Rows L2 Evl
open PySem.W (Datum DatumOrd Tup T3 T4)

/-! ### data that is held -/
/-- the data of this layer: plain ones, dicts with plain keys, objects by their fields -/
inductive Xd where
  | none
  | bool (b : Bool)
  | int (i : Int)
  | str (x : Str)
  | list (ds : List Xd)
  | tuple (ds : List Xd)
  | dict (ks : List Key) (ds : List Xd)
  | obj (c : Str) (ns : List Str) (ds : List Xd)
  | ptr (a : Addr)
  | exd (ns : List Str) (ds : List Xd)
  | dictT (ks : List (List Key)) (ds : List Xd)
mutual
inductive Xp (K : PySem.W.Frag) (H : Hp) : V → Xd → Prop
  | non : Xp K H .non .none
  | bl (b : Bool) : Xp K H (.bl b) (.bool b)
  | int (i : Int) : Xp K H (.int i) (.int i)
  | str (x : Str) : Xp K H (.str x) (.str x)
  | lst {a : Addr} {xs : List V} {ds : List Xd} : SqL K H a xs → XpAll K H xs ds → Xp K H (.ref a) (.list ds)
  | tup {a : Addr} {xs : List V} {ds : List Xd} : SqT K H a xs → XpAll K H xs ds → Xp K H (.ref a) (.tuple ds)
  | dic {a : Addr} {kvs : List (Key × V)} {vs : List V} {ks : List Key} {ds : List Xd} : Rd H a (.dK kvs) → kvs.map (·.1) = ks → kvs.map (·.2) = vs → XpAll K H vs ds → Xp K H (.ref a) (.dict ks ds)
  | obj {a C dx : Addr} {fs : List (Str × V)} {c : Str} {vs : List V} {ns : List Str} {ds : List Xd} : PySem.W.nsIn K mainGlobals c = some (some (.ref C)) → H a = some (.ins C dx fs) → fs.map (·.1) = ns → fs.map (·.2) = vs → XpAll K H vs ds → Xp K H (.ref a) (.obj c ns ds)
  | ptr (a : Addr) : Xp K H (.ref a) (.ptr a)
  | exd {a : Addr} {fs : List (Str × V)} {vs : List V} {ns : List Str} {ds : List Xd} : H a = some (.xd fs) → fs.map (·.1) = ns → fs.map (·.2) = vs → XpAll K H vs ds → Xp K H (.ref a) (.exd ns ds)
  | dicT {a : Addr} {kvs : List (List Key × V)} {vs : List V} {ks : List (List Key)} {ds : List Xd} : Rd H a (.dT kvs) → kvs.map (·.1) = ks → kvs.map (·.2) = vs → XpAll K H vs ds → Xp K H (.ref a) (.dictT ks ds)
inductive XpAll (K : PySem.W.Frag) (H : Hp) : List V → List Xd → Prop
  | nil : XpAll K H [] []
  | cons {v : V} {vs : List V} {d : Xd} {ds : List Xd} : Xp K H v d → XpAll K H vs ds → XpAll K H (v :: vs) (d :: ds)
end
theorem ex_rd {H H' : Hp} (e : Ex H H') {a : Addr} {u : HO} (h : Rd H a u) : Rd H' a u := by
  rcases h with h | ⟨o, h⟩
  · exact .inl (e _ _ h)
  · exact .inr ⟨o, e _ _ h⟩
mutual
theorem dp_mono {K : PySem.W.Frag} {H H' : Hp} (e : Ex H H') : ∀ {v : V} {d : Xd}, Xp K H v d → Xp K H' v d
  | _, _, .non => .non
  | _, _, .bl b => .bl b
  | _, _, .int i => .int i
  | _, _, .str x => .str x
  | _, _, .lst h a => .lst (ex_l e h) (dpa_mono e a)
  | _, _, .tup h a => .tup (ex_t e h) (dpa_mono e a)
  | _, _, .dic h k v a => .dic (ex_rd e h) k v (dpa_mono e a)
  | _, _, .obj c h k v a => .obj c (e _ _ h) k v (dpa_mono e a)
  | _, _, .ptr a => .ptr a
  | _, _, .exd h k v a => .exd (e _ _ h) k v (dpa_mono e a)
  | _, _, .dicT h k v a => .dicT (ex_rd e h) k v (dpa_mono e a)
theorem dpa_mono {K : PySem.W.Frag} {H H' : Hp} (e : Ex H H') : ∀ {vs : List V} {ds : List Xd}, XpAll K H vs ds → XpAll K H' vs ds
  | _, _, .nil => .nil
  | _, _, .cons a b => .cons (dp_mono e a) (dpa_mono e b)
end
/-- a Lean type whose things are data -/
class Dx (α : Type) [DecidableEq α] where
  toX : α → Xd
section
variable {α β γ δ : Type} [DecidableEq α] [Dx α] [DecidableEq β] [Dx β] [DecidableEq γ] [Dx γ] [DecidableEq δ] [Dx δ]
instance : Dx Int := ⟨.int⟩
instance : Dx Bool := ⟨.bool⟩
instance : Dx Str := ⟨.str⟩
instance : Dx Unit := ⟨fun _ => .none⟩
instance : Dx (List α) := ⟨fun xs => .list (xs.map Dx.toX)⟩
instance : Dx (Tup α) := ⟨fun xs => .tuple (xs.items.map Dx.toX)⟩
instance : Dx (α × β) := ⟨fun p => .tuple [Dx.toX p.1, Dx.toX p.2]⟩
instance : Dx (T3 α β γ) := ⟨fun p => .tuple [Dx.toX p.a, Dx.toX p.b, Dx.toX p.c]⟩
instance : Dx (T4 α β γ δ) := ⟨fun p => .tuple [Dx.toX p.a, Dx.toX p.b, Dx.toX p.c, Dx.toX p.d]⟩
instance : Dx (Option α) := ⟨fun p => match p with | none => .none | some x => Dx.toX x⟩
/-- no None among them -/
class SomeX (α : Type) [DecidableEq α] [Dx α] : Prop where
  some : ∀ x : α, Dx.toX x ≠ Xd.none
instance : SomeX Int := ⟨fun _ e => by cases e⟩
instance : SomeX Bool := ⟨fun _ e => by cases e⟩
instance : SomeX Str := ⟨fun _ e => by cases e⟩
instance : SomeX (List α) := ⟨fun _ e => by cases e⟩
instance : SomeX (Tup α) := ⟨fun _ e => by cases e⟩
instance : SomeX (α × β) := ⟨fun _ e => by cases e⟩
instance : SomeX (T3 α β γ) := ⟨fun _ e => by cases e⟩
instance : SomeX (T4 α β γ δ) := ⟨fun _ e => by cases e⟩
end
/-- data of the library's own kind: what == and < lean on -/
class DxD (α : Type) [DecidableEq α] [Dx α] [Datum α] : Prop where
  link : ∀ {K : PySem.W.Frag} {H : Hp} {v : V} {x : α}, Xp K H v (Dx.toX x) → Dp K H v (Datum.toD x)
section
variable {α β γ δ : Type} [DecidableEq α] [Dx α] [Datum α] [DxD α] [DecidableEq β] [Dx β] [Datum β] [DxD β] [DecidableEq γ] [Dx γ] [Datum γ] [DxD γ] [DecidableEq δ] [Dx δ] [Datum δ] [DxD δ]
theorem link_all {K : PySem.W.Frag} {H : Hp} : ∀ {xs : List α} {vs : List V}, XpAll K H vs (xs.map Dx.toX) → DpAll K H vs (xs.map Datum.toD)
  | [], _, h => by cases h; exact .nil
  | x :: xs, _, h => by
    cases h with
    | cons a b => exact .cons (DxD.link a) (link_all b)
instance : DxD Int := ⟨fun h => by cases h; exact .int _⟩
instance : DxD Bool := ⟨fun h => by cases h; exact .bl _⟩
instance : DxD Str := ⟨fun h => by cases h; exact .str _⟩
instance : DxD (List α) := ⟨fun h => by cases h with | lst s a => exact .lst s (link_all a)⟩
instance : DxD (Tup α) := ⟨fun h => by cases h with | tup s a => exact .tup s (link_all a)⟩
instance : DxD (α × β) := ⟨fun h => by
  cases h with
  | tup s a =>
    cases a with
    | cons a1 a =>
      cases a with
      | cons a2 a =>
        cases a
        exact .tup s (.cons (DxD.link a1) (.cons (DxD.link a2) .nil))⟩
instance : DxD (T3 α β γ) := ⟨fun h => by
  cases h with
  | tup s a =>
    cases a with
    | cons a1 a =>
      cases a with
      | cons a2 a =>
        cases a with
        | cons a3 a =>
          cases a
          exact .tup s (.cons (DxD.link a1) (.cons (DxD.link a2) (.cons (DxD.link a3) .nil)))⟩
instance : DxD (T4 α β γ δ) := ⟨fun h => by
  cases h with
  | tup s a =>
    cases a with
    | cons a1 a =>
      cases a with
      | cons a2 a =>
        cases a with
        | cons a3 a =>
          cases a with
          | cons a4 a =>
            cases a
            exact .tup s (.cons (DxD.link a1) (.cons (DxD.link a2) (.cons (DxD.link a3) (.cons (DxD.link a4) .nil))))⟩
end
/-! ### masks -/
theorem dpa_len {K : PySem.W.Frag} {H : Hp} : ∀ {vs : List V} {ds : List Xd}, XpAll K H vs ds → vs.length = ds.length
  | _, _, .nil => rfl
  | _, _, .cons _ b => by rw [List.length_cons, List.length_cons, dpa_len b]
theorem dpa_at {K : PySem.W.Frag} {H : Hp} : ∀ {vs : List V} {ds : List Xd} {i : Nat} {d : Xd}, XpAll K H vs ds → ds[i]? = some d → ∃ v, vs[i]? = some v ∧ Xp K H v d
  | _, _, i, d, .nil, e => by simp at e
  | _, _, 0, d, .cons a b, e => by simp at e; subst e; exact ⟨_, rfl, a⟩
  | _, _, i + 1, d, .cons a b, e => by
    obtain ⟨v, h1, h2⟩ := dpa_at (i := i) (d := d) b (by simpa using e)
    exact ⟨v, by simpa using h1, h2⟩
theorem dpa_app {K : PySem.W.Frag} {H : Hp} : ∀ {vs ws : List V} {ds es : List Xd}, XpAll K H vs ds → XpAll K H ws es → XpAll K H (vs ++ ws) (ds ++ es)
  | _, _, _, _, .nil, h => h
  | _, _, _, _, .cons a b, h => .cons a (dpa_app b h)

variable {K : PySem.W.Frag}
/-- v holds x -/
def Dt {α : Type} [DecidableEq α] [Dx α] (K : PySem.W.Frag) (H : Hp) (v : V) (x : α) : Prop := Xp K H v (Dx.toX x)
def Dts {α : Type} [DecidableEq α] [Dx α] (K : PySem.W.Frag) (H : Hp) (vs : List V) (xs : List α) : Prop := XpAll K H vs (xs.map Dx.toX)
/-- the heap without the objects of M -/
def msk (M : List Addr) (H : Hp) : Hp := fun a => if a ∈ M then none else H a
def MOk (M : List Addr) (H : Hp) : Prop := ∀ l ∈ M, H l ≠ none
section
variable {α : Type} [DecidableEq α] [Dx α] {H H1 H2 : Hp} {M N : List Addr} {v : V} {x : α}
theorem msk_in {a : Addr} (h : a ∈ M) : msk M H a = none := by unfold msk; rw [if_pos h]
theorem msk_out {a : Addr} (h : a ∉ M) : msk M H a = H a := by unfold msk; rw [if_neg h]
theorem msk_nil : msk [] H = H := by funext a; unfold msk; simp
theorem msk_ex (e : Ex H H1) : Ex (msk M H) (msk M H1) := fun a o h => by
  by_cases q : a ∈ M
  · rw [msk_in q] at h; cases h
  · rw [msk_out q] at h ⊢; exact e a o h
theorem msk_le : Ex (msk M H) H := fun a o h => by
  by_cases q : a ∈ M
  · rw [msk_in q] at h; cases h
  · rw [msk_out q] at h; exact h
theorem msk_sub (s : ∀ a ∈ N, a ∈ M) : Ex (msk M H) (msk N H) := fun a o h => by
  by_cases q : a ∈ M
  · rw [msk_in q] at h; cases h
  · rw [msk_out q] at h
    rw [msk_out fun z => q (s a z)]
    exact h
theorem msk_upd {l : Addr} {o : HO} (h : l ∈ M) : msk M (upd H l o) = msk M H := by
  funext a
  by_cases q : a ∈ M
  · rw [msk_in q, msk_in q]
  · rw [msk_out q, msk_out q, upd_ne (fun z => q (by rw [z]; exact h))]
theorem msk_new {p : Addr} {o : HO} (h : H p = none) : Ex (msk M H) (msk (p :: M) (upd H p o)) := fun a u e => by
  by_cases q : a ∈ M
  · rw [msk_in q] at e; cases e
  · rw [msk_out q] at e
    have n : a ≠ p := ne_of_none e h
    rw [msk_out (by simp [n, q]), upd_ne n]
    exact e
theorem MOk.ex (e : Ex H H1) (m : MOk M H) : MOk M H1 := fun l hl z => by
  have := m l hl
  cases q : H l with
  | none => exact this q
  | some o => rw [e l o q] at z; cases z
theorem MOk.nin {p : Addr} (m : MOk M H) (h : H p = none) : p ∉ M := fun z => m p z h
theorem msk_at {p : Addr} {o : HO} (m : MOk M H) (h : H p = none) : msk M (upd H p o) p = some o := by
  rw [msk_out (m.nin h), upd_same]
theorem Dt.mono (e : Ex H H1) (h : Dt K H v x) : Dt K H1 v x := dp_mono e h
theorem Dts.mono {vs : List V} {xs : List α} (e : Ex H H1) (h : Dts K H vs xs) : Dts K H1 vs xs := dpa_mono e h
theorem Dts.len {vs : List V} {xs : List α} (h : Dts K H vs xs) : vs.length = xs.length := by
  have := dpa_len h
  rwa [List.length_map] at this
theorem Dts.nil : Dts K H [] ([] : List α) := XpAll.nil
theorem Dts.cons {vs : List V} {xs : List α} (a : Dt K H v x) (b : Dts K H vs xs) : Dts K H (v :: vs) (x :: xs) := XpAll.cons a b
theorem Dts.app {vs ws : List V} {xs ys : List α} (a : Dts K H vs xs) (b : Dts K H ws ys) : Dts K H (vs ++ ws) (xs ++ ys) := by
  unfold Dts
  rw [List.map_append]
  exact dpa_app a b
theorem Dts.snoc {vs : List V} {xs : List α} (b : Dts K H vs xs) (a : Dt K H v x) : Dts K H (vs ++ [v]) (xs ++ [x]) := b.app (XpAll.cons a XpAll.nil)
theorem Dts.at {vs : List V} {xs : List α} {i : Nat} {x : α} (h : Dts K H vs xs) (e : xs[i]? = some x) : ∃ v, vs[i]? = some v ∧ Dt K H v x :=
  dpa_at h (by rw [List.getElem?_map, e]; rfl)
theorem Dt.int {i : Int} (h : Dt K H v i) : v = .int i := by
  cases (show Xp K H v (.int i) from h); rfl
theorem Dt.ofInt (i : Int) : Dt K H (.int i) i := Xp.int i
theorem Dt.bool {i : Bool} (h : Dt K H v i) : v = .bl i := by
  cases (show Xp K H v (.bool i) from h); rfl
theorem Dt.ofBool (i : Bool) : Dt K H (.bl i) i := Xp.bl i
theorem Dt.str {i : Str} (h : Dt K H v i) : v = .str i := by
  cases (show Xp K H v (.str i) from h); rfl
theorem Dt.ofStr (i : Str) : Dt K H (.str i) i := Xp.str i
theorem Dt.unit {i : Unit} (h : Dt K H v i) : v = .non := by
  cases (show Xp K H v .none from h); rfl
theorem Dt.list {xs : List α} (h : Dt K H v xs) : ∃ a vs, v = .ref a ∧ SqL K H a vs ∧ Dts K H vs xs := by
  cases (show Xp K H v (.list _) from h) with
  | lst a b => exact ⟨_, _, rfl, a, b⟩
theorem Dt.ofList {a : Addr} {vs : List V} {xs : List α} (h : SqL K H a vs) (d : Dts K H vs xs) : Dt K H (.ref a) xs := Xp.lst h d
theorem Dt.tupv {xs : Tup α} (h : Dt K H v xs) : ∃ a vs, v = .ref a ∧ SqT K H a vs ∧ Dts K H vs xs.items := by
  cases (show Xp K H v (.tuple _) from h) with
  | tup a b => exact ⟨_, _, rfl, a, b⟩
theorem Dt.ofTupv {a : Addr} {vs : List V} {xs : Tup α} (h : SqT K H a vs) (d : Dts K H vs xs.items) : Dt K H (.ref a) xs := Xp.tup h d
end
section
variable {α β γ δ : Type} [DecidableEq α] [Dx α] [DecidableEq β] [Dx β] [DecidableEq γ] [Dx γ] [DecidableEq δ] [Dx δ] {H H1 H2 : Hp} {v : V}
theorem Dt.pair {p : α × β} (h : Dt K H v p) : ∃ l a b, v = .ref l ∧ SqT K H l [a, b] ∧ Dt K H a p.1 ∧ Dt K H b p.2 := by
  cases (show Xp K H v (.tuple [_, _]) from h) with
  | tup s b =>
    cases b with
    | cons b1 b =>
      cases b with
      | cons b2 b =>
        cases b
        exact ⟨_, _, _, rfl, s, b1, b2⟩
theorem Dt.ofPair {l : Addr} {a b : V} {x : α} {y : β} (s : SqT K H l [a, b]) (ha : Dt K H a x) (hb : Dt K H b y) : Dt K H (.ref l) (x, y) := Xp.tup s (.cons ha (.cons hb .nil))
theorem Dt.t3 {p : T3 α β γ} (h : Dt K H v p) : ∃ l a b c, v = .ref l ∧ SqT K H l [a, b, c] ∧ Dt K H a p.a ∧ Dt K H b p.b ∧ Dt K H c p.c := by
  cases (show Xp K H v (.tuple [_, _, _]) from h) with
  | tup s b =>
    cases b with
    | cons b1 b =>
      cases b with
      | cons b2 b =>
        cases b with
        | cons b3 b =>
          cases b
          exact ⟨_, _, _, _, rfl, s, b1, b2, b3⟩
theorem Dt.ofT3 {l : Addr} {a b c : V} {x : α} {y : β} {z : γ} (s : SqT K H l [a, b, c]) (ha : Dt K H a x) (hb : Dt K H b y) (hc : Dt K H c z) : Dt K H (.ref l) (T3.mk x y z) := Xp.tup s (.cons ha (.cons hb (.cons hc .nil)))
theorem Dt.t4 {p : T4 α β γ δ} (h : Dt K H v p) : ∃ l a b c d, v = .ref l ∧ SqT K H l [a, b, c, d] ∧ Dt K H a p.a ∧ Dt K H b p.b ∧ Dt K H c p.c ∧ Dt K H d p.d := by
  cases (show Xp K H v (.tuple [_, _, _, _]) from h) with
  | tup s b =>
    cases b with
    | cons b1 b =>
      cases b with
      | cons b2 b =>
        cases b with
        | cons b3 b =>
          cases b with
          | cons b4 b =>
            cases b
            exact ⟨_, _, _, _, _, rfl, s, b1, b2, b3, b4⟩
theorem Dt.ofT4 {l : Addr} {a b c d : V} {x : α} {y : β} {z : γ} {u : δ} (s : SqT K H l [a, b, c, d]) (ha : Dt K H a x) (hb : Dt K H b y) (hc : Dt K H c z) (hd : Dt K H d u) : Dt K H (.ref l) (T4.mk x y z u) := Xp.tup s (.cons ha (.cons hb (.cons hc (.cons hd .nil))))
end
end Ly

namespace Ly
open PySem PySem.Spec PyProof.Rows L2 Evl
open PySem.W (Datum DatumOrd Tup T3 T4)

/-! ### what an expression gives -/
section
variable {K : PySem.W.Frag} {M : List Addr} {σ : L2.St} {H H' : Hp} {te ta tb tc td : TE} {tt tu : TT}
variable {α β γ δ ε : Type} [DecidableEq α] [Dx α] [DecidableEq β] [Dx β] [DecidableEq γ] [Dx γ] [DecidableEq δ] [Dx δ] [DecidableEq ε] [Dx ε]

def Hv (K : PySem.W.Frag) (M : List Addr) (te : TE) (σ : L2.St) (H : Hp) (x : α) : Prop :=
  ∀ H1, Ex H H1 → MOk M H1 → ∀ Q : VK, (∀ v H2, Ex H1 H2 → Dt K (msk M H2) v x → Q v H2) → te σ H1 Q
def HT (M : List Addr) (tt : TT) (σ : L2.St) (H : Hp) (b : Bool) : Prop :=
  ∀ H1, Ex H H1 → MOk M H1 → ∀ Q : Bool → Hp → Prop, (∀ H2, Ex H1 H2 → Q b H2) → tt σ H1 Q
/-- arguments: P of their values -/
def HA (M : List Addr) (ta : TA) (σ : L2.St) (H : Hp) (P : List V → Hp → Prop) : Prop :=
  ∀ H1, Ex H H1 → MOk M H1 → ∀ Q : List V → Hp → Prop, (∀ vs H2, Ex H1 H2 → P vs H2 → Q vs H2) → ta σ H1 Q
theorem Hv.mono {x : α} (e : Ex H H') (h : Hv K M te σ H x) : Hv K M te σ H' x := fun H1 a m Q q => h H1 (e.trans a) m Q q
theorem HT.mono {b : Bool} (e : Ex H H') (h : HT M tt σ H b) : HT M tt σ H' b := fun H1 a m Q q => h H1 (e.trans a) m Q q
theorem Hv.is {x y : α} (h : Hv K M te σ H x) (e : x = y) : Hv K M te σ H y := by rw [← e]; exact h
theorem HT.is {x y : Bool} (h : HT M tt σ H x) (e : x = y) : HT M tt σ H y := by rw [← e]; exact h
/-- a value that is told -/
theorem hv_ev {v : V} {x : α} (h : Ev te σ H v) (d : Dt K (msk M H) v x) : Hv K M te σ H x := fun H1 e m Q q =>
  h H1 e Q fun H2 e2 => q v H2 e2 (d.mono (msk_ex (e.trans e2)))
theorem hv_evI {x : Int} (h : Ev te σ H (.int x)) : Hv K M te σ H x := hv_ev h (Dt.ofInt x)
theorem hv_evB {x : Bool} (h : Ev te σ H (.bl x)) : Hv K M te σ H x := hv_ev h (Dt.ofBool x)
theorem hv_evS {x : Str} (h : Ev te σ H (.str x)) : Hv K M te σ H x := hv_ev h (Dt.ofStr x)
theorem ev_hvI {x : Int} (h : Hv K M te σ H x) (m : MOk M H) : Ev te σ H (.int x) := fun H1 e Q q =>
  h H1 e (m.ex e) Q fun v H2 e2 d => by rw [d.int]; exact q H2 e2
theorem ev_hvB {x : Bool} (h : Hv K M te σ H x) (m : MOk M H) : Ev te σ H (.bl x) := fun H1 e Q q =>
  h H1 e (m.ex e) Q fun v H2 e2 d => by rw [d.bool]; exact q H2 e2
theorem ev_hvS {x : Str} (h : Hv K M te σ H x) (m : MOk M H) : Ev te σ H (.str x) := fun H1 e Q q =>
  h H1 e (m.ex e) Q fun v H2 e2 d => by rw [d.str]; exact q H2 e2
theorem hv_var {i : Nat} {v : V} {x : α} (h : σ[i]? = some (some v)) (d : Dt K (msk M H) v x) : Hv K M (tVar i) σ H x := hv_ev (ev_var h) d
theorem hv_vI {i : Nat} {x : Int} (h : σ[i]? = some (some (.int x))) : Hv K M (tVar i) σ H x := hv_evI (ev_var h)
theorem hv_vB {i : Nat} {x : Bool} (h : σ[i]? = some (some (.bl x))) : Hv K M (tVar i) σ H x := hv_evB (ev_var h)
theorem hv_vS {i : Nat} {x : Str} (h : σ[i]? = some (some (.str x))) : Hv K M (tVar i) σ H x := hv_evS (ev_var h)
theorem hv_int (n : Int) : Hv K M (tC (.int n)) σ H n := hv_evI ev_c
theorem hv_bl (n : Bool) : Hv K M (tC (.bl n)) σ H n := hv_evB ev_c
theorem hv_str (n : Str) : Hv K M (tC (.str n)) σ H n := hv_evS ev_c
theorem hv_none : Hv K M (tC .non) σ H (none : Option α) := hv_ev ev_c Xp.non
theorem hv_some {x : α} (h : Hv K M te σ H x) : Hv K M te σ H (some x) := fun H1 e m Q q => h H1 e m Q fun v H2 e2 d => q v H2 e2 d

/-! ### whole numbers -/
theorem hv_op0 {g : Int → Int → Int} {i j : Int} (ha : Hv K M ta σ H i) (hb : Hv K M tb σ H j) : Hv K M (tOp (rI0 fun i j => .int (g i j)) ta tb) σ H (g i j) := fun H1 e m Q q =>
  ha H1 e m _ fun v H2 e2 d => hb H2 (e.trans e2) (m.ex e2) _ fun u H3 e3 d' => ⟨i, j, d.int, d'.int, q _ H3 (e2.trans e3) (Dt.ofInt _)⟩
theorem hv_opC {C : Int → Int → Prop} {g : Int → Int → Int} {i j : Int} (ha : Hv K M ta σ H i) (hb : Hv K M tb σ H j) (c : C i j) : Hv K M (tOp (rI C fun i j => .int (g i j)) ta tb) σ H (g i j) := fun H1 e m Q q =>
  ha H1 e m _ fun v H2 e2 d => hb H2 (e.trans e2) (m.ex e2) _ fun u H3 e3 d' => ⟨i, j, d.int, d'.int, c, q _ H3 (e2.trans e3) (Dt.ofInt _)⟩
theorem hv_cmp0 {g : Int → Int → Bool} {i j : Int} (ha : Hv K M ta σ H i) (hb : Hv K M tb σ H j) : Hv K M (tOp (rI0 fun i j => .bl (g i j)) ta tb) σ H (g i j) := fun H1 e m Q q =>
  ha H1 e m _ fun v H2 e2 d => hb H2 (e.trans e2) (m.ex e2) _ fun u H3 e3 d' => ⟨i, j, d.int, d'.int, q _ H3 (e2.trans e3) (Dt.ofBool _)⟩
theorem hv_neg {i : Int} (ha : Hv K M ta σ H i) : Hv K M (tUn (rU fun i => .int (-i)) ta) σ H (-i) := fun H1 e m Q q =>
  ha H1 e m _ fun v H2 e2 d => ⟨i, d.int, q _ H2 e2 (Dt.ofInt _)⟩
theorem hv_lt {i j : Int} (ha : Hv K M ta σ H i) (hb : Hv K M tb σ H j) : Hv K M (tOp (rI0 fun i j => .bl (decide (i < j))) ta tb) σ H (decide (i < j)) := hv_cmp0 (g := fun i j => decide (i < j)) ha hb
theorem hv_le {i j : Int} (ha : Hv K M ta σ H i) (hb : Hv K M tb σ H j) : Hv K M (tOp (rI0 fun i j => .bl (decide (i ≤ j))) ta tb) σ H (decide (i ≤ j)) := hv_cmp0 (g := fun i j => decide (i ≤ j)) ha hb
theorem hv_gt {i j : Int} (ha : Hv K M ta σ H i) (hb : Hv K M tb σ H j) : Hv K M (tOp (rI0 fun i j => .bl (decide (j < i))) ta tb) σ H (decide (j < i)) := hv_cmp0 (g := fun i j => decide (j < i)) ha hb
theorem hv_ge {i j : Int} (ha : Hv K M ta σ H i) (hb : Hv K M tb σ H j) : Hv K M (tOp (rI0 fun i j => .bl (decide (j ≤ i))) ta tb) σ H (decide (j ≤ i)) := hv_cmp0 (g := fun i j => decide (j ≤ i)) ha hb
theorem hv_add {i j : Int} (ha : Hv K M ta σ H i) (hb : Hv K M tb σ H j) : Hv K M (tOp (rI0 fun i j => .int (i + j)) ta tb) σ H (i + j) := hv_op0 (g := fun i j => i + j) ha hb
theorem hv_sub {i j : Int} (ha : Hv K M ta σ H i) (hb : Hv K M tb σ H j) : Hv K M (tOp (rI0 fun i j => .int (i - j)) ta tb) σ H (i - j) := hv_op0 (g := fun i j => i - j) ha hb
theorem hv_mul {i j : Int} (ha : Hv K M ta σ H i) (hb : Hv K M tb σ H j) (c : CMul i j) : Hv K M (tOp (rI CMul fun i j => .int (i * j)) ta tb) σ H (i * j) := hv_opC (g := fun i j => i * j) ha hb c
theorem hv_mod {i j : Int} (ha : Hv K M ta σ H i) (hb : Hv K M tb σ H j) (c : 0 < j) : Hv K M (tOp (rI (fun _ j => 0 < j) fun i j => .int (i % j)) ta tb) σ H (i % j) := hv_opC (C := fun _ j => 0 < j) (g := fun i j => i % j) ha hb c
theorem hv_div {i j : Int} (ha : Hv K M ta σ H i) (hb : Hv K M tb σ H j) (c : CDivW i j) : Hv K M (tOp (rI CDivW fun i j => .int (i / j)) ta tb) σ H (i / j) := hv_opC (g := fun i j => i / j) ha hb c
theorem hv_pow {i j : Int} (ha : Hv K M ta σ H i) (hb : Hv K M tb σ H j) (c : CPow i j) : Hv K M (tOp (rI CPow fun i j => .int (i ^ j.toNat)) ta tb) σ H (i ^ j.toNat) := hv_opC (g := fun i j => i ^ j.toNat) ha hb c
theorem hv_eqI {i j : Int} (ha : Hv K M ta σ H i) (hb : Hv K M tb σ H j) : Hv K M (tOp rEq ta tb) σ H (decide (i = j)) := fun H1 e m Q q =>
  ha H1 e m _ fun v H2 e2 d => hb H2 (e.trans e2) (m.ex e2) _ fun u H3 e3 d' => by
    rw [d.int, d'.int]
    exact ⟨rfl, q _ H3 (e2.trans e3) (by rw [show decide (V.int i = V.int j) = decide (i = j) from decide_eq_decide.mpr ⟨V.int.inj, fun z => by rw [z]⟩]; exact Dt.ofBool _)⟩
theorem hv_neI {i j : Int} (ha : Hv K M ta σ H i) (hb : Hv K M tb σ H j) : Hv K M (tOp rNe ta tb) σ H (!decide (i = j)) := fun H1 e m Q q =>
  ha H1 e m _ fun v H2 e2 d => hb H2 (e.trans e2) (m.ex e2) _ fun u H3 e3 d' => by
    rw [d.int, d'.int]
    exact ⟨rfl, q _ H3 (e2.trans e3) (by rw [show decide (V.int i = V.int j) = decide (i = j) from decide_eq_decide.mpr ⟨V.int.inj, fun z => by rw [z]⟩]; exact Dt.ofBool _)⟩
theorem hv_eqS {i j : Str} (ha : Hv K M ta σ H i) (hb : Hv K M tb σ H j) : Hv K M (tOp rEq ta tb) σ H (decide (i = j)) := fun H1 e m Q q =>
  ha H1 e m _ fun v H2 e2 d => hb H2 (e.trans e2) (m.ex e2) _ fun u H3 e3 d' => by
    rw [d.str, d'.str]
    exact ⟨rfl, q _ H3 (e2.trans e3) (by rw [show decide (V.str i = V.str j) = decide (i = j) from decide_eq_decide.mpr ⟨V.str.inj, fun z => by rw [z]⟩]; exact Dt.ofBool _)⟩
theorem hv_neS {i j : Str} (ha : Hv K M ta σ H i) (hb : Hv K M tb σ H j) : Hv K M (tOp rNe ta tb) σ H (!decide (i = j)) := fun H1 e m Q q =>
  ha H1 e m _ fun v H2 e2 d => hb H2 (e.trans e2) (m.ex e2) _ fun u H3 e3 d' => by
    rw [d.str, d'.str]
    exact ⟨rfl, q _ H3 (e2.trans e3) (by rw [show decide (V.str i = V.str j) = decide (i = j) from decide_eq_decide.mpr ⟨V.str.inj, fun z => by rw [z]⟩]; exact Dt.ofBool _)⟩
theorem hv_eqB {i j : Bool} (ha : Hv K M ta σ H i) (hb : Hv K M tb σ H j) : Hv K M (tOp rEq ta tb) σ H (decide (i = j)) := fun H1 e m Q q =>
  ha H1 e m _ fun v H2 e2 d => hb H2 (e.trans e2) (m.ex e2) _ fun u H3 e3 d' => by
    rw [d.bool, d'.bool]
    exact ⟨rfl, q _ H3 (e2.trans e3) (by rw [show decide (V.bl i = V.bl j) = decide (i = j) from decide_eq_decide.mpr ⟨V.bl.inj, fun z => by rw [z]⟩]; exact Dt.ofBool _)⟩

/-! ### tests -/
theorem ht_val {b : Bool} (h : Hv K M te σ H b) : HT M (tTest te) σ H b := fun H1 e m Q q => h H1 e m _ fun v H2 e2 d => ⟨b, d.bool, q H2 e2⟩
theorem ht_B {b : Bool} (h : Hv K M te σ H b) : HT M (tB te) σ H b := fun H1 e m Q q => h H1 e m _ fun v H2 e2 d => ⟨b, d.bool, q H2 e2⟩
theorem ht_and {a b : Bool} (h1 : HT M tt σ H a) (h2 : a = true → HT M tu σ H b) : HT M (tAnd tt tu) σ H (a && b) := fun H1 e m Q q => h1 H1 e m _ fun H2 e2 => by
  cases a with
  | true =>
    show tu σ H2 Q
    exact h2 rfl H2 (e.trans e2) (m.ex e2) Q fun H3 e3 => q H3 (e2.trans e3)
  | false =>
    show Q false H2
    exact q H2 e2
theorem ht_or {a b : Bool} (h1 : HT M tt σ H a) (h2 : a = false → HT M tu σ H b) : HT M (tOr tt tu) σ H (a || b) := fun H1 e m Q q => h1 H1 e m _ fun H2 e2 => by
  cases a with
  | true =>
    show Q true H2
    exact q H2 e2
  | false =>
    show tu σ H2 Q
    exact h2 rfl H2 (e.trans e2) (m.ex e2) Q fun H3 e3 => q H3 (e2.trans e3)
theorem ht_not {a : Bool} (h1 : HT M tt σ H a) : HT M (tNot tt) σ H (!a) := fun H1 e m _ q => h1 H1 e m _ fun H2 e2 => q H2 e2
theorem hv_and {a b : Bool} (h1 : Hv K M ta σ H a) (h2 : a = true → Hv K M tb σ H b) : Hv K M (tAndV ta tb) σ H (a && b) := fun H1 e m Q q => h1 H1 e m _ fun v H2 e2 d => ⟨a, d.bool, by
  cases a with
  | true =>
    show tb σ H2 Q
    exact h2 rfl H2 (e.trans e2) (m.ex e2) Q fun v H3 e3 => q v H3 (e2.trans e3)
  | false =>
    show Q (.bl false) H2
    exact q _ H2 e2 (Dt.ofBool _)⟩
theorem hv_or {a b : Bool} (h1 : Hv K M ta σ H a) (h2 : a = false → Hv K M tb σ H b) : Hv K M (tOrV ta tb) σ H (a || b) := fun H1 e m Q q => h1 H1 e m _ fun v H2 e2 d => ⟨a, d.bool, by
  cases a with
  | true =>
    show Q (.bl true) H2
    exact q _ H2 e2 (Dt.ofBool _)
  | false =>
    show tb σ H2 Q
    exact h2 rfl H2 (e.trans e2) (m.ex e2) Q fun v H3 e3 => q v H3 (e2.trans e3)⟩
theorem hv_not {a : Bool} (h1 : Hv K M ta σ H a) : Hv K M (tNotV ta) σ H (!a) := fun H1 e m _ q => h1 H1 e m _ fun v H2 e2 d => ⟨a, d.bool, q _ H2 e2 (Dt.ofBool _)⟩
theorem hv_ite {b : Bool} {x y : α} (h : HT M tt σ H b) (h1 : b = true → Hv K M ta σ H x) (h2 : b = false → Hv K M tb σ H y) : Hv K M (tIf tt ta tb) σ H (if b = true then x else y) := fun H1 e m Q q => h H1 e m _ fun H2 e2 => by
  cases b with
  | true =>
    show ta σ H2 Q
    exact h1 rfl H2 (e.trans e2) (m.ex e2) Q fun v H3 e3 => q v H3 (e2.trans e3)
  | false =>
    show tb σ H2 Q
    exact h2 rfl H2 (e.trans e2) (m.ex e2) Q fun v H3 e3 => q v H3 (e2.trans e3)

/-! ### tuples and lists that are written -/
theorem ha_nil : HA M tNil σ H (fun vs _ => vs = []) := fun H1 e m Q q => q [] H1 (Ex.refl H1) rfl
theorem ha_cons {tr : TA} {x : α} {P : List V → Hp → Prop} (h : Hv K M te σ H x) (hr : HA M tr σ H P) : HA M (tCons te tr) σ H (fun vs H => ∃ v r, vs = v :: r ∧ Dt K (msk M H) v x ∧ P r H) := fun H1 e m Q q =>
  h H1 e m _ fun v H2 e2 d => hr H2 (e.trans e2) (m.ex e2) _ fun vs H3 e3 p => q _ H3 (e2.trans e3) ⟨v, vs, rfl, d.mono (msk_ex e3), p⟩
/-- an argument whose value is told -/
theorem ha_consV {tr : TA} {v : V} {P : List V → Hp → Prop} (h : Ev te σ H v) (hr : HA M tr σ H P) : HA M (tCons te tr) σ H (fun vs H => ∃ r, vs = v :: r ∧ P r H) := fun H1 e m Q q =>
  h H1 e _ fun H2 e2 => hr H2 (e.trans e2) (m.ex e2) _ fun vs H3 e3 p => q _ H3 (e2.trans e3) ⟨vs, rfl, p⟩
theorem hv_tup2 {x : α} {y : β} (ha : Hv K M ta σ H x) (hb : Hv K M tb σ H y) : Hv K M (tTup (tCons ta (tCons tb tNil))) σ H (x, y) := fun H1 e m Q q =>
  ha H1 e m _ fun v H2 e2 d => hb H2 (e.trans e2) (m.ex e2) _ fun u H3 e3 d' => ⟨sz_of (by show 2 ≤ 100000; decide), fun p hp => by
    have m3 : MOk M H3 := m.ex (e2.trans e3)
    have e4 : Ex H3 (upd H3 p (.tup [v, u])) := Ex.new hp
    exact q _ _ ((e2.trans e3).trans e4) (Dt.ofPair (SqT.of (msk_at m3 hp)) (d.mono (msk_ex (e3.trans e4))) (d'.mono (msk_ex e4)))⟩
theorem hv_tup3 {x : α} {y : β} {z : γ} (ha : Hv K M ta σ H x) (hb : Hv K M tb σ H y) (hc : Hv K M tc σ H z) : Hv K M (tTup (tCons ta (tCons tb (tCons tc tNil)))) σ H (T3.mk x y z) := fun H1 e m Q q =>
  ha H1 e m _ fun v H2 e2 d => hb H2 (e.trans e2) (m.ex e2) _ fun u H3 e3 d' => hc H3 ((e.trans e2).trans e3) ((m.ex e2).ex e3) _ fun w H4 e4 d'' => ⟨sz_of (by show 3 ≤ 100000; decide), fun p hp => by
    have m4 : MOk M H4 := m.ex ((e2.trans e3).trans e4)
    have e5 : Ex H4 (upd H4 p (.tup [v, u, w])) := Ex.new hp
    exact q _ _ (((e2.trans e3).trans e4).trans e5) (Dt.ofT3 (SqT.of (msk_at m4 hp)) (d.mono (msk_ex ((e3.trans e4).trans e5))) (d'.mono (msk_ex (e4.trans e5))) (d''.mono (msk_ex e5)))⟩
theorem hv_tup4 {x : α} {y : β} {z : γ} {w : δ} (ha : Hv K M ta σ H x) (hb : Hv K M tb σ H y) (hc : Hv K M tc σ H z) (hd : Hv K M td σ H w) : Hv K M (tTup (tCons ta (tCons tb (tCons tc (tCons td tNil))))) σ H (T4.mk x y z w) := fun H1 e m Q q =>
  ha H1 e m _ fun v H2 e2 d => hb H2 (e.trans e2) (m.ex e2) _ fun u H3 e3 d' => hc H3 ((e.trans e2).trans e3) ((m.ex e2).ex e3) _ fun w H4 e4 d'' => hd H4 (((e.trans e2).trans e3).trans e4) (((m.ex e2).ex e3).ex e4) _ fun r H5 e5 d3 => ⟨sz_of (by show 4 ≤ 100000; decide), fun p hp => by
    have m4 : MOk M H5 := m.ex (((e2.trans e3).trans e4).trans e5)
    have e6 : Ex H5 (upd H5 p (.tup [v, u, w, r])) := Ex.new hp
    exact q _ _ ((((e2.trans e3).trans e4).trans e5).trans e6) (Dt.ofT4 (SqT.of (msk_at m4 hp)) (d.mono (msk_ex (((e3.trans e4).trans e5).trans e6))) (d'.mono (msk_ex ((e4.trans e5).trans e6))) (d''.mono (msk_ex (e5.trans e6))) (d3.mono (msk_ex e6)))⟩
/-- items of one type -/
def HAs (K : PySem.W.Frag) (M : List Addr) (ta : TA) (σ : L2.St) (H : Hp) (xs : List α) : Prop := HA M ta σ H (fun vs H => Dts K (msk M H) vs xs)
theorem has_nil : HAs K M tNil σ H ([] : List α) := fun H1 e m Q q => q [] H1 (Ex.refl H1) Dts.nil
theorem has_cons {tr : TA} {x : α} {xs : List α} (h : Hv K M te σ H x) (hr : HAs K M tr σ H xs) : HAs K M (tCons te tr) σ H (x :: xs) := fun H1 e m Q q =>
  h H1 e m _ fun v H2 e2 d => hr H2 (e.trans e2) (m.ex e2) _ fun vs H3 e3 p => q _ H3 (e2.trans e3) (Dts.cons (d.mono (msk_ex e3)) p)
theorem hv_lst {tr : TA} {xs : List α} (h : HAs K M tr σ H xs) (hl : xs.length ≤ 100000) : Hv K M (tLst tr) σ H xs := fun H1 e m Q q =>
  h H1 e m _ fun vs H2 e2 d => ⟨sz_of (by rw [d.len]; exact hl), fun p hp => by
    have e3 : Ex H2 (upd H2 p (.lst vs)) := Ex.new hp
    exact q _ _ (e2.trans e3) (Dt.ofList (SqL.of (msk_at (m.ex e2) hp)) (d.mono (msk_ex e3)))⟩
theorem hv_tupv {tr : TA} {xs : List α} (h : HAs K M tr σ H xs) (hl : xs.length ≤ 100000) : Hv K M (tTup tr) σ H (Tup.mk xs) := fun H1 e m Q q =>
  h H1 e m _ fun vs H2 e2 d => ⟨sz_of (by rw [d.len]; exact hl), fun p hp => by
    have e3 : Ex H2 (upd H2 p (.tup vs)) := Ex.new hp
    exact q _ _ (e2.trans e3) (Dt.ofTupv (SqT.of (msk_at (m.ex e2) hp)) (d.mono (msk_ex e3)))⟩

/-! ### items -/
theorem hv_ixL {xs : List α} {i : Int} {x : α} (ha : Hv K M ta σ H xs) (hb : Hv K M tb σ H i) (h0 : 0 ≤ i) (hx : xs[i.toNat]? = some x) : Hv K M (tOp (rIxL K) ta tb) σ H x := fun H1 e m Q q =>
  ha H1 e m _ fun v H2 e2 d => hb H2 (e.trans e2) (m.ex e2) _ fun u H3 e3 d' => by
    obtain ⟨a, vs, rfl, s, ds⟩ := d.list
    obtain ⟨w, h1, h2⟩ := ds.at hx
    exact ⟨a, vs, i, w, rfl, d'.int, ex_l (msk_le.trans e3) s, at_of (Int.toNat_of_nonneg h0).symm h1, q w H3 (e2.trans e3) (h2.mono (msk_ex e3))⟩
theorem hv_ixV {xs : Tup α} {i : Int} {x : α} (ha : Hv K M ta σ H xs) (hb : Hv K M tb σ H i) (h0 : 0 ≤ i) (hx : xs.items[i.toNat]? = some x) : Hv K M (tOp (rIxT K) ta tb) σ H x := fun H1 e m Q q =>
  ha H1 e m _ fun v H2 e2 d => hb H2 (e.trans e2) (m.ex e2) _ fun u H3 e3 d' => by
    obtain ⟨a, vs, rfl, s, ds⟩ := d.tupv
    obtain ⟨w, h1, h2⟩ := ds.at hx
    exact ⟨a, vs, i, w, rfl, d'.int, ex_t (msk_le.trans e3) s, at_of (Int.toNat_of_nonneg h0).symm h1, q w H3 (e2.trans e3) (h2.mono (msk_ex e3))⟩
theorem hv_p0 {p : α × β} (ha : Hv K M ta σ H p) : Hv K M (tOp (rIxT K) ta (tC (.int 0))) σ H p.1 := fun H1 e m Q q =>
  ha H1 e m _ fun v H2 e2 d => by
    obtain ⟨l, a, b, rfl, s, d1, d2⟩ := d.pair
    exact ⟨l, [a, b], 0, a, rfl, rfl, ex_t msk_le s, at_of (j := 0) rfl rfl, q a H2 e2 d1⟩
theorem hv_p1 {p : α × β} (ha : Hv K M ta σ H p) : Hv K M (tOp (rIxT K) ta (tC (.int 1))) σ H p.2 := fun H1 e m Q q =>
  ha H1 e m _ fun v H2 e2 d => by
    obtain ⟨l, a, b, rfl, s, d1, d2⟩ := d.pair
    exact ⟨l, [a, b], 1, b, rfl, rfl, ex_t msk_le s, at_of (j := 1) rfl rfl, q b H2 e2 d2⟩
theorem hv_t30 {p : T3 α β γ} (ha : Hv K M ta σ H p) : Hv K M (tOp (rIxT K) ta (tC (.int 0))) σ H p.a := fun H1 e m Q q =>
  ha H1 e m _ fun v H2 e2 d => by
    obtain ⟨l, a, b, c, rfl, s, d1, d2, d3⟩ := d.t3
    exact ⟨l, [a, b, c], 0, a, rfl, rfl, ex_t msk_le s, at_of (j := 0) rfl rfl, q a H2 e2 d1⟩
theorem hv_t31 {p : T3 α β γ} (ha : Hv K M ta σ H p) : Hv K M (tOp (rIxT K) ta (tC (.int 1))) σ H p.b := fun H1 e m Q q =>
  ha H1 e m _ fun v H2 e2 d => by
    obtain ⟨l, a, b, c, rfl, s, d1, d2, d3⟩ := d.t3
    exact ⟨l, [a, b, c], 1, b, rfl, rfl, ex_t msk_le s, at_of (j := 1) rfl rfl, q b H2 e2 d2⟩
theorem hv_t32 {p : T3 α β γ} (ha : Hv K M ta σ H p) : Hv K M (tOp (rIxT K) ta (tC (.int 2))) σ H p.c := fun H1 e m Q q =>
  ha H1 e m _ fun v H2 e2 d => by
    obtain ⟨l, a, b, c, rfl, s, d1, d2, d3⟩ := d.t3
    exact ⟨l, [a, b, c], 2, c, rfl, rfl, ex_t msk_le s, at_of (j := 2) rfl rfl, q c H2 e2 d3⟩
def T3.at {α : Type} (p : T3 α α α) (i : Int) : α := if i = 0 then p.a else if i = 1 then p.b else p.c
theorem hv_t3i {p : T3 α α α} {i : Int} (ha : Hv K M ta σ H p) (hb : Hv K M tb σ H i) (h0 : 0 ≤ i) (h3 : i < 3) : Hv K M (tOp (rIxT K) ta tb) σ H (Ly.T3.at p i) := fun H1 e m Q q =>
  ha H1 e m _ fun v H2 e2 d => hb H2 (e.trans e2) (m.ex e2) _ fun u H3 e3 d' => by
    obtain ⟨l, a, b, c, rfl, s, d1, d2, d3⟩ := d.t3
    have hh : i = 0 ∨ i = 1 ∨ i = 2 := by omega
    rcases hh with rfl | rfl | rfl
    · exact ⟨l, [a, b, c], 0, a, rfl, d'.int, ex_t (msk_le.trans e3) s, at_of (j := 0) rfl rfl, q a H3 (e2.trans e3) (d1.mono (msk_ex e3))⟩
    · exact ⟨l, [a, b, c], 1, b, rfl, d'.int, ex_t (msk_le.trans e3) s, at_of (j := 1) rfl rfl, q b H3 (e2.trans e3) (d2.mono (msk_ex e3))⟩
    · exact ⟨l, [a, b, c], 2, c, rfl, d'.int, ex_t (msk_le.trans e3) s, at_of (j := 2) rfl rfl, q c H3 (e2.trans e3) (d3.mono (msk_ex e3))⟩
end
end Ly

namespace Ly
open PySem PySem.Spec PyProof.Rows L2 Evl
open PySem.W (Datum DatumOrd Tup T3 T4)

/-! ### the state of a def: what its names hold -/
/-- what a thing that may still change holds -/
inductive Mv where
  | lst (ds : List Xd)
  | dic (kds : List (Key × Xd))
  | ins (C dx : Addr) (nds : List (Str × Xd))
  | dicT (kds : List (List Key × Xd))
def MvOk (K : PySem.W.Frag) (H : Hp) (o : HO) : Mv → Prop
  | .lst ds => ∃ vs, o = .lst vs ∧ XpAll K H vs ds
  | .dic kds => ∃ kvs, o = .dK kvs ∧ kvs.map (·.1) = kds.map (·.1) ∧ XpAll K H (kvs.map (·.2)) (kds.map (·.2))
  | .ins C dx nds => ∃ fs, o = .ins C dx fs ∧ fs.map (·.1) = nds.map (·.1) ∧ XpAll K H (fs.map (·.2)) (nds.map (·.2))
  | .dicT kds => ∃ kvs, o = .dT kvs ∧ kvs.map (·.1) = kds.map (·.1) ∧ XpAll K H (kvs.map (·.2)) (kds.map (·.2))
theorem MvOk.mono {K : PySem.W.Frag} {H H' : Hp} {o : HO} {m : Mv} (e : Ex H H') (h : MvOk K H o m) : MvOk K H' o m := by
  cases m with
  | lst ds => obtain ⟨vs, e1, e2⟩ := h; exact ⟨vs, e1, dpa_mono e e2⟩
  | dic kds => obtain ⟨vs, e1, e2, e3⟩ := h; exact ⟨vs, e1, e2, dpa_mono e e3⟩
  | ins C dx nds => obtain ⟨vs, e1, e2, e3⟩ := h; exact ⟨vs, e1, e2, dpa_mono e e3⟩
  | dicT kds => obtain ⟨vs, e1, e2, e3⟩ := h; exact ⟨vs, e1, e2, dpa_mono e e3⟩
abbrev Mus := List (Addr × Mv)
abbrev Ims := List (V × Xd)
def muA (mus : Mus) : List Addr := mus.map (·.1)
def Im (K : PySem.W.Frag) (H : Hp) : Ims → Prop
  | [] => True
  | (v, d) :: r => Xp K H v d ∧ Im K H r
def Mu (K : PySem.W.Frag) (Hm H : Hp) : Mus → Prop
  | [] => True
  | (l, m) :: r => (∃ o, H l = some o ∧ MvOk K Hm o m) ∧ Mu K Hm H r
theorem Im.mono {K : PySem.W.Frag} {H H' : Hp} (e : Ex H H') : ∀ {is : Ims}, Im K H is → Im K H' is
  | [], h => h
  | (_, _) :: _, h => ⟨dp_mono e h.1, Im.mono e h.2⟩
theorem Mu.mono {K : PySem.W.Frag} {Hm Hm' H H' : Hp} (e : Ex Hm Hm') (e' : Ex H H') : ∀ {ms : Mus}, Mu K Hm H ms → Mu K Hm' H' ms
  | [], h => h
  | (l, m) :: _, h => by
    obtain ⟨⟨o, h1, h2⟩, h3⟩ := h
    exact ⟨⟨o, e' l o h1, h2.mono e⟩, Mu.mono e e' h3⟩
theorem Mu.upd {K : PySem.W.Frag} {Hm H : Hp} {p : Addr} {o : HO} : ∀ {ms : Mus}, p ∉ muA ms → Mu K Hm H ms → Mu K Hm (upd H p o) ms
  | [], _, h => h
  | (l, m) :: r, n, h => by
    have n' : l ≠ p ∧ p ∉ muA r := by
      unfold muA at n
      simp only [List.map_cons, List.mem_cons, not_or] at n
      exact ⟨fun z => n.1 z.symm, n.2⟩
    obtain ⟨⟨o', h1, h2⟩, h3⟩ := h
    exact ⟨⟨o', by rw [upd_ne n'.1]; exact h1, h2⟩, Mu.upd n'.2 h3⟩
theorem Mu.get {K : PySem.W.Frag} {Hm H : Hp} : ∀ {ms : Mus} {k : Nat} {l : Addr} {m : Mv}, Mu K Hm H ms → ms[k]? = some (l, m) → ∃ o, H l = some o ∧ MvOk K Hm o m
  | [], k, _, _, _, e => by simp at e
  | (l, m) :: r, 0, _, _, h, e => by
    have e' : (l, m) = _ := Option.some.inj (show some (l, m) = some _ from e)
    cases e'
    exact h.1
  | (l, m) :: r, k + 1, _, _, h, e => Mu.get (ms := r) h.2 (by simpa using e)
theorem mem_muA {ms : Mus} {k : Nat} {l : Addr} {m : Mv} (e : ms[k]? = some (l, m)) : l ∈ muA ms := by
  have h : (l, m) ∈ ms := List.mem_of_getElem? e
  exact List.mem_map.mpr ⟨_, h, rfl⟩
theorem muA_set : ∀ {ms : Mus} {k : Nat} {l : Addr} {m m' : Mv}, ms[k]? = some (l, m) → muA (ms.set k (l, m')) = muA ms
  | [], k, _, _, _, e => by simp at e
  | (l, m) :: r, 0, _, _, _, e => by
    have e' : (l, m) = _ := Option.some.inj (show some (l, m) = some _ from e)
    cases e'
    rfl
  | (l, m) :: r, k + 1, l', m0, m', e => by
    have := muA_set (ms := r) (k := k) (m' := m') (show r[k]? = some (l', m0) by simpa using e)
    show l :: muA (r.set k (l', m')) = l :: muA r
    rw [this]
theorem Mu.set {K : PySem.W.Frag} {Hm H : Hp} {o : HO} {m' : Mv} : ∀ {ms : Mus} {k : Nat} {l : Addr} {m : Mv}, (muA ms).Nodup → ms[k]? = some (l, m) → MvOk K Hm o m' → Mu K Hm H ms → Mu K Hm (L2.upd H l o) (ms.set k (l, m'))
  | [], k, _, _, _, e, _, _ => by simp at e
  | (l, m) :: r, 0, _, _, nd, e, ok, h => by
    have e' : (l, m) = _ := Option.some.inj (show some (l, m) = some _ from e)
    cases e'
    have nd' : l ∉ muA r ∧ (muA r).Nodup := List.nodup_cons.mp nd
    exact ⟨⟨o, upd_same, ok⟩, Mu.upd nd'.1 h.2⟩
  | (l, m) :: r, k + 1, l', m0, nd, e, ok, h => by
    have nd' : l ∉ muA r ∧ (muA r).Nodup := List.nodup_cons.mp nd
    have e' : r[k]? = some (l', m0) := by simpa using e
    have ne : l ≠ l' := fun z => nd'.1 (z ▸ mem_muA e')
    obtain ⟨⟨o', h1, h2⟩, h3⟩ := h
    exact ⟨⟨o', by rw [upd_ne ne]; exact h1, h2⟩, Mu.set (ms := r) nd'.2 e' ok h3⟩

/-- Mc: what the caller may still change; He: the heap at the entry -/
structure Sg (K : PySem.W.Frag) (Mc : List Addr) (He H : Hp) (is : Ims) (ms : Mus) : Prop where
  ext : Ex He (msk (muA ms) H)
  okc : MOk Mc He
  nd : (muA ms).Nodup
  im : Im K (msk (muA ms ++ Mc) H) is
  mu : Mu K (msk (muA ms ++ Mc) H) H ms
section
variable {K : PySem.W.Frag} {Mc : List Addr} {He H H1 H2 : Hp} {is js : Ims} {ms : Mus} {σ : L2.St} {te ta tb tl : TE}
variable {α β : Type} [DecidableEq α] [Dx α] [DecidableEq β] [Dx β]
theorem Sg.enter (m : MOk Mc He) (im : Im K (msk Mc He) is) : Sg K Mc He He is [] := by
  refine ⟨?_, m, List.nodup_nil, im, True.intro⟩
  show Ex He (msk [] He)
  rw [msk_nil]
  exact Ex.refl He
theorem Sg.all (s : Sg K Mc He H is ms) : Ex He H := s.ext.trans msk_le
theorem Sg.mok (s : Sg K Mc He H is ms) : MOk (muA ms ++ Mc) H := fun l hl => by
  rcases List.mem_append.mp hl with h | h
  · obtain ⟨p, hp, e⟩ := List.mem_map.mp h
    obtain ⟨k, hk⟩ := List.getElem?_of_mem hp
    obtain ⟨o, ho, _⟩ := s.mu.get (k := k) (l := p.1) (m := p.2) hk
    rw [← e, ho]
    exact fun z => nomatch z
  · exact (s.okc.ex s.all) l h
theorem Sg.new_of (s : Sg K Mc He H is ms) {l : Addr} (h : l ∈ muA ms) : He l = none := by
  cases q : He l with
  | none => rfl
  | some o =>
    have := s.ext l o q
    rw [msk_in h] at this
    cases this
theorem Sg.notc (s : Sg K Mc He H is ms) {l : Addr} (h : l ∈ muA ms) : l ∉ Mc := fun z => s.okc l z (s.new_of h)
theorem Sg.ex (s : Sg K Mc He H is ms) (e : Ex H H1) : Sg K Mc He H1 is ms :=
  ⟨s.ext.trans (msk_ex e), s.okc, s.nd, s.im.mono (msk_ex e), s.mu.mono (msk_ex e) e⟩
theorem Sg.put (s : Sg K Mc He H is ms) {v : V} {x : α} (d : Dt K (msk (muA ms ++ Mc) H) v x) : Sg K Mc He H ((v, Dx.toX x) :: is) ms :=
  ⟨s.ext, s.okc, s.nd, ⟨d, s.im⟩, s.mu⟩
/-- a new thing that may change -/
theorem Sg.new (s : Sg K Mc He H is ms) {p : Addr} {o : HO} {m : Mv} (hp : H p = none) (ok : MvOk K (msk (p :: (muA ms ++ Mc)) (upd H p o)) o m) : Sg K Mc He (upd H p o) is ((p, m) :: ms) := by
  have np : p ∉ muA ms := fun z => by
    have := s.mok p (List.mem_append_left _ z)
    exact this hp
  refine ⟨s.ext.trans (msk_new hp), s.okc, List.nodup_cons.mpr ⟨np, s.nd⟩, ?_, ⟨⟨o, upd_same, ok⟩, ?_⟩⟩
  · exact s.im.mono (msk_new hp)
  · have h := s.mu.mono (msk_new (M := muA ms ++ Mc) (o := o) hp) (Ex.refl H)
    exact Mu.upd np h
/-- the k-th of what may change, changed -/
theorem Sg.set (s : Sg K Mc He H is ms) {k : Nat} {l : Addr} {m m' : Mv} {o : HO} (e : ms[k]? = some (l, m)) (ok : MvOk K (msk (muA ms ++ Mc) H) o m') : Sg K Mc He (upd H l o) is (ms.set k (l, m')) := by
  have hl : l ∈ muA ms := mem_muA e
  have ea := muA_set (m' := m') e
  have hl2 : l ∈ muA ms ++ Mc := List.mem_append_left _ hl
  refine ⟨?_, s.okc, by rw [ea]; exact s.nd, ?_, ?_⟩
  · rw [ea, msk_upd hl]; exact s.ext
  · rw [ea, msk_upd hl2]; exact s.im
  · rw [ea, msk_upd hl2]; exact Mu.set s.nd e ok s.mu
/-- no longer changed: the head of what may change, a list -/
theorem Sg.frz {l : Addr} {xs : List α} (s : Sg K Mc He H is ((l, .lst (xs.map Dx.toX)) :: ms)) : Sg K Mc He H ((.ref l, Dx.toX xs) :: is) ms := by
  have sub : Ex (msk (muA ((l, Mv.lst (xs.map Dx.toX)) :: ms) ++ Mc) H) (msk (muA ms ++ Mc) H) := msk_sub fun a ha => List.mem_cons_of_mem _ ha
  have nd := List.nodup_cons.mp s.nd
  obtain ⟨⟨o, h1, vs, e, h2⟩, h3⟩ := s.mu
  subst e
  have nl : l ∉ muA ms ++ Mc := fun z => (List.mem_append.mp z).elim nd.1 (s.notc List.mem_cons_self)
  refine ⟨s.ext.trans (msk_sub fun a ha => List.mem_cons_of_mem _ ha), s.okc, nd.2, ⟨?_, s.im.mono sub⟩, h3.mono sub (Ex.refl H)⟩
  exact Dt.ofList (SqL.of (by rw [msk_out nl]; exact h1)) (dpa_mono sub h2)
/-- what stands first moves behind -/
theorem Sg.rot {l l' : Addr} {m m' : Mv} (s : Sg K Mc He H is ((l, m) :: (l', m') :: ms)) : Sg K Mc He H is ((l', m') :: (l, m) :: ms) := by
  have ea : ∀ N : List Addr, msk (l :: l' :: N) H = msk (l' :: l :: N) H := fun N => by
    funext a
    unfold msk
    by_cases h : a ∈ l :: l' :: N
    · rw [if_pos h, if_pos (by simp only [List.mem_cons] at h ⊢; rcases h with h | h | h <;> simp [h])]
    · rw [if_neg h, if_neg (by simp only [List.mem_cons, not_or] at h ⊢; exact ⟨h.2.1, h.1, h.2.2⟩)]
  refine ⟨?_, s.okc, ?_, ?_, ?_⟩
  · have := s.ext
    show Ex He (msk (l' :: l :: muA ms) H)
    rw [← ea]; exact this
  · have nd : (l :: l' :: muA ms).Nodup := s.nd
    show (l' :: l :: muA ms).Nodup
    simp only [List.nodup_cons, List.mem_cons, not_or] at nd ⊢
    exact ⟨⟨fun z => nd.1.1 z.symm, nd.2.1⟩, nd.1.2, nd.2.2⟩
  · show Im K (msk (l' :: l :: (muA ms ++ Mc)) H) is
    rw [← ea]; exact s.im
  · have mu : (∃ o, H l = some o ∧ MvOk K (msk (l :: l' :: (muA ms ++ Mc)) H) o m) ∧ (∃ o, H l' = some o ∧ MvOk K (msk (l :: l' :: (muA ms ++ Mc)) H) o m') ∧ Mu K (msk (l :: l' :: (muA ms ++ Mc)) H) H ms := s.mu
    show (∃ o, H l' = some o ∧ MvOk K (msk (l' :: l :: (muA ms ++ Mc)) H) o m') ∧ (∃ o, H l = some o ∧ MvOk K (msk (l' :: l :: (muA ms ++ Mc)) H) o m) ∧ Mu K (msk (l' :: l :: (muA ms ++ Mc)) H) H ms
    rw [← ea]
    exact ⟨mu.2.1, mu.1, mu.2.2⟩
/-- forgetting what is known of names -/
theorem Sg.keep (s : Sg K Mc He H is ms) (h : ∀ Hm, Im K Hm is → Im K Hm js) : Sg K Mc He H js ms := ⟨s.ext, s.okc, s.nd, h _ s.im, s.mu⟩
theorem Sg.lst (s : Sg K Mc He H is ms) {k : Nat} {l : Addr} {xs : List α} (e : ms[k]? = some (l, .lst (xs.map Dx.toX))) : ∃ vs, H l = some (.lst vs) ∧ Dts K (msk (muA ms ++ Mc) H) vs xs := by
  obtain ⟨o, h1, vs, e1, h2⟩ := s.mu.get e
  subst e1
  exact ⟨vs, h1, h2⟩

/-! ### a list that may still change, read -/
def HS (K : PySem.W.Frag) (M : List Addr) (te : TE) (σ : L2.St) (H : Hp) (xs : List α) : Prop :=
  ∀ H1, Ex H H1 → MOk M H1 → ∀ Q : VK, (∀ a vs H2, Ex H1 H2 → SqL K H2 a vs → Dts K (msk M H2) vs xs → Q (.ref a) H2) → te σ H1 Q
theorem hs_of {M : List Addr} {xs : List α} (h : Hv K M te σ H xs) : HS K M te σ H xs := fun H1 e m Q q =>
  h H1 e m Q fun v H2 e2 d => by
    obtain ⟨a, vs, rfl, s, ds⟩ := d.list
    exact q a vs H2 e2 (ex_l msk_le s) ds
theorem hs_mut (s : Sg K Mc He H is ms) {k i : Nat} {l : Addr} {xs : List α} (e : ms[k]? = some (l, .lst (xs.map Dx.toX))) (h : σ[i]? = some (some (.ref l))) : HS K (muA ms ++ Mc) (tVar i) σ H xs := fun H1 e1 m Q q => by
  obtain ⟨vs, h1, h2⟩ := (s.ex e1).lst e
  exact ⟨_, h, q l vs H1 (Ex.refl H1) (SqL.of h1) h2⟩
/-- all of it, for a use that leaves nothing behind -/
theorem hv_mut (s : Sg K Mc He H is ms) {k i : Nat} {l : Addr} {xs : List α} (e : ms[k]? = some (l, .lst (xs.map Dx.toX))) (h : σ[i]? = some (some (.ref l))) : Hv K [] (tVar i) σ H xs := fun H1 e1 m Q q => by
  obtain ⟨vs, h1, h2⟩ := (s.ex e1).lst e
  refine ⟨_, h, q _ H1 (Ex.refl H1) ?_⟩
  rw [msk_nil]
  exact Dt.ofList (SqL.of h1) (h2.mono msk_le)
theorem hv_whole (s : Sg K Mc He H is ms) {x : α} (h : Hv K (muA ms ++ Mc) te σ H x) : Hv K [] te σ H x := fun H1 e m Q q =>
  h H1 e (s.mok.ex e) Q fun v H2 e2 d => q v H2 e2 (by rw [msk_nil]; exact d.mono msk_le)
theorem hv_wholeS (s : Sg K Mc He H is ms) {xs : List α} (h : HS K (muA ms ++ Mc) te σ H xs) : Hv K [] te σ H xs := fun H1 e m Q q =>
  h H1 e (s.mok.ex e) Q fun a vs H2 e2 s2 d => q _ H2 e2 (by rw [msk_nil]; exact Dt.ofList s2 (d.mono msk_le))
theorem hv_backI {M : List Addr} {x : Int} (h : Hv K [] te σ H x) : Hv K M te σ H x := fun H1 e m Q q =>
  h H1 e (fun _ z => nomatch z) Q fun v H2 e2 d => by rw [d.int]; exact q _ H2 e2 (Dt.ofInt x)
theorem hv_backB {M : List Addr} {x : Bool} (h : Hv K [] te σ H x) : Hv K M te σ H x := fun H1 e m Q q =>
  h H1 e (fun _ z => nomatch z) Q fun v H2 e2 d => by rw [d.bool]; exact q _ H2 e2 (Dt.ofBool x)
theorem hv_backS {M : List Addr} {x : Str} (h : Hv K [] te σ H x) : Hv K M te σ H x := fun H1 e m Q q =>
  h H1 e (fun _ z => nomatch z) Q fun v H2 e2 d => by rw [d.str]; exact q _ H2 e2 (Dt.ofStr x)
theorem hv_ixS {M : List Addr} {xs : List α} {i : Int} {x : α} (ha : HS K M ta σ H xs) (hb : Hv K M tb σ H i) (h0 : 0 ≤ i) (hx : xs[i.toNat]? = some x) : Hv K M (tOp (rIxL K) ta tb) σ H x := fun H1 e m Q q =>
  ha H1 e m _ fun a vs H2 e2 s ds => hb H2 (e.trans e2) (m.ex e2) _ fun u H3 e3 d' => by
    obtain ⟨w, h1, h2⟩ := ds.at hx
    exact ⟨a, vs, i, w, rfl, d'.int, ex_l e3 s, at_of (Int.toNat_of_nonneg h0).symm h1, q w H3 (e2.trans e3) (h2.mono (msk_ex e3))⟩

/-! ### statements -/
variable {D : Ends} {tz tu tw : TS} {tt : TT} {g : TG}
theorem z_asg {i : Nat} {x : α} (s : Sg K Mc He H is ms) (h : Hv K (muA ms ++ Mc) te σ H x) (k : ∀ v H1, Sg K Mc He H1 ((v, Dx.toX x) :: is) ms → tz D (σ.set i (some v)) H1) : tSeq (tAsg te (gName i)) tz D σ H :=
  h H (Ex.refl H) s.mok _ fun v H1 e d => k v H1 ((s.ex e).put d)
theorem z_asgI {i : Nat} {x : Int} (s : Sg K Mc He H is ms) (h : Hv K (muA ms ++ Mc) te σ H x) (k : ∀ H1, Sg K Mc He H1 is ms → tz D (σ.set i (some (.int x))) H1) : tSeq (tAsg te (gName i)) tz D σ H :=
  h H (Ex.refl H) s.mok _ fun v H1 e d => by rw [d.int]; exact k H1 (s.ex e)
theorem z_asgB {i : Nat} {x : Bool} (s : Sg K Mc He H is ms) (h : Hv K (muA ms ++ Mc) te σ H x) (k : ∀ H1, Sg K Mc He H1 is ms → tz D (σ.set i (some (.bl x))) H1) : tSeq (tAsg te (gName i)) tz D σ H :=
  h H (Ex.refl H) s.mok _ fun v H1 e d => by rw [d.bool]; exact k H1 (s.ex e)
theorem z_asgS {i : Nat} {x : Str} (s : Sg K Mc He H is ms) (h : Hv K (muA ms ++ Mc) te σ H x) (k : ∀ H1, Sg K Mc He H1 is ms → tz D (σ.set i (some (.str x))) H1) : tSeq (tAsg te (gName i)) tz D σ H :=
  h H (Ex.refl H) s.mok _ fun v H1 e d => by rw [d.str]; exact k H1 (s.ex e)
/-- x = [], to be filled -/
theorem z_nil {i : Nat} (s : Sg K Mc He H is ms) (k : ∀ p H1, Sg K Mc He H1 is ((p, .lst []) :: ms) → tz D (σ.set i (some (.ref p))) H1) : tSeq (tAsg (tLst tNil) (gName i)) tz D σ H :=
  ⟨Nat.zero_le _, fun p hp => k p _ (s.new hp ⟨[], rfl, .nil⟩)⟩
theorem z_if {b : Bool} (s : Sg K Mc He H is ms) (h : HT (muA ms ++ Mc) tt σ H b) (h1 : b = true → ∀ H1, Sg K Mc He H1 is ms → tu { D with nx := tz D } σ H1) (h2 : b = false → ∀ H1, Sg K Mc He H1 is ms → tw { D with nx := tz D } σ H1) :
    tSeq (tIfS tt tu tw) tz D σ H := h H (Ex.refl H) s.mok _ fun H1 e => by
  cases b with
  | true => exact h1 rfl H1 (s.ex e)
  | false => exact h2 rfl H1 (s.ex e)
theorem z_ifE {b : Bool} (s : Sg K Mc He H is ms) (h : HT (muA ms ++ Mc) tt σ H b) (h1 : b = true → ∀ H1, Sg K Mc He H1 is ms → tu D σ H1) (h2 : b = false → ∀ H1, Sg K Mc He H1 is ms → tw D σ H1) :
    tIfS tt tu tw D σ H := h H (Ex.refl H) s.mok _ fun H1 e => by
  cases b with
  | true => exact h1 rfl H1 (s.ex e)
  | false => exact h2 rfl H1 (s.ex e)
theorem z_ret {x : α} (s : Sg K Mc He H is ms) (h : Hv K (muA ms ++ Mc) te σ H x) (k : ∀ v H1, Ex He H1 → Dt K (msk Mc H1) v x → D.rt v H1) : tRet te D σ H :=
  h H (Ex.refl H) s.mok _ fun v H1 e d => k v H1 (s.ex e).all (d.mono (msk_sub fun a ha => List.mem_append_right _ ha))
/-- xs.append(e) -/
theorem z_app {kk : Nat} {l : Addr} {xs : List α} {x : α} (s : Sg K Mc He H is ms) (e : ms[kk]? = some (l, .lst (xs.map Dx.toX))) (hi : Ev ta σ H (.ref l)) (h : Hv K (muA ms ++ Mc) te σ H x) (hz : xs.length < 100000)
    (k : ∀ H1, Sg K Mc He H1 is (ms.set kk (l, .lst ((xs ++ [x]).map Dx.toX))) → D.nx σ H1) : tDrop (tBM K "list" rAppend ta (tCons te tNil)) D σ H := hi H (Ex.refl H) _ fun H1 e1 => by
  obtain ⟨vs, h1, h2⟩ := (s.ex e1).lst e
  refine ⟨Or.inl ⟨rfl, vs, sq_of h1⟩, h H1 e1 (s.mok.ex e1) _ fun v H2 e2 d => ?_⟩
  obtain ⟨vs', h3, h4⟩ := ((s.ex e1).ex e2).lst e
  refine ⟨l, vs', v, rfl, rfl, h3, sz_lt (by rw [h4.len]; exact hz), k _ (((s.ex e1).ex e2).set e ⟨_, rfl, ?_⟩)⟩
  rw [List.map_append]
  exact dpa_app h4 (.cons d .nil)
theorem zq_app {kk : Nat} {l : Addr} {xs : List α} {x : α} (s : Sg K Mc He H is ms) (e : ms[kk]? = some (l, .lst (xs.map Dx.toX))) (hi : Ev ta σ H (.ref l)) (h : Hv K (muA ms ++ Mc) te σ H x) (hz : xs.length < 100000)
    (k : ∀ H1, Sg K Mc He H1 is (ms.set kk (l, .lst ((xs ++ [x]).map Dx.toX))) → tz D σ H1) : tSeq (tDrop (tBM K "list" rAppend ta (tCons te tNil))) tz D σ H := z_app (D := { D with nx := tz D }) s e hi h hz k
/-- the same as last statements -/
theorem z_asgE {i : Nat} {x : α} (s : Sg K Mc He H is ms) (h : Hv K (muA ms ++ Mc) te σ H x) (k : ∀ v H1, Sg K Mc He H1 ((v, Dx.toX x) :: is) ms → D.nx (σ.set i (some v)) H1) : tAsg te (gName i) D σ H :=
  h H (Ex.refl H) s.mok _ fun v H1 e d => k v H1 ((s.ex e).put d)
theorem z_asgIE {i : Nat} {x : Int} (s : Sg K Mc He H is ms) (h : Hv K (muA ms ++ Mc) te σ H x) (k : ∀ H1, Sg K Mc He H1 is ms → D.nx (σ.set i (some (.int x))) H1) : tAsg te (gName i) D σ H :=
  h H (Ex.refl H) s.mok _ fun v H1 e d => by rw [d.int]; exact k H1 (s.ex e)
theorem z_asgBE {i : Nat} {x : Bool} (s : Sg K Mc He H is ms) (h : Hv K (muA ms ++ Mc) te σ H x) (k : ∀ H1, Sg K Mc He H1 is ms → D.nx (σ.set i (some (.bl x))) H1) : tAsg te (gName i) D σ H :=
  h H (Ex.refl H) s.mok _ fun v H1 e d => by rw [d.bool]; exact k H1 (s.ex e)
theorem z_asgSE {i : Nat} {x : Str} (s : Sg K Mc He H is ms) (h : Hv K (muA ms ++ Mc) te σ H x) (k : ∀ H1, Sg K Mc He H1 is ms → D.nx (σ.set i (some (.str x))) H1) : tAsg te (gName i) D σ H :=
  h H (Ex.refl H) s.mok _ fun v H1 e d => by rw [d.str]; exact k H1 (s.ex e)
theorem z_cut {N : L2.St → Hp → Prop} (h : tu { D with nx := N } σ H) (k : ∀ σ' H', N σ' H' → tz D σ' H') : tCut tu tz D σ H := ⟨N, h, k⟩

/-! ### loops -/
theorem for_listD {M : List Addr} {a : Addr} {xs : List α} (Pv : Nat → L2.St → Hp → Prop) (h0 : Pv 0 σ H) (hl : ∀ i σ' H', i ≤ xs.length → Pv i σ' H' → ∃ vs, SqL K H' a vs ∧ Dts K (msk M H') vs xs)
    (hs : ∀ i x w σ' H', xs[i]? = some x → Pv i σ' H' → Dt K (msk M H') w x → g w σ' H' fun σ2 H2 => tu { D with nx := Pv (i + 1), ct := Pv (i + 1), bk := D.nx } σ2 H2) (hd : ∀ σ' H', Pv xs.length σ' H' → D.nx σ' H') :
    ∃ W : Nat → Nat → L2.St → Hp → Prop, (∃ m, W 0 m σ H) ∧ ∀ i m σ H, W i m σ H →
      ((Itl K a).stop i H ∧ D.nx σ H) ∨ ((Itl K a).go i H ∧ ∃ N : L2.St → Hp → Prop, (∀ σ' H', N σ' H' → ∃ m', m' < m ∧ W (i + 1) m' σ' H') ∧ ∀ x H', (Itl K a).yld i H x H' → g x σ H' fun σ2 H2 => tu { D with nx := N, ct := N, bk := D.nx } σ2 H2) := by
  refine ⟨fun i m σ H => m = xs.length - i ∧ i ≤ xs.length ∧ Pv i σ H, ⟨xs.length, by simp, Nat.zero_le _, h0⟩, ?_⟩
  rintro i m σ H ⟨rfl, hi, p⟩
  obtain ⟨vs, q, ds⟩ := hl i σ H hi p
  have el := ds.len
  by_cases hlt : i < xs.length
  · refine .inr ⟨⟨vs, vs[i]'(by omega), q, by simp [show i < vs.length by omega]⟩, Pv (i + 1), fun σ' H' p' => ⟨xs.length - (i + 1), by omega, rfl, hlt, p'⟩, fun x H' y => ?_⟩
    obtain ⟨e, y⟩ := y
    subst e
    obtain ⟨w, h1, h2⟩ := ds.at (i := i) (x := xs[i]) (by simp [hlt])
    have e1 : x = w := Option.some.inj ((y vs q).symm.trans h1)
    subst e1
    exact hs i _ x σ _ (by simp [hlt]) p h2
  · have e : i = xs.length := by omega
    subst e
    exact .inl ⟨⟨vs, q, by omega⟩, hd σ H p⟩
/-- over a value -/
theorem z_for {xs : List α} (s : Sg K Mc He H is ms) (h : Hv K (muA ms ++ Mc) tl σ H xs) (Pv : V → Nat → L2.St → Hp → Prop) (h0 : ∀ v H1, Sg K Mc He H1 ((v, Dx.toX xs) :: is) ms → Pv v 0 σ H1)
    (hl : ∀ v i σ' H', Pv v i σ' H' → Dt K (msk (muA ms ++ Mc) H') v xs)
    (hs : ∀ v i x w σ' H', xs[i]? = some x → Pv v i σ' H' → Dt K (msk (muA ms ++ Mc) H') w x → g w σ' H' fun σ2 H2 => tu { D with nx := Pv v (i + 1), ct := Pv v (i + 1), bk := D.nx } σ2 H2)
    (hd : ∀ v σ' H', Pv v xs.length σ' H' → D.nx σ' H') : tFor (iList K tl) g tu D σ H :=
  h H (Ex.refl H) s.mok _ fun v H1 e d => by
    obtain ⟨a, vs, rfl, s1, ds⟩ := d.list
    refine ⟨a, rfl, ⟨vs, ex_l msk_le s1⟩, for_listD (Pv (.ref a)) (h0 _ H1 ((s.ex e).put d)) (fun i σ' H' _ p => ?_) (hs _) (hd _)⟩
    obtain ⟨a', vs', e', s2, ds'⟩ := (hl _ i σ' H' p).list
    cases e'
    exact ⟨vs', ex_l msk_le s2, ds'⟩
theorem zq_for {xs : List α} (s : Sg K Mc He H is ms) (h : Hv K (muA ms ++ Mc) tl σ H xs) (Pv : V → Nat → L2.St → Hp → Prop) (h0 : ∀ v H1, Sg K Mc He H1 ((v, Dx.toX xs) :: is) ms → Pv v 0 σ H1)
    (hl : ∀ v i σ' H', Pv v i σ' H' → Dt K (msk (muA ms ++ Mc) H') v xs)
    (hs : ∀ v i x w σ' H', xs[i]? = some x → Pv v i σ' H' → Dt K (msk (muA ms ++ Mc) H') w x → g w σ' H' fun σ2 H2 => tu { D with nx := Pv v (i + 1), ct := Pv v (i + 1), bk := tz D } σ2 H2)
    (hd : ∀ v σ' H', Pv v xs.length σ' H' → tz D σ' H') : tSeq (tFor (iList K tl) g tu) tz D σ H := z_for (D := { D with nx := tz D }) s h Pv h0 hl hs hd
/-- over the numbers 0 .. n - 1 -/
theorem z_forR {j : Nat} {n : Int} (s : Sg K Mc He H is ms) (h : Hv K (muA ms ++ Mc) te σ H n) (hn : -100000 ≤ n ∧ n ≤ 100000) (Pv : Nat → L2.St → Hp → Prop) (h0 : ∀ H1, Sg K Mc He H1 is ms → Pv 0 σ H1)
    (hs : ∀ (i : Nat) σ' H', (i : Int) < n → Pv i σ' H' → tu { D with nx := Pv (i + 1), ct := Pv (i + 1), bk := D.nx } (σ'.set j (some (.int (i : Int)))) H') (hd : ∀ σ' H', Pv n.toNat σ' H' → D.nx σ' H') : tFor (iRng1 (tCons te tNil)) (gName j) tu D σ H :=
  h H (Ex.refl H) s.mok _ fun v H1 e d => by
    refine ⟨n, by rw [d.int], by omega, by omega, for_range (lo := 0) (n := n.toNat) Pv (h0 H1 (s.ex e)) (fun i σ' H' hi p => ?_) hd⟩
    have e0 : (0 : Int) + (i : Int) = (i : Int) := Int.zero_add _
    show tu { D with nx := Pv (i + 1), ct := Pv (i + 1), bk := D.nx } (σ'.set j (some (.int ((0 : Int) + (i : Int))))) H'
    rw [e0]
    exact hs i σ' H' (by omega) p
theorem zq_forR {j : Nat} {n : Int} (s : Sg K Mc He H is ms) (h : Hv K (muA ms ++ Mc) te σ H n) (hn : -100000 ≤ n ∧ n ≤ 100000) (Pv : Nat → L2.St → Hp → Prop) (h0 : ∀ H1, Sg K Mc He H1 is ms → Pv 0 σ H1)
    (hs : ∀ (i : Nat) σ' H', (i : Int) < n → Pv i σ' H' → tu { D with nx := Pv (i + 1), ct := Pv (i + 1), bk := tz D } (σ'.set j (some (.int (i : Int)))) H') (hd : ∀ σ' H', Pv n.toNat σ' H' → tz D σ' H') : tSeq (tFor (iRng1 (tCons te tNil)) (gName j) tu) tz D σ H :=
  z_forR (D := { D with nx := tz D }) s h hn Pv h0 hs hd
theorem z_forR2 {j : Nat} {lo n : Int} (s : Sg K Mc He H is ms) (h1 : Hv K (muA ms ++ Mc) ta σ H lo) (h : Hv K (muA ms ++ Mc) te σ H n) (hn : -100000 ≤ lo ∧ lo ≤ 100000 ∧ -100000 ≤ n ∧ n ≤ 100000) (Pv : Nat → L2.St → Hp → Prop) (h0 : ∀ H1, Sg K Mc He H1 is ms → Pv 0 σ H1)
    (hs : ∀ (i : Nat) σ' H', lo + (i : Int) < n → Pv i σ' H' → tu { D with nx := Pv (i + 1), ct := Pv (i + 1), bk := D.nx } (σ'.set j (some (.int (lo + (i : Int))))) H') (hd : ∀ σ' H', Pv (n - lo).toNat σ' H' → D.nx σ' H') : tFor (iRng2 (tCons ta (tCons te tNil))) (gName j) tu D σ H :=
  h1 H (Ex.refl H) s.mok _ fun v H1 e d => h H1 e (s.mok.ex e) _ fun v' H2 e2 d' => by
    refine ⟨lo, n, by rw [d.int, d'.int], ⟨by omega, by omega, by omega, by omega⟩, for_range (lo := lo) (n := (n - lo).toNat) Pv (h0 H2 ((s.ex e).ex e2)) (fun i σ' H' hi p => hs i σ' H' (by omega) p) hd⟩
theorem zq_forR2 {j : Nat} {lo n : Int} (s : Sg K Mc He H is ms) (h1 : Hv K (muA ms ++ Mc) ta σ H lo) (h : Hv K (muA ms ++ Mc) te σ H n) (hn : -100000 ≤ lo ∧ lo ≤ 100000 ∧ -100000 ≤ n ∧ n ≤ 100000) (Pv : Nat → L2.St → Hp → Prop) (h0 : ∀ H1, Sg K Mc He H1 is ms → Pv 0 σ H1)
    (hs : ∀ (i : Nat) σ' H', lo + (i : Int) < n → Pv i σ' H' → tu { D with nx := Pv (i + 1), ct := Pv (i + 1), bk := tz D } (σ'.set j (some (.int (lo + (i : Int))))) H') (hd : ∀ σ' H', Pv (n - lo).toNat σ' H' → tz D σ' H') : tSeq (tFor (iRng2 (tCons ta (tCons te tNil))) (gName j) tu) tz D σ H :=
  z_forR2 (D := { D with nx := tz D }) s h1 h hn Pv h0 hs hd
end
end Ly

namespace Ly
open PySem PySem.Spec PyProof.Rows L2 Evl
open PySem.W (Datum DatumOrd Tup T3 T4)

/-! ### calls -/
section
variable {K : PySem.W.Frag} {Mc M : List Addr} {He H H1 H2 : Hp} {is js : Ims} {ms : Mus} {σ : L2.St} {te ta tb tl : TE}
variable {α β γ : Type} [DecidableEq α] [Dx α] [DecidableEq β] [Dx β]
/-- the promise of a def that changes nothing: its arguments hold what args tells of c, it gives F c -/
def PrD (K : PySem.W.Frag) (args : γ → List Xd) (pre : γ → Prop) (F : γ → β) : Sp := fun vs H Q _ =>
  ∃ (Mc : List Addr) (c : γ), MOk Mc H ∧ XpAll K (msk Mc H) vs (args c) ∧ pre c ∧ ∀ w H', Ex H H' → Dt K (msk Mc H') w (F c) → Q w H'
def HD (K : PySem.W.Frag) (M : List Addr) (ta : TA) (σ : L2.St) (H : Hp) (ds : List Xd) : Prop := HA M ta σ H (fun vs H => XpAll K (msk M H) vs ds)
theorem hd_nil : HD K M tNil σ H [] := fun H1 e m Q q => q [] H1 (Ex.refl H1) .nil
theorem hd_cons {tr : TA} {x : α} {ds : List Xd} (h : Hv K M te σ H x) (hr : HD K M tr σ H ds) : HD K M (tCons te tr) σ H (Dx.toX x :: ds) := fun H1 e m Q q =>
  h H1 e m _ fun v H2 e2 d => hr H2 (e.trans e2) (m.ex e2) _ fun vs H3 e3 p => q _ H3 (e2.trans e3) (.cons (dp_mono (msk_ex e3) d) p)
theorem hv_call {args : γ → List Xd} {pre : γ → Prop} {F : γ → β} {tr : TA} {E : XK} (c : γ) (h : HD K M tr σ H (args c)) (p : pre c) : Hv K M (tCall (PrD K args pre F) [] E tr) σ H (F c) := fun H1 e m Q q =>
  h H1 e m _ fun vs H2 e2 d => by
    show PrD K args pre F (vs ++ []) H2 Q E
    rw [List.append_nil]
    exact ⟨M, c, m.ex e2, d, p, fun w H3 e3 d3 => q w H3 (e2.trans e3) d3⟩
end

/-! ### loops, as functions -/
def loopN {S : Type} (f : S → Int → S) : Nat → Int → S → S
  | 0, _, s => s
  | n + 1, k, s => loopN f n (k + 1) (f s k)
theorem loopN_step {S : Type} {f : S → Int → S} {n i : Nat} {lo : Int} {s : S} (h : i < n) : loopN f (n - i) (lo + (i : Int)) s = loopN f (n - (i + 1)) (lo + ((i + 1 : Nat) : Int)) (f s (lo + (i : Int))) := by
  have e : n - i = (n - (i + 1)) + 1 := by omega
  rw [e]
  show loopN f (n - (i + 1)) (lo + (i : Int) + 1) _ = _
  rw [show lo + (i : Int) + 1 = lo + ((i + 1 : Nat) : Int) by omega]
theorem loopN_end {S : Type} {f : S → Int → S} {n : Nat} {lo : Int} {s : S} : loopN f (n - n) lo s = s := by rw [Nat.sub_self]; rfl
/-- a turn that may leave: a result, a break, or on -/
inductive Lp (ρ S : Type) where
  | ret (r : ρ)
  | brk (s : S)
  | nxt (s : S)
def loopNR {ρ S : Type} (f : S → Int → Lp ρ S) : Nat → Int → S → ρ ⊕ S
  | 0, _, s => .inr s
  | n + 1, k, s => match f s k with
    | .ret r => .inl r
    | .brk s' => .inr s'
    | .nxt s' => loopNR f n (k + 1) s'
theorem loopNR_nxt {ρ S : Type} {f : S → Int → Lp ρ S} {n i : Nat} {lo : Int} {s s' : S} (h : i < n) (e : f s (lo + (i : Int)) = .nxt s') : loopNR f (n - i) (lo + (i : Int)) s = loopNR f (n - (i + 1)) (lo + ((i + 1 : Nat) : Int)) s' := by
  have e1 : n - i = (n - (i + 1)) + 1 := by omega
  rw [e1]
  show (match f s (lo + (i : Int)) with | .ret r => Sum.inl r | .brk s' => Sum.inr s' | .nxt s' => loopNR f (n - (i + 1)) (lo + (i : Int) + 1) s') = _
  rw [e, show lo + (i : Int) + 1 = lo + ((i + 1 : Nat) : Int) by omega]
theorem loopNR_ret {ρ S : Type} {f : S → Int → Lp ρ S} {n i : Nat} {lo : Int} {s : S} {r : ρ} (h : i < n) (e : f s (lo + (i : Int)) = .ret r) : loopNR f (n - i) (lo + (i : Int)) s = .inl r := by
  have e1 : n - i = (n - (i + 1)) + 1 := by omega
  rw [e1]
  show (match f s (lo + (i : Int)) with | .ret r => Sum.inl r | .brk s' => Sum.inr s' | .nxt s' => loopNR f (n - (i + 1)) (lo + (i : Int) + 1) s') = _
  rw [e]
theorem loopNR_brk {ρ S : Type} {f : S → Int → Lp ρ S} {n i : Nat} {lo : Int} {s s' : S} (h : i < n) (e : f s (lo + (i : Int)) = .brk s') : loopNR f (n - i) (lo + (i : Int)) s = .inr s' := by
  have e1 : n - i = (n - (i + 1)) + 1 := by omega
  rw [e1]
  show (match f s (lo + (i : Int)) with | .ret r => Sum.inl r | .brk s' => Sum.inr s' | .nxt s' => loopNR f (n - (i + 1)) (lo + (i : Int) + 1) s') = _
  rw [e]
theorem loopNR_end {ρ S : Type} {f : S → Int → Lp ρ S} {n : Nat} {lo : Int} {s : S} : loopNR f (n - n) lo s = .inr s := by rw [Nat.sub_self]; rfl
theorem drop_at {α : Type} {xs : List α} {i : Nat} {x : α} (h : xs[i]? = some x) : xs.drop i = x :: xs.drop (i + 1) := by
  obtain ⟨h1, h2⟩ := List.getElem?_eq_some_iff.mp h
  rw [List.drop_eq_getElem_cons h1, h2]
theorem foldl_step {α S : Type} {f : S → α → S} {xs : List α} {i : Nat} {x : α} {s : S} (h : xs[i]? = some x) : (xs.drop i).foldl f s = (xs.drop (i + 1)).foldl f (f s x) := by
  rw [drop_at h]; rfl
theorem foldl_end {α S : Type} {f : S → α → S} {xs : List α} {s : S} : (xs.drop xs.length).foldl f s = s := by rw [List.drop_length]; rfl
def loopL {α ρ S : Type} (f : S → α → Lp ρ S) : List α → S → ρ ⊕ S
  | [], s => .inr s
  | x :: r, s => match f s x with
    | .ret r => .inl r
    | .brk s' => .inr s'
    | .nxt s' => loopL f r s'
theorem loopL_nxt {α ρ S : Type} {f : S → α → Lp ρ S} {xs : List α} {i : Nat} {x : α} {s s' : S} (h : xs[i]? = some x) (e : f s x = .nxt s') : loopL f (xs.drop i) s = loopL f (xs.drop (i + 1)) s' := by
  rw [drop_at h, loopL, e]
theorem loopL_ret {α ρ S : Type} {f : S → α → Lp ρ S} {xs : List α} {i : Nat} {x : α} {s : S} {r : ρ} (h : xs[i]? = some x) (e : f s x = .ret r) : loopL f (xs.drop i) s = .inl r := by
  rw [drop_at h, loopL, e]
theorem loopL_brk {α ρ S : Type} {f : S → α → Lp ρ S} {xs : List α} {i : Nat} {x : α} {s s' : S} (h : xs[i]? = some x) (e : f s x = .brk s') : loopL f (xs.drop i) s = .inr s' := by
  rw [drop_at h, loopL, e]
theorem loopL_end {α ρ S : Type} {f : S → α → Lp ρ S} {xs : List α} {s : S} : loopL f (xs.drop xs.length) s = .inr s := by rw [List.drop_length]; rfl

/-! ### items, lengths -/
section
variable {K : PySem.W.Frag} {Mc M : List Addr} {He H H1 H2 : Hp} {is js : Ims} {ms : Mus} {σ : L2.St} {te ta tb tl : TE}
variable {α β γ : Type} [DecidableEq α] [Dx α] [DecidableEq β] [Dx β] [DecidableEq γ] [Dx γ]
theorem getD_at {xs : List α} {i : Int} {d : α} (h0 : 0 ≤ i) (h : i < (xs.length : Int)) : xs[i.toNat]? = some (xs.getD i.toNat d) := by
  have h1 : i.toNat < xs.length := by omega
  rw [List.getD_eq_getElem?_getD, List.getElem?_eq_getElem h1]
  rfl
theorem hv_at {xs : List α} {i : Int} (d : α) (ha : HS K M ta σ H xs) (hb : Hv K M tb σ H i) (h0 : 0 ≤ i) (h : i < (xs.length : Int)) : Hv K M (tOp (rIxL K) ta tb) σ H (xs.getD i.toNat d) :=
  hv_ixS ha hb h0 (getD_at h0 h)
theorem hv_atV {xs : Tup α} {i : Int} (d : α) (ha : Hv K M ta σ H xs) (hb : Hv K M tb σ H i) (h0 : 0 ≤ i) (h : i < (xs.items.length : Int)) : Hv K M (tOp (rIxT K) ta tb) σ H (xs.items.getD i.toNat d) :=
  hv_ixV ha hb h0 (getD_at h0 h)
/-- len -/
theorem hv_len {xs : List α} (ha : HS K M ta σ H xs) : Hv K M (tCB (fun xs H Q => ∃ x n, xs = [x] ∧ LenV K x H n ∧ Q (.int n) H) (tCons ta tNil)) σ H (xs.length : Int) := fun H1 e m Q q =>
  ha H1 e m _ fun a vs H2 e2 s d => ⟨.ref a, vs.length, rfl, Or.inl ⟨vs, s, rfl⟩, q _ H2 e2 (by rw [d.len]; exact Dt.ofInt _)⟩
theorem hv_lenV {xs : Tup α} (ha : Hv K M ta σ H xs) : Hv K M (tCB (fun xs H Q => ∃ x n, xs = [x] ∧ LenV K x H n ∧ Q (.int n) H) (tCons ta tNil)) σ H (xs.items.length : Int) := fun H1 e m Q q =>
  ha H1 e m _ fun v H2 e2 d => by
    obtain ⟨a, vs, rfl, s, ds⟩ := d.tupv
    exact ⟨.ref a, vs.length, rfl, Or.inr ⟨vs, ex_t msk_le s, rfl⟩, q _ H2 e2 (by rw [ds.len]; exact Dt.ofInt _)⟩
theorem hv_len2 {x : α × β} (ha : Hv K M ta σ H x) : Hv K M (tCB (fun xs H Q => ∃ x n, xs = [x] ∧ LenV K x H n ∧ Q (.int n) H) (tCons ta tNil)) σ H (2 : Int) := fun H1 e m Q q =>
  ha H1 e m _ fun v H2 e2 d => by
    obtain ⟨a, u, w, rfl, s, _⟩ := d.pair
    exact ⟨.ref a, 2, rfl, Or.inr ⟨_, ex_t msk_le s, rfl⟩, q _ H2 e2 (Dt.ofInt _)⟩
theorem hv_len3 {x : T3 α β γ} (ha : Hv K M ta σ H x) : Hv K M (tCB (fun xs H Q => ∃ x n, xs = [x] ∧ LenV K x H n ∧ Q (.int n) H) (tCons ta tNil)) σ H (3 : Int) := fun H1 e m Q q =>
  ha H1 e m _ fun v H2 e2 d => by
    obtain ⟨a, u, w, z, rfl, s, _⟩ := d.t3
    exact ⟨.ref a, 3, rfl, Or.inr ⟨_, ex_t msk_le s, rfl⟩, q _ H2 e2 (Dt.ofInt _)⟩

/-! ### isinstance -/
/-- the built-in type of every value of α -/
class TyNm (α : Type) [DecidableEq α] [Dx α] where
  nm : String
  ty : ∀ {K : PySem.W.Frag} {H : Hp} {v : V} {x : α}, Dt K H v x → TyX K H v (.type nm)
theorem tyx_ex {K : PySem.W.Frag} {H H' : Hp} {v : V} {n : String} (e : Ex H H') (h : TyX K H v (.type n)) : TyX K H' v (.type n) := by
  cases h with
  | base h =>
    cases h with
    | non => exact .base .non
    | bl b => exact .base (.bl b)
    | int b => exact .base (.int b)
    | str b => exact .base (.str b)
    | flt b => exact .base (.flt b)
    | lst h => exact .base (.lst (e _ _ h))
    | frz h => exact .base (.frz (e _ _ h))
    | tup h => exact .base (.tup (e _ _ h))
    | dK h => exact .base (.dK (e _ _ h))
    | dT h => exact .base (.dT (e _ _ h))
  | byt y => exact .byt y
  | set h => exact .set (e _ _ h)
  | kList h c => exact .kList h c
  | kTuple h c => exact .kTuple h c
  | kDict h c => exact .kDict h c
  | fTuple h => exact .fTuple (e _ _ h)
  | fDict h => exact .fDict (e _ _ h)

instance : TyNm Int := ⟨"int", fun d => by cases d.int; exact .base (.int _)⟩
instance : TyNm Bool := ⟨"bool", fun d => by cases d.bool; exact .base (.bl _)⟩
instance : TyNm Str := ⟨"str", fun d => by cases d.str; exact .base (.str _)⟩
theorem tyx_L {K : PySem.W.Frag} {H : Hp} {a : Addr} {vs : List V} (h : SqL K H a vs) : TyX K H (.ref a) (.type "list") := by
  rcases h with (h | ⟨o, h⟩) | ⟨o, its, n, h, c, _⟩
  · exact .base (.lst h)
  · exact .base (.frz h)
  · exact .kList h c
theorem tyx_T {K : PySem.W.Frag} {H : Hp} {a : Addr} {vs : List V} (h : SqT K H a vs) : TyX K H (.ref a) (.type "tuple") := by
  rcases h with (h | ⟨o, h⟩) | ⟨o, its, n, h, c, _⟩
  · exact .base (.tup h)
  · exact .fTuple h
  · exact .kTuple h c
instance : TyNm (List α) := ⟨"list", fun d => by obtain ⟨a, vs, rfl, s, _⟩ := d.list; exact tyx_L s⟩
instance : TyNm (Tup α) := ⟨"tuple", fun d => by obtain ⟨a, vs, rfl, s, _⟩ := d.tupv; exact tyx_T s⟩
instance : TyNm (α × β) := ⟨"tuple", fun d => by obtain ⟨a, u, w, rfl, s, _⟩ := d.pair; exact tyx_T s⟩
instance : TyNm (T3 α β γ) := ⟨"tuple", fun d => by obtain ⟨a, u, w, z, rfl, s, _⟩ := d.t3; exact tyx_T s⟩
theorem hv_isi {x : α} [T : TyNm α] {n : String} {b : Bool} (ha : Hv K M ta σ H x) (h : kitB T.nm n = some b) : Hv K M (tCB (rIsi K) (tCons ta (tCons (tC (.ty n)) tNil))) σ H b := fun H1 e m Q q =>
  ha H1 e m _ fun v H2 e2 d => ⟨v, .ty n, .type T.nm, .type n, b, rfl, .ty n, tyx_ex msk_le (T.ty d), kit_ty h, q _ H2 e2 (Dt.ofBool b)⟩

/-! ### == and < of data -/
theorem dt_holds [Datum α] [DxD α] {X : Cx} {pins : List (Addr × Obj)} {s : Shared} {x : α} {v : V} {u : Value} (I : Inv X pins σ H s) (d : Dt X.K H v x) (r : RelV v u) : PySem.W.Holds s.heap u x := Dp.reads I _ v u (DxD.link d) r
def rEqT (α : Type) [DecidableEq α] [Dx α] (K : PySem.W.Frag) : R2 := fun x y H Q => ∃ a b : α, Dt K H x a ∧ Dt K H y b ∧ Q (.bl (decide (a = b))) H
def rNeT (α : Type) [DecidableEq α] [Dx α] (K : PySem.W.Frag) : R2 := fun x y H Q => ∃ a b : α, Dt K H x a ∧ Dt K H y b ∧ Q (.bl (!decide (a = b))) H
theorem op_eqT [Datum α] [DxD α] {X : Cx} (hu : X.A.units + Datum.depth α < cLine) : OpR X (compareOp .Eq) (rEqT α X.K) := by
  intro pins s σ H x y v u Q I rx ry h
  obtain ⟨a, b, da, db, q⟩ := h
  exact PySem.W.eq_datum (dt_holds I da rx) (dt_holds I db ry) hu ⟨.bl _, H, I, rfl, q⟩
theorem op_neT [Datum α] [DxD α] {X : Cx} (hu : X.A.units + Datum.depth α < cLine) : OpR X (compareOp .NotEq) (rNeT α X.K) := by
  intro pins s σ H x y v u Q I rx ry h
  obtain ⟨a, b, da, db, q⟩ := h
  exact PySem.W.ne_datum (dt_holds I da rx) (dt_holds I db ry) hu ⟨.bl _, H, I, rfl, by rw [show decide (a ≠ b) = !decide (a = b) from decide_not]; exact q⟩
theorem hv_eqT {x y : α} (ha : Hv K [] ta σ H x) (hb : Hv K [] tb σ H y) : Hv K M (tOp (rEqT α K) ta tb) σ H (decide (x = y)) := fun H1 e m Q q =>
  ha H1 e (fun _ z => nomatch z) _ fun v H2 e2 d => hb H2 (e.trans e2) (fun _ z => nomatch z) _ fun u H3 e3 d' => by
    rw [msk_nil] at d d'
    exact ⟨x, y, d.mono e3, d', q _ H3 (e2.trans e3) (Dt.ofBool _)⟩
theorem hv_neT {x y : α} (ha : Hv K [] ta σ H x) (hb : Hv K [] tb σ H y) : Hv K M (tOp (rNeT α K) ta tb) σ H (!decide (x = y)) := fun H1 e m Q q =>
  ha H1 e (fun _ z => nomatch z) _ fun v H2 e2 d => hb H2 (e.trans e2) (fun _ z => nomatch z) _ fun u H3 e3 d' => by
    rw [msk_nil] at d d'
    exact ⟨x, y, d.mono e3, d', q _ H3 (e2.trans e3) (Dt.ofBool _)⟩
end
section
variable {K : PySem.W.Frag} {M : List Addr} {H H1 H2 : Hp} {σ : L2.St} {te ta tb tl : TE}
variable {α : Type} [DecidableEq α] [Dx α] [DatumOrd α]
def rLtT (α : Type) [DecidableEq α] [Dx α] [DatumOrd α] (K : PySem.W.Frag) : R2 := fun x y H Q => ∃ a b : α, Dt K H x a ∧ Dt K H y b ∧ Q (.bl (DatumOrd.lt a b)) H
theorem op_ltT [DxD α] {X : Cx} (hu : X.A.units + Datum.depth α < cLine) : OpR X (compareOp .Lt) (rLtT α X.K) := by
  intro pins s σ H x y v u Q I rx ry h
  obtain ⟨a, b, da, db, q⟩ := h
  exact PySem.W.lt_datum (dt_holds I da rx) (dt_holds I db ry) hu ⟨.bl _, H, I, rfl, q⟩
theorem hv_ltT {x y : α} (ha : Hv K [] ta σ H x) (hb : Hv K [] tb σ H y) : Hv K M (tOp (rLtT α K) ta tb) σ H (DatumOrd.lt x y) := fun H1 e m Q q =>
  ha H1 e (fun _ z => nomatch z) _ fun v H2 e2 d => hb H2 (e.trans e2) (fun _ z => nomatch z) _ fun u H3 e3 d' => by
    rw [msk_nil] at d d'
    exact ⟨x, y, d.mono e3, d', q _ H3 (e2.trans e3) (Dt.ofBool _)⟩
end
theorem hud {A : Around} {k d : Nat} (hr : Room k A) (h : d ≤ 64) : A.units + d < cLine := Nat.lt_of_le_of_lt (Nat.add_le_add_left h _) hr.units
end Ly

namespace Ly
open PySem PySem.Spec PyProof.Rows L2 Evl
open PySem.W (Datum DatumOrd Tup T3 T4)

theorem dpa_inv {K : PySem.W.Frag} {H : Hp} {vs : List V} {d : Xd} {ds : List Xd} (h : XpAll K H vs (d :: ds)) : ∃ v r, vs = v :: r ∧ Xp K H v d ∧ XpAll K H r ds := by
  cases h with
  | cons a b => exact ⟨_, _, rfl, a, b⟩
theorem dpa_inv0 {K : PySem.W.Frag} {H : Hp} {vs : List V} (h : XpAll K H vs []) : vs = [] := by cases h; rfl

section
variable {K : PySem.W.Frag} {Mc : List Addr} {He H H1 H2 : Hp} {is js : Ims} {ms : Mus} {σ : L2.St} {te ta tb tl : TE}
variable {α β : Type} [DecidableEq α] [Dx α] [DecidableEq β] [Dx β]
variable {D : Ends} {tz tu tw : TS} {tt : TT} {g : TG}
/-! ### statements that name what they store -/
theorem z_asgG {i : Nat} {x : α} (s : Sg K Mc He H is ms) (h : Hv K (muA ms ++ Mc) te σ H x) (k : ∀ y, y = x → ∀ v H1, Sg K Mc He H1 ((v, Dx.toX y) :: is) ms → tz D (σ.set i (some v)) H1) : tSeq (tAsg te (gName i)) tz D σ H :=
  z_asg s h (k x rfl)
theorem z_asgIG {i : Nat} {x : Int} (s : Sg K Mc He H is ms) (h : Hv K (muA ms ++ Mc) te σ H x) (k : ∀ y, y = x → ∀ H1, Sg K Mc He H1 is ms → tz D (σ.set i (some (.int y))) H1) : tSeq (tAsg te (gName i)) tz D σ H :=
  z_asgI s h (k x rfl)
theorem z_asgBG {i : Nat} {x : Bool} (s : Sg K Mc He H is ms) (h : Hv K (muA ms ++ Mc) te σ H x) (k : ∀ y, y = x → ∀ H1, Sg K Mc He H1 is ms → tz D (σ.set i (some (.bl y))) H1) : tSeq (tAsg te (gName i)) tz D σ H :=
  z_asgB s h (k x rfl)
theorem z_asgSG {i : Nat} {x : Str} (s : Sg K Mc He H is ms) (h : Hv K (muA ms ++ Mc) te σ H x) (k : ∀ y, y = x → ∀ H1, Sg K Mc He H1 is ms → tz D (σ.set i (some (.str y))) H1) : tSeq (tAsg te (gName i)) tz D σ H :=
  z_asgS s h (k x rfl)
theorem z_augG {i : Nat} {f : Int → Int → Int} {a b : Int} (s : Sg K Mc He H is ms) (hx : σ[i]? = some (some (.int a))) (h : Hv K (muA ms ++ Mc) te σ H b) (k : ∀ y, y = f a b → ∀ H1, Sg K Mc He H1 is ms → tz D (σ.set i (some (.int y))) H1) : tSeq (tAug i te (ipI f)) tz D σ H :=
  ⟨.int a, hx, h H (Ex.refl H) s.mok _ fun v H1 e d => ⟨a, b, rfl, d.int, k _ rfl H1 (s.ex e)⟩⟩
theorem z_nilG {i : Nat} (α : Type) [DecidableEq α] [Dx α] (s : Sg K Mc He H is ms) (k : ∀ y : List α, y = [] → ∀ p H1, Sg K Mc He H1 is ((p, .lst (y.map Dx.toX)) :: ms) → tz D (σ.set i (some (.ref p))) H1) : tSeq (tAsg (tLst tNil) (gName i)) tz D σ H :=
  z_nil s (k [] rfl)
theorem zq_appG {kk : Nat} {l : Addr} {xs : List α} {x : α} (s : Sg K Mc He H is ms) (e : ms[kk]? = some (l, .lst (xs.map Dx.toX))) (hi : Ev ta σ H (.ref l)) (h : Hv K (muA ms ++ Mc) te σ H x) (hz : xs.length < 100000)
    (k : ∀ y, y = xs ++ [x] → ∀ H1, Sg K Mc He H1 is (ms.set kk (l, .lst (y.map Dx.toX))) → tz D σ H1) : tSeq (tDrop (tBM K "list" rAppend ta (tCons te tNil))) tz D σ H := zq_app s e hi h hz (k _ rfl)
theorem zq_ret {x : α} (s : Sg K Mc He H is ms) (h : Hv K (muA ms ++ Mc) te σ H x) (k : ∀ v H1, Ex He H1 → Dt K (msk Mc H1) v x → D.rt v H1) : tSeq (tRet te) tz D σ H := z_ret (D := { D with nx := tz D }) s h k
/-- an if without else -/
theorem z_ifx {b : Bool} (s : Sg K Mc He H is ms) (h : HT (muA ms ++ Mc) tt σ H b) (h1 : b = true → ∀ H1, Sg K Mc He H1 is ms → tu { D with nx := tz D } σ H1) (h2 : b = false → ∀ H1, Sg K Mc He H1 is ms → tz D σ H1) :
    tSeq (tIfS tt tu tNext) tz D σ H := z_if s h h1 h2
/-- an if behind which both ways go on, N what they reach -/
theorem z_ifj {b : Bool} (N : L2.St → Hp → Prop) (s : Sg K Mc He H is ms) (h : HT (muA ms ++ Mc) tt σ H b) (h1 : b = true → ∀ H1, Sg K Mc He H1 is ms → tu { D with nx := N } σ H1) (h2 : b = false → ∀ H1, Sg K Mc He H1 is ms → tw { D with nx := N } σ H1)
    (k : ∀ σ' H', N σ' H' → tz D σ' H') : tCut (tIfS tt tu tw) tz D σ H := ⟨N, z_ifE (D := { D with nx := N }) s h h1 h2, k⟩

/-! ### loops that name their item -/
theorem zq_forR1G {j : Nat} {n : Int} (s : Sg K Mc He H is ms) (h : Hv K (muA ms ++ Mc) te σ H n) (hn : -100000 ≤ n ∧ n ≤ 100000) (Pv : Nat → L2.St → Hp → Prop) (h0 : ∀ H1, Sg K Mc He H1 is ms → Pv 0 σ H1)
    (hs : ∀ (i : Nat) (x : Int) σ' H', x = (0 : Int) + (i : Int) → i < n.toNat → Pv i σ' H' → tu { D with nx := Pv (i + 1), ct := Pv (i + 1), bk := tz D } (σ'.set j (some (.int x))) H') (hd : ∀ σ' H', Pv n.toNat σ' H' → tz D σ' H') : tSeq (tFor (iRng1 (tCons te tNil)) (gName j) tu) tz D σ H :=
  zq_forR s h hn Pv h0 (fun i σ' H' hi p => hs i _ σ' H' (Int.zero_add _).symm (by omega) p) hd
theorem zq_forR2G {j : Nat} {lo n : Int} (s : Sg K Mc He H is ms) (h1 : Hv K (muA ms ++ Mc) ta σ H lo) (h : Hv K (muA ms ++ Mc) te σ H n) (hn : -100000 ≤ lo ∧ lo ≤ 100000 ∧ -100000 ≤ n ∧ n ≤ 100000) (Pv : Nat → L2.St → Hp → Prop) (h0 : ∀ H1, Sg K Mc He H1 is ms → Pv 0 σ H1)
    (hs : ∀ (i : Nat) (x : Int) σ' H', x = lo + (i : Int) → i < (n - lo).toNat → Pv i σ' H' → tu { D with nx := Pv (i + 1), ct := Pv (i + 1), bk := tz D } (σ'.set j (some (.int x))) H') (hd : ∀ σ' H', Pv (n - lo).toNat σ' H' → tz D σ' H') : tSeq (tFor (iRng2 (tCons ta (tCons te tNil))) (gName j) tu) tz D σ H :=
  zq_forR2 s h1 h hn Pv h0 (fun i σ' H' hi p => hs i _ σ' H' rfl (by omega) p) hd
/-- over a list, the target a name; the item put among what is known -/
theorem zq_forG {xs : List α} {j : Nat} (s : Sg K Mc He H is ms) (h : Hv K (muA ms ++ Mc) tl σ H xs) (Pv : V → Nat → L2.St → Hp → Prop) (h0 : ∀ v H1, Sg K Mc He H1 ((v, Dx.toX xs) :: is) ms → Pv v 0 σ H1)
    (hl : ∀ v i σ' H', Pv v i σ' H' → Dt K (msk (muA ms ++ Mc) H') v xs)
    (hs : ∀ v i x w σ' H', xs[i]? = some x → Pv v i σ' H' → Dt K (msk (muA ms ++ Mc) H') w x → tu { D with nx := Pv v (i + 1), ct := Pv v (i + 1), bk := tz D } (σ'.set j (some w)) H')
    (hd : ∀ v σ' H', Pv v xs.length σ' H' → tz D σ' H') : tSeq (tFor (iList K tl) (gName j) tu) tz D σ H := zq_for s h Pv h0 hl hs hd
/-- over a list that may still change (not in the loop) -/
theorem zq_forM {xs : List α} {kk : Nat} {l : Addr} {ii : Nat} (s : Sg K Mc He H is ms) (e : ms[kk]? = some (l, .lst (xs.map Dx.toX))) (hi : σ[ii]? = some (some (.ref l))) (Pv : Nat → L2.St → Hp → Prop) (h0 : ∀ H1, Sg K Mc He H1 is ms → Pv 0 σ H1)
    (hl : ∀ i σ' H', Pv i σ' H' → ∃ vs, H' l = some (.lst vs) ∧ Dts K (msk (muA ms ++ Mc) H') vs xs)
    (hs : ∀ i x w σ' H', xs[i]? = some x → Pv i σ' H' → Dt K (msk (muA ms ++ Mc) H') w x → g w σ' H' fun σ2 H2 => tu { D with nx := Pv (i + 1), ct := Pv (i + 1), bk := tz D } σ2 H2)
    (hd : ∀ σ' H', Pv xs.length σ' H' → tz D σ' H') : tSeq (tFor (iList K (tVar ii)) g tu) tz D σ H := by
  obtain ⟨vs, h1, h2⟩ := s.lst e
  refine ⟨_, hi, l, rfl, ⟨vs, SqL.of h1⟩, for_listD (D := { D with nx := tz D }) (M := muA ms ++ Mc) Pv (h0 H s) (fun i σ' H' _ p => ?_) hs hd⟩
  obtain ⟨vs', h3, h4⟩ := hl i σ' H' p
  exact ⟨vs', SqL.of h3, h4⟩
end
end Ly

namespace Ly
open PySem PySem.Spec PyProof.Rows L2 Evl
open PySem.W (Datum DatumOrd Tup T3 T4)
theorem dts_ints {K : PySem.W.Frag} {H : Hp} : ∀ ns : List Int, Dts K H (ns.map V.int) ns
  | [] => Dts.nil
  | n :: r => Dts.cons (Dt.ofInt n) (dts_ints r)
/-- the law's promise is kept where its mirror is true -/
theorem law_sp {K : PySem.W.Frag} {F : List Int → Bool} {pre : List Int → Prop} {H : Hp} {a : Addr} {ns : List Int} {E : XK} (h : SqL K H a (ns.map V.int)) (p : pre ns) (t : F ns = true) :
    PrD K (fun c : List Int => [Dx.toX c]) pre F [.ref a] H (fun v _ => v = .bl true) E := by
  refine ⟨[], ns, (fun _ z => nomatch z), ?_, p, fun w H' e d => ?_⟩
  · rw [msk_nil]
    exact .cons (Dt.ofList h (dts_ints ns)) .nil
  · rw [d.bool, t]
end Ly

namespace Ly
open PySem PySem.Spec PyProof.Rows L2 Evl
open PySem.W (Datum DatumOrd Tup T3 T4)

section
variable {K : PySem.W.Frag} {Mc M : List Addr} {He H H1 H2 : Hp} {is js : Ims} {ms : Mus} {σ : L2.St} {te ta tb tl : TE} {tt : TT} {g : TG} {tlo thi : TO}
variable {α β γ δ : Type} [DecidableEq α] [Dx α] [DecidableEq β] [Dx β] [DecidableEq γ] [Dx γ] [DecidableEq δ] [Dx δ]
/-! ### parts of lists, copies -/
def HO' (M : List Addr) (to : TO) (σ : L2.St) (H : Hp) (o : Option Int) : Prop := ∀ H1, Ex H H1 → MOk M H1 → ∀ Q : Option Int → Hp → Prop, (∀ H2, Ex H1 H2 → Q o H2) → to σ H1 Q
theorem ho_none : HO' M tNoPart σ H none := fun H1 _ _ _ q => q H1 (Ex.refl H1)
theorem ho_some {i : Int} (h : Hv K M te σ H i) : HO' M (tPart te) σ H (some i) := fun H1 e m _ q => h H1 e m _ fun v H2 e2 d => ⟨i, d.int, q H2 e2⟩
def cutL {α : Type} (xs : List α) (lo hi : Option Int) : List α := (xs.drop (HT.sIx xs.length 0 lo)).take (HT.sIx xs.length xs.length hi - HT.sIx xs.length 0 lo)
theorem dpa_drop {H : Hp} : ∀ {vs : List V} {ds : List Xd} (n : Nat), XpAll K H vs ds → XpAll K H (vs.drop n) (ds.drop n)
  | _, _, 0, h => h
  | _, _, n + 1, .nil => .nil
  | _, _, n + 1, .cons a b => dpa_drop n b
theorem dpa_take {H : Hp} : ∀ {vs : List V} {ds : List Xd} (n : Nat), XpAll K H vs ds → XpAll K H (vs.take n) (ds.take n)
  | _, _, 0, h => by simpa using XpAll.nil
  | _, _, n + 1, .nil => .nil
  | _, _, n + 1, .cons a b => .cons a (dpa_take n b)
theorem Dts.cut {H : Hp} {vs : List V} {xs : List α} {lo hi : Option Int} (h : Dts K H vs xs) : Dts K H (cutV vs lo hi) (cutL xs lo hi) := by
  unfold cutV cutL Dts
  rw [h.len, List.map_take, List.map_drop]
  exact dpa_take _ (dpa_drop _ h)
theorem hv_slice {xs : List α} {lo hi : Option Int} (h : HS K M te σ H xs) (h1 : HO' M tlo σ H lo) (h2 : HO' M thi σ H hi) : Hv K M (tSl (rSlL K) te tlo thi) σ H (cutL xs lo hi) := fun H1 e m Q q =>
  h H1 e m _ fun a vs H2 e2 s d => h1 H2 (e.trans e2) (m.ex e2) _ fun H3 e3 => h2 H3 ((e.trans e2).trans e3) ((m.ex e2).ex e3) _ fun H4 e4 =>
    ⟨a, vs, rfl, ex_l (e3.trans e4) s, fun p hp => by
      have m4 := ((m.ex e2).ex e3).ex e4
      have e5 : Ex H4 (upd H4 p (.lst (cutV vs lo hi))) := Ex.new hp
      exact q _ _ (((e2.trans e3).trans e4).trans e5) (Dt.ofList (SqL.of (msk_at m4 hp)) ((d.mono (msk_ex ((e3.trans e4).trans e5))).cut))⟩
theorem hv_listOf {xs : List α} (h : HS K M te σ H xs) : Hv K M (tCB (fun xs H Q => ∃ p ys, xs = [.ref p] ∧ (SqL K H p ys ∨ SqT K H p ys) ∧ ∀ l, H l = none → Q (.ref l) (upd H l (.lst ys))) (tCons te tNil)) σ H xs := fun H1 e m Q q =>
  h H1 e m _ fun a vs H2 e2 s d => ⟨a, vs, rfl, Or.inl s, fun p hp => by
    have e3 : Ex H2 (upd H2 p (.lst vs)) := Ex.new hp
    exact q _ _ (e2.trans e3) (Dt.ofList (SqL.of (msk_at (m.ex e2) hp)) (d.mono (msk_ex e3)))⟩
theorem hv_listOfV {xs : Tup α} (h : Hv K M te σ H xs) : Hv K M (tCB (fun xs H Q => ∃ p ys, xs = [.ref p] ∧ (SqL K H p ys ∨ SqT K H p ys) ∧ ∀ l, H l = none → Q (.ref l) (upd H l (.lst ys))) (tCons te tNil)) σ H xs.items := fun H1 e m Q q =>
  h H1 e m _ fun v H2 e2 d => by
    obtain ⟨a, vs, rfl, s, ds⟩ := d.tupv
    refine ⟨a, vs, rfl, Or.inr (ex_t msk_le s), fun p hp => ?_⟩
    have e3 : Ex H2 (upd H2 p (.lst vs)) := Ex.new hp
    exact q _ _ (e2.trans e3) (Dt.ofList (SqL.of (msk_at (m.ex e2) hp)) (ds.mono (msk_ex e3)))
theorem hv_tupleOf {xs : List α} (h : HS K M te σ H xs) : Hv K M (tCB (fun xs H Q => ∃ p ys, xs = [.ref p] ∧ ((SqL K H p ys ∧ ∀ l, H l = none → Q (.ref l) (upd H l (.tup ys))) ∨ (SqT K H p ys ∧ Q (.ref p) H))) (tCons te tNil)) σ H (Tup.mk xs) := fun H1 e m Q q =>
  h H1 e m _ fun a vs H2 e2 s d => ⟨a, vs, rfl, Or.inl ⟨s, fun p hp => by
    have e3 : Ex H2 (upd H2 p (.tup vs)) := Ex.new hp
    exact q _ _ (e2.trans e3) (Dt.ofTupv (SqT.of (msk_at (m.ex e2) hp)) (d.mono (msk_ex e3)))⟩⟩
theorem hv_cat {xs ys : List α} (ha : HS K M ta σ H xs) (hb : HS K M tb σ H ys) (hz : xs.length + ys.length ≤ 100000) :
    Hv K M (tOp (fun x y H Q => ∃ a b xs ys, x = .ref a ∧ y = .ref b ∧ SqL K H a xs ∧ SqL K H b ys ∧ xs.length + ys.length ≤ sizeLine ∧ ∀ p, H p = none → Q (.ref p) (upd H p (.lst (xs ++ ys)))) ta tb) σ H (xs ++ ys) := fun H1 e m Q q =>
  ha H1 e m _ fun a vs H2 e2 s d => hb H2 (e.trans e2) (m.ex e2) _ fun b ws H3 e3 s' d' =>
    ⟨a, b, vs, ws, rfl, rfl, ex_l e3 s, s', sz_of (by rw [d.len, d'.len]; exact hz), fun p hp => by
      have m3 := (m.ex e2).ex e3
      have e4 : Ex H3 (upd H3 p (.lst (vs ++ ws))) := Ex.new hp
      exact q _ _ ((e2.trans e3).trans e4) (Dt.ofList (SqL.of (msk_at m3 hp)) ((d.mono (msk_ex (e3.trans e4))).app (d'.mono (msk_ex e4))))⟩
/-! ### truth, None -/
theorem ht_truL {xs : List α} (h : HS K M te σ H xs) : HT M (fun σ H Q => te σ H fun x H' => ∃ k, TruV K x H' k ∧ Q k H') σ H (!xs.isEmpty) := fun H1 e m Q q =>
  h H1 e m _ fun a vs H2 e2 s d => ⟨!vs.isEmpty, Or.inl ⟨vs, s, rfl⟩, by
    have : vs.isEmpty = xs.isEmpty := by
      have := d.len
      cases vs <;> cases xs <;> simp_all
    rw [this]
    exact q H2 e2⟩
theorem dt_none [SomeX α] {v : V} {x : Option α} (d : Dt K H v x) : decide (v = .non) = x.isNone := by
  cases x with
  | none => cases (show Xp K H v .none from d); rfl
  | some a =>
    have n := SomeX.some a
    have d' : Xp K H v (Dx.toX a) := d
    generalize Dx.toX a = z at n d'
    cases d' with
    | non => exact absurd rfl n
    | _ => rfl
theorem hv_isN [SomeX α] {x : Option α} (h : Hv K M ta σ H x) : Hv K M (tOp (fun x y H Q => y = .non ∧ Q (.bl (decide (x = .non))) H) ta (tC .non)) σ H x.isNone := fun H1 e m Q q =>
  h H1 e m _ fun v H2 e2 d => ⟨rfl, q _ H2 e2 (by rw [dt_none d]; exact Dt.ofBool _)⟩
theorem hv_notN [SomeX α] {x : Option α} (h : Hv K M ta σ H x) : Hv K M (tOp (fun x y H Q => y = .non ∧ Q (.bl (!decide (x = .non))) H) ta (tC .non)) σ H (!x.isNone) := fun H1 e m Q q =>
  h H1 e m _ fun v H2 e2 d => ⟨rfl, q _ H2 e2 (by rw [dt_none d]; exact Dt.ofBool _)⟩
theorem hv_un [SomeX α] {x : α} (h : Hv K M te σ H (some x)) : Hv K M te σ H x := fun H1 e m Q q => h H1 e m Q fun v H2 e2 d => q v H2 e2 d

/-! ### comprehensions -/
theorem take_snoc {xs : List α} {i : Nat} {x : α} (h : xs[i]? = some x) : xs.take (i + 1) = xs.take i ++ [x] := by
  rw [List.take_add_one, h]; rfl
theorem lc_listD {a : Addr} {xs : List α} {vs : List Nat} {D : Addr} {Qd : Hp → Prop} {M' : List Addr} (Pv : Nat → Hp → Prop) (h0 : Pv 0 (upd H1 D (.lst []))) (hl : ∀ i H', i ≤ xs.length → Pv i H' → ∃ us, SqL K H' a us ∧ Dts K (msk M' H') us xs)
    (hs : ∀ i x w H', xs[i]? = some x → Pv i H' → Dt K (msk M' H') w x → g w (wipe σ vs) H' fun σ2 H2 => wipe σ2 vs = wipe σ vs ∧ tt σ2 H2 fun b H3 =>
      if b = true then te σ2 H3 fun y H4 => ∃ acc, H4 D = some (.lst acc) ∧ acc.length < sizeLine ∧ Pv (i + 1) (upd H4 D (.lst (acc ++ [y]))) else Pv (i + 1) H3) (hd : ∀ H', Pv xs.length H' → Qd H') :
    ∃ W : Nat → Nat → Hp → Prop, (∃ m, W 0 m (upd H1 D (.lst []))) ∧ ∀ i m H, W i m H →
      ((Itl K a).stop i H ∧ Qd H) ∨ ((Itl K a).go i H ∧ ∃ Nx : Hp → Prop, (∀ H', Nx H' → ∃ m', m' < m ∧ W (i + 1) m' H') ∧ ∀ x H', (Itl K a).yld i H x H' → g x (wipe σ vs) H' fun σ2 H2 => wipe σ2 vs = wipe σ vs ∧ tt σ2 H2 fun b H3 =>
        if b = true then te σ2 H3 fun y H4 => ∃ acc, H4 D = some (.lst acc) ∧ acc.length < sizeLine ∧ Nx (upd H4 D (.lst (acc ++ [y]))) else Nx H3) := by
  refine ⟨fun i m H => m = xs.length - i ∧ i ≤ xs.length ∧ Pv i H, ⟨xs.length, by simp, Nat.zero_le _, h0⟩, ?_⟩
  rintro i m H ⟨rfl, hi, p⟩
  obtain ⟨us, q, ds⟩ := hl i H hi p
  have el := ds.len
  by_cases hlt : i < xs.length
  · refine .inr ⟨⟨us, us[i]'(by omega), q, by simp [show i < us.length by omega]⟩, Pv (i + 1), fun H' p' => ⟨xs.length - (i + 1), by omega, rfl, hlt, p'⟩, fun x H' y => ?_⟩
    obtain ⟨e, y⟩ := y
    subst e
    obtain ⟨w, h1, h2⟩ := ds.at (i := i) (x := xs[i]) (by simp [hlt])
    have e1 : x = w := Option.some.inj ((y us q).symm.trans h1)
    subst e1
    exact hs i _ x _ (by simp [hlt]) p h2
  · have e : i = xs.length := by omega
    subst e
    exact .inl ⟨⟨us, q, by omega⟩, hd H p⟩
/-- a turn's end: the item goes behind the others, or not -/
theorem lc_turn {D : Addr} {ys zs : List β} {b : Bool} {y : β} {σ2 : L2.St} (s : Sg K Mc He H is ((D, .lst (ys.map Dx.toX)) :: ms)) (hz : ys.length < 50000) (N : Hp → Prop)
    (ht : HT (muA ((D, Mv.lst (ys.map Dx.toX)) :: ms) ++ Mc) tt σ2 H b) (he : b = true → Hv K (muA ((D, Mv.lst (ys.map Dx.toX)) :: ms) ++ Mc) te σ2 H y)
    (hzs : zs = if b = true then ys ++ [y] else ys) (hN : ∀ H', (∃ H4, Ex H H4 ∧ (H' = H4 ∨ ∃ o, H' = upd H4 D o)) → Sg K Mc He H' is ((D, .lst (zs.map Dx.toX)) :: ms) → N H') :
    tt σ2 H fun b' H3 => if b' = true then te σ2 H3 fun v H4 => ∃ acc, H4 D = some (.lst acc) ∧ acc.length < sizeLine ∧ N (upd H4 D (.lst (acc ++ [v]))) else N H3 := by
  refine ht H (Ex.refl H) s.mok _ fun H3 e3 => ?_
  cases b with
  | false =>
    show N H3
    rw [if_neg Bool.false_ne_true] at hzs
    subst hzs
    exact hN H3 ⟨H3, e3, .inl rfl⟩ (s.ex e3)
  | true =>
    show te σ2 H3 fun v H4 => ∃ acc, H4 D = some (.lst acc) ∧ acc.length < sizeLine ∧ N (upd H4 D (.lst (acc ++ [v])))
    rw [if_pos rfl] at hzs
    subst hzs
    refine he rfl H3 e3 ((s.ex e3).mok) _ fun v H4 e4 d => ?_
    have s4 := (s.ex e3).ex e4
    obtain ⟨us, h1, h2⟩ := s4.lst (k := 0) rfl
    refine ⟨us, h1, sz_lt (by rw [h2.len]; omega), hN _ ⟨H4, e3.trans e4, .inr ⟨_, rfl⟩⟩ (s4.set (k := 0) (m' := .lst ((ys ++ [y]).map Dx.toX)) rfl ⟨_, rfl, ?_⟩)⟩
    rw [List.map_append]
    exact dpa_app h2 (.cons d .nil)
theorem filter_snoc {f : α → Bool} {ef : α → β} {xs : List α} {i : Nat} {x : α} (h : xs[i]? = some x) : ((xs.take (i + 1)).filter f).map ef = if f x = true then ((xs.take i).filter f).map ef ++ [ef x] else ((xs.take i).filter f).map ef := by
  rw [take_snoc h, List.filter_append, List.map_append]
  by_cases e : f x = true
  · rw [if_pos e]; simp [List.filter_cons, e]
  · rw [if_neg e]; simp [List.filter_cons, e]
theorem hv_lcL {vs : List Nat} (s : Sg K Mc He H is ms) {xs : List α} (f : α → Bool) (ef : α → β) (h : Hv K (muA ms ++ Mc) tl σ H xs) (hz : xs.length ≤ 40000)
    (hb : ∀ D src x w (ys : List β) H1, Sg K Mc He H1 ((w, Dx.toX x) :: (src, Dx.toX xs) :: is) ((D, .lst (ys.map Dx.toX)) :: ms) → x ∈ xs →
      ∀ Q : L2.St → Hp → Prop, (∀ σ2, wipe σ2 vs = wipe σ vs → HT (muA ((D, Mv.lst (ys.map Dx.toX)) :: ms) ++ Mc) tt σ2 H1 (f x) → (f x = true → Hv K (muA ((D, Mv.lst (ys.map Dx.toX)) :: ms) ++ Mc) te σ2 H1 (ef x)) → Q σ2 H1) → g w (wipe σ vs) H1 Q) :
    Hv K (muA ms ++ Mc) (tLc (iList K tl) g tt te vs) σ H ((xs.filter f).map ef) := fun H1 e m Q q =>
  h H1 e m _ fun v H2 e2 d => by
    obtain ⟨a, us, rfl, s1, ds⟩ := d.list
    refine ⟨a, rfl, ⟨us, ex_l msk_le s1⟩, fun D hD => ?_⟩
    have sA : Sg K Mc He H2 ((.ref a, Dx.toX xs) :: is) ms := ((s.ex e).ex e2).put d
    have sB : Sg K Mc He (upd H2 D (.lst [])) ((.ref a, Dx.toX xs) :: is) ((D, .lst (([] : List β).map Dx.toX)) :: ms) := sA.new hD ⟨[], rfl, .nil⟩
    refine lc_listD (xs := xs) (M' := D :: (muA ms ++ Mc)) (fun i H' => Ex H2 H' ∧ Sg K Mc He H' ((.ref a, Dx.toX xs) :: is) ((D, .lst ((((xs.take i).filter f).map ef).map Dx.toX)) :: ms)) ⟨Ex.new hD, sB⟩
      (fun i H' _ p => ?_) (fun i x w H' hx p dw => ?_) (fun H' p => ?_)
    · obtain ⟨a', us', e', s2, ds'⟩ := Dt.list (α := α) p.2.im.1
      cases e'
      exact ⟨us', ex_l msk_le s2, ds'⟩
    · have hi : i < xs.length := (List.getElem?_eq_some_iff.mp hx).1
      refine hb D (.ref a) x w _ H' (p.2.put dw) (List.mem_of_getElem? hx) _ fun σ2 hw ht he => ⟨hw, ?_⟩
      have hlen : (((xs.take i).filter f).map ef).length < 50000 := by
        rw [List.length_map]
        have := List.length_filter_le f (xs.take i)
        rw [List.length_take] at this
        omega
      have key := lc_turn (ms := ms) (zs := ((xs.take (i + 1)).filter f).map ef) p.2 hlen (fun H3 => Ex H2 H3 ∧ Sg K Mc He H3 ((.ref a, Dx.toX xs) :: is) ((D, .lst ((((xs.take (i + 1)).filter f).map ef).map Dx.toX)) :: ms)) ht he (filter_snoc hx) (fun H3 h4 s3 => ⟨by
        obtain ⟨H4, e4, e5⟩ := h4
        rcases e5 with e5 | ⟨o, e5⟩
        · rw [e5]; exact p.1.trans e4
        · rw [e5]; exact Ex.mut (p.1.trans e4) hD, s3⟩)
      exact key
    · have z := p.2
      rw [List.take_length] at z
      exact q _ H' (e2.trans p.1) (z.frz).im.1

/-- without a test -/
theorem hv_lcL0 {vs : List Nat} (s : Sg K Mc He H is ms) {xs : List α} (ef : α → β) (h : Hv K (muA ms ++ Mc) tl σ H xs) (hz : xs.length ≤ 40000)
    (hb : ∀ D src x w (ys : List β) H1, Sg K Mc He H1 ((w, Dx.toX x) :: (src, Dx.toX xs) :: is) ((D, .lst (ys.map Dx.toX)) :: ms) → x ∈ xs →
      ∀ Q : L2.St → Hp → Prop, (∀ σ2, wipe σ2 vs = wipe σ vs → Hv K (muA ((D, Mv.lst (ys.map Dx.toX)) :: ms) ++ Mc) te σ2 H1 (ef x) → Q σ2 H1) → g w (wipe σ vs) H1 Q) :
    Hv K (muA ms ++ Mc) (tLc (iList K tl) g tYes te vs) σ H (xs.map ef) := by
  have key := hv_lcL (g := g) (tt := tYes) (te := te) (vs := vs) s (fun _ => true) ef h hz (fun D src x w ys H1 s1 hx Q k => hb D src x w ys H1 s1 hx Q fun σ2 hw he => k σ2 hw (fun H2 _ _ _ q => q H2 (Ex.refl H2)) fun _ => he)
  exact key.is (by rw [List.filter_eq_self.mpr (fun _ _ => rfl)])
/-- 0, 1, .. below n -/
def irng (lo : Int) (n : Nat) : List Int := (List.range n).map fun (i : Nat) => lo + (i : Int)
theorem irng_get {lo : Int} {n i : Nat} (h : i < n) : (irng lo n)[i]? = some (lo + (i : Int)) := by
  unfold irng
  rw [List.getElem?_map, List.getElem?_range h]
  rfl
theorem irng_len {lo : Int} {n : Nat} : (irng lo n).length = n := by unfold irng; rw [List.length_map, List.length_range]
theorem hv_lcR {vs : List Nat} (s : Sg K Mc He H is ms) {n : Int} (f : Int → Bool) (ef : Int → β) (h : Hv K (muA ms ++ Mc) ta σ H n) (hz : -100000 ≤ n ∧ n ≤ 40000)
    (hb : ∀ D (x : Int) (ys : List β) H1, Sg K Mc He H1 is ((D, .lst (ys.map Dx.toX)) :: ms) → 0 ≤ x ∧ x < n →
      ∀ Q : L2.St → Hp → Prop, (∀ σ2, wipe σ2 vs = wipe σ vs → HT (muA ((D, Mv.lst (ys.map Dx.toX)) :: ms) ++ Mc) tt σ2 H1 (f x) → (f x = true → Hv K (muA ((D, Mv.lst (ys.map Dx.toX)) :: ms) ++ Mc) te σ2 H1 (ef x)) → Q σ2 H1) → g (.int x) (wipe σ vs) H1 Q) :
    Hv K (muA ms ++ Mc) (tLc (iRng1 (tCons ta tNil)) g tt te vs) σ H (((irng 0 n.toNat).filter f).map ef) := fun H1 e m Q q =>
  h H1 e m _ fun v H2 e2 d => by
    refine ⟨n, by rw [d.int], by omega, by omega, fun D hD => ?_⟩
    have sA : Sg K Mc He H2 is ms := (s.ex e).ex e2
    have sB : Sg K Mc He (upd H2 D (.lst [])) is ((D, .lst (([] : List β).map Dx.toX)) :: ms) := sA.new hD ⟨[], rfl, .nil⟩
    refine lc_range (lo := 0) (n := n.toNat) (fun i H' => Ex H2 H' ∧ Sg K Mc He H' is ((D, .lst (((((irng 0 n.toNat).take i).filter f).map ef).map Dx.toX)) :: ms)) ⟨Ex.new hD, sB⟩
      (fun i H' hi p => ?_) (fun H' p => ?_)
    · have hx : (irng 0 n.toNat)[i]? = some ((0 : Int) + (i : Int)) := irng_get hi
      refine hb D ((0 : Int) + (i : Int)) _ H' p.2 ⟨by omega, by omega⟩ _ fun σ2 hw ht he => ⟨hw, ?_⟩
      have hlen : ((((irng 0 n.toNat).take i).filter f).map ef).length < 50000 := by
        rw [List.length_map]
        have := List.length_filter_le f ((irng 0 n.toNat).take i)
        rw [List.length_take, irng_len] at this
        omega
      exact lc_turn (ms := ms) (zs := (((irng 0 n.toNat).take (i + 1)).filter f).map ef) p.2 hlen (fun H3 => Ex H2 H3 ∧ Sg K Mc He H3 is ((D, .lst (((((irng 0 n.toNat).take (i + 1)).filter f).map ef).map Dx.toX)) :: ms)) ht he (filter_snoc hx) (fun H3 h4 s3 => ⟨by
        obtain ⟨H4, e4, e5⟩ := h4
        rcases e5 with e5 | ⟨o, e5⟩
        · rw [e5]; exact p.1.trans e4
        · rw [e5]; exact Ex.mut (p.1.trans e4) hD, s3⟩)
    · have z := p.2
      have et : (irng 0 n.toNat).take n.toNat = irng 0 n.toNat := List.take_of_length_le (by rw [irng_len]; exact Nat.le_refl _)
      rw [et] at z
      exact q _ H' (e2.trans p.1) (z.frz).im.1
theorem hv_lcR0 {vs : List Nat} (s : Sg K Mc He H is ms) {n : Int} (ef : Int → β) (h : Hv K (muA ms ++ Mc) ta σ H n) (hz : -100000 ≤ n ∧ n ≤ 40000)
    (hb : ∀ D (x : Int) (ys : List β) H1, Sg K Mc He H1 is ((D, .lst (ys.map Dx.toX)) :: ms) → 0 ≤ x ∧ x < n →
      ∀ Q : L2.St → Hp → Prop, (∀ σ2, wipe σ2 vs = wipe σ vs → Hv K (muA ((D, Mv.lst (ys.map Dx.toX)) :: ms) ++ Mc) te σ2 H1 (ef x) → Q σ2 H1) → g (.int x) (wipe σ vs) H1 Q) :
    Hv K (muA ms ++ Mc) (tLc (iRng1 (tCons ta tNil)) g tYes te vs) σ H ((irng 0 n.toNat).map ef) := by
  have key := hv_lcR (g := g) (tt := tYes) (te := te) (vs := vs) s (fun _ => true) ef h hz (fun D x ys H1 s1 hx Q k => hb D x ys H1 s1 hx Q fun σ2 hw he => k σ2 hw (fun H2 _ _ _ q => q H2 (Ex.refl H2)) fun _ => he)
  exact key.is (by rw [List.filter_eq_self.mpr (fun _ _ => rfl)])
end
/-! ### the least of a list -/
section
variable {K : PySem.W.Frag} {M : List Addr} {σ : L2.St} {H : Hp} {te : TE}
variable {α : Type} [DecidableEq α] [Dx α] [DatumOrd α]
theorem toD_inj {a b : α} (h : Datum.toD a = Datum.toD b) : a = b := by
  have e := Datum.eqv a b
  rw [h, Datum.eqv b b] at e
  simpa using e.symm
theorem holds_inj {h : Heap} {v : Value} {a b : α} (x : PySem.W.Holds h v a) (y : PySem.W.Holds h v b) : a = b := by
  obtain ⟨as, r⟩ := x
  obtain ⟨bs, r'⟩ := y
  exact toD_inj (PySem.W.alike_unique _ _ _ _ _ (DatumOrd.alike a b) r r')
def minL (l : List α) (d : α) : α := match l with
  | [] => d
  | x :: r => PySem.W.minOf x r
def rMinT (α : Type) [DecidableEq α] [Dx α] [DatumOrd α] (K : PySem.W.Frag) : List V → Hp → VK → Prop := fun vs H Q => ∃ (a : Addr) (us : List V) (x : α) (xs : List α), vs = [V.ref a] ∧ SqL K H a us ∧ Dts K H us (x :: xs) ∧ ∀ (i : Nat) (v : V), us[i]? = some v → (x :: xs)[i]? = some (PySem.W.minOf x xs) → Q v H
theorem dts_holdAll [DxD α] {X : Cx} {pins : List (Addr × Obj)} {s : Shared} (I : L2.Inv X pins σ H s) {us : List V} {its : List Value} {xs : List α} (d : Dts X.K H us xs) (r : Vals us its) : PySem.W.HoldAll s.heap its xs := Dp.readsAll I _ us its (link_all d) r
theorem call_minT [DxD α] {X : Cx} (hc : X.calm = true) (hu : X.A.units + 1 + Datum.depth α < cLine) : CallR X (.builtin "min") (rMinT α X.K) := by
  intro pins s σ H vs us Q I r h
  obtain ⟨a, ws, x, xs, rfl, hS, hD, q⟩ := h
  obtain ⟨u, rfl, rx⟩ := vals1 r
  cases rx
  obtain ⟨its, rv, pl, hz⟩ := I.list hS
  refine PySem.W.min_list_datum (I.ok.hd hc) pl.isList (dts_holdAll I hD rv) hu fun i v h' tk hi hold kk => ?_
  have hi' : its[i]? = some v := by simpa using hi
  have hlen := rv.length
  have hil : i < ws.length := by
    have := (List.getElem?_eq_some_iff.mp hi').1
    omega
  obtain ⟨u', e1, e2⟩ := rv.get (i := i) (x := ws[i]) (by simp [hil])
  rw [hi'] at e1
  cases e1
  have hx2 : ∃ z, (x :: xs)[i]? = some z := ⟨(x :: xs)[i]'(by rw [← hD.len]; exact hil), by simp [hD.len ▸ hil]⟩
  obtain ⟨z, hz2⟩ := hx2
  obtain ⟨w, w1, w2⟩ := hD.at hz2
  have ew : w = ws[i] := by
    rw [List.getElem?_eq_getElem hil] at w1
    exact (Option.some.inj w1).symm
  subst ew
  have I' : L2.Inv X pins σ H { s with heap := h', toks := tk } := I.kept kk
  have ez : z = PySem.W.minOf x xs := holds_inj (dt_holds I' w2 e2) hold
  exact ⟨_, H, I', e2, q i _ (by simp [hil]) (by rw [← ez]; exact hz2)⟩
theorem hv_min {xs : List α} (d : α) (h : HS K M te σ H xs) (hne : xs ≠ []) : Hv K M (tCB (rMinT α K) (tCons te tNil)) σ H (minL xs d) := fun H1 e m Q q =>
  h H1 e m _ fun a vs H2 e2 s ds => by
    cases xs with
    | nil => exact absurd rfl hne
    | cons x r =>
      refine ⟨a, vs, x, r, rfl, s, ds.mono msk_le, fun i v hv hx => ?_⟩
      obtain ⟨w, w1, w2⟩ := ds.at hx
      rw [hv] at w1
      cases w1
      exact q v H2 e2 w2
end
theorem hud1 {A : Around} {k d : Nat} (hr : Room k A) (h : 1 + d ≤ 64) : A.units + 1 + d < cLine := by
  have := hud hr h
  omega
/-! ### what a loop keeps -/
theorem loopN_keep {S : Type} {f : S → Int → S} (P : S → Nat → Prop) (h : ∀ s k j, P s j → P (f s k) (j + 1)) : ∀ (n : Nat) (k : Int) (s : S) (j : Nat), P s j → P (loopN f n k s) (j + n)
  | 0, _, _, _, p => p
  | n + 1, k, s, j, p => by
    have := loopN_keep P h n (k + 1) (f s k) (j + 1) (h s k j p)
    show P (loopN f n (k + 1) (f s k)) (j + (n + 1))
    rw [show j + (n + 1) = j + 1 + n by omega]
    exact this
theorem sIx_nn {n d : Nat} {i : Int} (h : 0 ≤ i) : HT.sIx n d (some i) = min i.toNat n := by
  have e : i = ((i.toNat : Nat) : Int) := (Int.toNat_of_nonneg h).symm
  rw [e]
  exact HT.sIx_nat n d i.toNat
theorem cutL_from {α : Type} {xs : List α} {i : Int} (h : 0 ≤ i) : cutL xs (some i) none = xs.drop i.toNat := by
  unfold cutL
  rw [sIx_nn h, HT.sIx_none]
  by_cases e : i.toNat ≤ xs.length
  · rw [Nat.min_eq_left e]
    exact List.take_of_length_le (by rw [List.length_drop]; exact Nat.le_refl _)
  · rw [Nat.min_eq_right (by omega), List.drop_eq_nil_of_le (Nat.le_refl _), List.drop_eq_nil_of_le (by omega)]
    exact List.take_nil
theorem cutL_to {α : Type} {xs : List α} {i : Int} (h : 0 ≤ i) : cutL xs none (some i) = xs.take i.toNat := by
  unfold cutL
  rw [sIx_nn h, HT.sIx_none, List.drop_zero, Nat.sub_zero, List.take_eq_take_iff]
  omega
end Ly

namespace Ly
open PySem PySem.Spec PyProof.Rows L2 Evl
open PySem.W (Datum DatumOrd Tup T3 T4 minOf)
section
variable {α : Type} [DecidableEq α] [DatumOrd α]
theorem lt_irrefl (a : α) : DatumOrd.lt a a = false := by
  rw [← DatumOrd.lt_eq]; exact PySem.W.dataLt_self _
theorem lt_trans {a b c : α} (h : DatumOrd.lt a b = true) (h' : DatumOrd.lt b c = true) : DatumOrd.lt a c = true := by
  rw [← DatumOrd.lt_eq] at h h' ⊢
  exact lex_trans _ _ _ h h'
theorem lt_total {a b : α} (h : DatumOrd.lt a b = false) (h' : DatumOrd.lt b a = false) : Datum.toD a = Datum.toD b ∨ PySem.W.keyToks (Datum.toD a) = PySem.W.keyToks (Datum.toD b) := by
  rw [← DatumOrd.lt_eq] at h h'
  exact .inr (lex_total _ _ h h')
theorem lt_neg {a b c : α} (h : DatumOrd.lt a c = true) : DatumOrd.lt a b = true ∨ DatumOrd.lt b c = true := by
  rw [← DatumOrd.lt_eq] at h
  rw [← DatumOrd.lt_eq, ← DatumOrd.lt_eq]
  exact lex_negTrans _ _ _ h
theorem minOf_spec : ∀ (xs : List α) (x : α), minOf x xs ∈ x :: xs ∧ ∀ y ∈ x :: xs, DatumOrd.lt y (minOf x xs) = false
  | [], x => ⟨List.mem_cons_self, fun y hy => by
    have e : y = x := by simpa using hy
    rw [e]; exact lt_irrefl x⟩
  | z :: r, x => by
    have e : minOf x (z :: r) = minOf (if DatumOrd.lt z x = true then z else x) r := rfl
    rw [e]
    by_cases h : DatumOrd.lt z x = true
    · rw [if_pos h]
      obtain ⟨h1, h2⟩ := minOf_spec r z
      refine ⟨?_, fun y hy => ?_⟩
      · rcases List.mem_cons.mp h1 with q | q
        · rw [q]; simp
        · simp [q]
      · rcases List.mem_cons.mp hy with q | q
        · subst q
          cases hq : DatumOrd.lt y (minOf z r) with
          | false => rfl
          | true => exact absurd (lt_trans h hq) (by rw [h2 z List.mem_cons_self]; decide)
        · exact h2 y q
    · rw [if_neg h]
      obtain ⟨h1, h2⟩ := minOf_spec r x
      refine ⟨?_, fun y hy => ?_⟩
      · rcases List.mem_cons.mp h1 with q | q
        · rw [q]; simp
        · simp [q]
      · rcases List.mem_cons.mp hy with q | q
        · subst q; exact h2 y List.mem_cons_self
        · rcases List.mem_cons.mp q with q | q
          · subst q
            cases hq : DatumOrd.lt y (minOf x r) with
            | false => rfl
            | true =>
              rcases lt_neg (b := x) hq with q2 | q2
              · exact absurd q2 h
              · exact absurd q2 (by rw [h2 x List.mem_cons_self]; decide)
          · exact h2 y (List.mem_cons_of_mem _ q)
end
end Ly

namespace Ly
open PySem PySem.Spec PyProof.Rows L2 Evl
open PySem.W (Datum DatumOrd Tup T3 T4 minOf)
section
variable {K : PySem.W.Frag} {Mc M : List Addr} {He H H1 H2 : Hp} {is js : Ims} {ms : Mus} {σ : L2.St} {te ta tb tl : TE} {tt : TT} {g : TG} {tlo thi : TO}
variable {D : Ends} {tz tu tw : TS}
/-! ### texts -/
theorem hv_addS {a b : Str} (ha : Hv K M ta σ H a) (hb : Hv K M tb σ H b) (hz : a.length + b.length ≤ 100000) :
    Hv K M (tOp (fun x y H Q => ∃ i j, x = .str i ∧ y = .str j ∧ i.length + j.length ≤ sizeLine ∧ Q (.str (i ++ j)) H) ta tb) σ H (a ++ b) := fun H1 e m Q q =>
  ha H1 e m _ fun v H2 e2 d => hb H2 (e.trans e2) (m.ex e2) _ fun u H3 e3 d' => ⟨a, b, d.str, d'.str, sz_of hz, q _ H3 (e2.trans e3) (Dt.ofStr _)⟩
theorem hv_lower {a : Str} (ha : Hv K M ta σ H a) (hz : a.length ≤ 100000) : Hv K M (tM0 (fun x xs H Q => ∃ a, x = .str a ∧ xs = [] ∧ a.length ≤ 5592405 ∧ Q (.str (Txt.lower a)) H) ta) σ H (Txt.lower a) := fun H1 e m Q q =>
  ha H1 e m _ fun v H2 e2 d => ⟨⟨a, d.str⟩, a, d.str, rfl, by omega, q _ H2 e2 (Dt.ofStr _)⟩
theorem hv_lenS {a : Str} (ha : Hv K M ta σ H a) (hz : a.length ≤ 100000) : Hv K M (tCB (fun xs H Q => ∃ x n, xs = [x] ∧ LenV K x H n ∧ Q (.int n) H) (tCons ta tNil)) σ H (a.length : Int) := fun H1 e m Q q =>
  ha H1 e m _ fun v H2 e2 d => ⟨v, a.length, rfl, by rw [d.str]; exact ⟨sz_of hz, rfl⟩, q _ H2 e2 (Dt.ofInt _)⟩
/-- the sign at a place -/
def strAt (s : Str) (i : Nat) : Str := ⟨#[s.cps.toList.getD i 0]⟩
theorem hv_ixStr {a : Str} {i : Int} (ha : Hv K M ta σ H a) (hb : Hv K M tb σ H i) (hz : a.length ≤ 100000) (h0 : 0 ≤ i) (h1 : i < (a.length : Int)) : Hv K M (tOp rIxS ta tb) σ H (strAt a i.toNat) := fun H1 e m Q q =>
  ha H1 e m _ fun v H2 e2 d => hb H2 (e.trans e2) (m.ex e2) _ fun u H3 e3 d' => by
    have hl : i.toNat < a.cps.toList.length := by
      have : a.length = a.cps.toList.length := by simp [Str.length]
      omega
    refine ⟨a, i, a.cps.toList.getD i.toNat 0, d.str, d'.int, sz_of hz, ?_, q _ H3 (e2.trans e3) (Dt.ofStr _)⟩
    rw [show i = ((i.toNat : Nat) : Int) from (Int.toNat_of_nonneg h0).symm]
    refine atI_nat ?_
    rw [List.getD_eq_getElem?_getD, Int.toNat_natCast, List.getElem?_eq_getElem hl]
    rfl
theorem hv_sliceS {a : Str} {lo hi : Option Int} (h : Hv K M te σ H a) (h1 : HO' M tlo σ H lo) (h2 : HO' M thi σ H hi) (hz : a.length ≤ 100000) : Hv K M (tSl rSlS te tlo thi) σ H (cutS a lo hi) := fun H1 e m Q q =>
  h H1 e m _ fun v H2 e2 d => h1 H2 (e.trans e2) (m.ex e2) _ fun H3 e3 => h2 H3 ((e.trans e2).trans e3) ((m.ex e2).ex e3) _ fun H4 e4 =>
    ⟨a, d.str, sz_of hz, q _ H4 ((e2.trans e3).trans e4) (Dt.ofStr _)⟩
def inStr (i j : Str) : Bool := !(Builtin.Str.occurrences j i 0 j.length 1).isEmpty
theorem hv_inStr {a b : Str} (ha : Hv K M ta σ H a) (hb : Hv K M tb σ H b) : Hv K M (tOp (fun x y H Q => ∃ i j, x = .str i ∧ y = .str j ∧ Q (.bl (!(Builtin.Str.occurrences j i 0 j.length 1).isEmpty)) H) ta tb) σ H (inStr a b) := fun H1 e m Q q =>
  ha H1 e m _ fun v H2 e2 d => hb H2 (e.trans e2) (m.ex e2) _ fun u H3 e3 d' => ⟨a, b, d.str, d'.str, q _ H3 (e2.trans e3) (Dt.ofBool _)⟩
theorem hv_niStr {a b : Str} (ha : Hv K M ta σ H a) (hb : Hv K M tb σ H b) : Hv K M (tOp (fun x y H Q => ∃ i j, x = .str i ∧ y = .str j ∧ Q (.bl (!(!(Builtin.Str.occurrences j i 0 j.length 1).isEmpty))) H) ta tb) σ H (!inStr a b) := fun H1 e m Q q =>
  ha H1 e m _ fun v H2 e2 d => hb H2 (e.trans e2) (m.ex e2) _ fun u H3 e3 d' => ⟨a, b, d.str, d'.str, q _ H3 (e2.trans e3) (Dt.ofBool _)⟩
theorem hv_find {a b : Str} (ha : Hv K M ta σ H a) (hb : Hv K M tb σ H b) : Hv K M (tM1 (fun x xs H Q => ∃ a b, x = .str a ∧ xs = [.str b] ∧ Q (.int (Txt.find a b)) H) ta tb) σ H (Txt.find a b) := fun H1 e m Q q =>
  ha H1 e m _ fun v H2 e2 d => ⟨⟨a, d.str⟩, hb H2 (e.trans e2) (m.ex e2) _ fun u H3 e3 d' => ⟨a, b, d.str, by rw [d'.str], q _ H3 (e2.trans e3) (Dt.ofInt _)⟩⟩
theorem hv_find3 {a b : Str} {i : Int} (ha : Hv K M ta σ H a) (hb : Hv K M tb σ H b) (hc : Hv K M te σ H i) :
    Hv K M (tBM K "str" (fun x xs H Q => ∃ (a b : Str) (i : Int), x = .str a ∧ xs = [.str b, .int i] ∧ Q (.int (Txt.find3 a b i)) H) ta (tCons tb (tCons te tNil))) σ H (Txt.find3 a b i) := fun H1 e m Q q =>
  ha H1 e m _ fun v H2 e2 d => ⟨by rw [d.str]; exact (rfl : ("str" : String) = "str"), hb H2 (e.trans e2) (m.ex e2) _ fun u H3 e3 d' => hc H3 ((e.trans e2).trans e3) ((m.ex e2).ex e3) _ fun z H4 e4 d'' =>
    ⟨a, b, i, d.str, by rw [d'.str, d''.int], q _ H4 ((e2.trans e3).trans e4) (Dt.ofInt _)⟩⟩
theorem dts_strs {H : Hp} : ∀ {vs : List V} {xs : List Str}, Dts K H vs xs → vs = xs.map V.str
  | [], [], _ => rfl
  | [], _ :: _, h => by cases h
  | _ :: _, [], h => by cases h
  | v :: vs, x :: xs, h => by
    cases h with
    | cons a b =>
      rw [List.map_cons, Dt.str (H := H) (K := K) (v := v) (i := x) a, dts_strs (vs := vs) (xs := xs) b]
theorem hv_join {a : Str} {xs : List Str} (ha : Hv K M ta σ H a) (hb : HS K M tb σ H xs) (hz : (xs.map (·.length)).sum + xs.length * a.length ≤ 100000) :
    Hv K M (tM1 (fun x xs H Q => ∃ a p, ∃ ys : List Str, x = .str a ∧ xs = [.ref p] ∧ (SqL K H p (ys.map V.str) ∨ SqT K H p (ys.map V.str)) ∧ (ys.map (·.length)).sum + ys.length * a.length ≤ 16777216 ∧ Q (.str (Txt.join a ys)) H) ta tb) σ H (Txt.join a xs) := fun H1 e m Q q =>
  ha H1 e m _ fun v H2 e2 d => ⟨⟨a, d.str⟩, hb H2 (e.trans e2) (m.ex e2) _ fun p vs H3 e3 s ds => ⟨a, p, xs, d.str, rfl, Or.inl (by rw [← dts_strs ds]; exact s), by omega, q _ H3 (e2.trans e3) (Dt.ofStr _)⟩⟩
theorem hv_intI {i : Int} (ha : Hv K M ta σ H i) : Hv K M (tCB (fun xs H Q => (∃ i, xs = [.int i] ∧ Q (.int i) H) ∨ ∃ k, xs = [.bl k] ∧ Q (.int (if k then 1 else 0)) H) (tCons ta tNil)) σ H i := fun H1 e m Q q =>
  ha H1 e m _ fun v H2 e2 d => Or.inl ⟨i, by rw [d.int], q _ H2 e2 (Dt.ofInt _)⟩
theorem hv_intS {a : Str} {n : Int} (ha : Hv K M ta σ H a) (hn : PySem.intText? a = some n) (hz : a.length ≤ 640) : Hv K M (tCB (fun xs H Q => ∃ a n, xs = [.str a] ∧ PySem.intText? a = some n ∧ a.length ≤ 640 ∧ Q (.int n) H) (tCons ta tNil)) σ H n := fun H1 e m Q q =>
  ha H1 e m _ fun v H2 e2 d => ⟨a, n, by rw [d.str], hn, hz, q _ H2 e2 (Dt.ofInt _)⟩
/-- a text, so often -/
def mulS (a : Str) (n : Int) : Str := ⟨(List.replicate n.toNat a.cps.toList).flatten.toArray⟩
theorem mulS_len (a : Str) (n : Int) : (mulS a n).length = a.length * n.toNat := by
  have h1 : (mulS a n).length = (List.replicate n.toNat a.cps.toList).flatten.length := by simp [mulS, Str.length]
  have h2 : a.length = a.cps.toList.length := by simp [Str.length]
  rw [h1, h2, List.length_flatten, List.map_replicate, List.sum_replicate_nat, Nat.mul_comm]
theorem foldl_app : ∀ (k : Nat) (x : Array Nat) (acc : Array Nat), ((List.replicate k x).foldl (· ++ ·) acc).toList = acc.toList ++ (List.replicate k x.toList).flatten
  | 0, x, acc => by simp
  | k + 1, x, acc => by
    rw [List.replicate_succ, List.foldl_cons, foldl_app k x (acc ++ x), List.replicate_succ, List.flatten_cons, Array.toList_append, List.append_assoc]
theorem op_mulS {X : Cx} : OpR X (binaryOp .Mult) (fun x y H Q => ∃ i n, x = .str i ∧ y = .int n ∧ 1 ≤ n ∧ i.length * n.toNat ≤ 100000 ∧ n ≤ 100000 ∧ Q (.str (mulS i n)) H) := by
  intro pins s σ H x y v u Q I rx ry h
  obtain ⟨i, n, rfl, rfl, h1, h2, h3, q⟩ := h
  obtain ⟨t, rfl⟩ := rx
  obtain ⟨t', rfl⟩ := ry
  have hc : ¬ n < 1 := by omega
  refine PySem.P.mul_str ?_ (fun _ hb => ?_) (fun _ _ => ?_) ?_
  · rw [decide_eq_false (by omega), decide_eq_false (by omega)]; rfl
  · have h4 : (i.length : Int) ≤ 100000 := by
      have : i.length * 1 ≤ i.length * n.toNat := Nat.mul_le_mul_left _ (by omega)
      omega
    have h5 : (100000 : Int) ≤ (2 ^ 63 - 1) / n := by
      refine Int.le_ediv_of_mul_le (by omega) ?_
      omega
    omega
  · have hs : sizeLine = 16777216 := sizeLine_eq
    show decide (i.length * n.toNat > sizeLine) = false
    exact decide_eq_false (by omega)
  · rw [if_neg hc]
    by_cases e : (n == 1 || i.length == 0) = true
    · rw [if_pos e]
      have em : mulS i n = i := by
        refine TL.ext_tl ?_
        show (List.replicate n.toNat i.cps.toList).flatten = i.cps.toList
        rcases Bool.or_eq_true _ _ |>.mp e with e1 | e1
        · have : n = 1 := by simpa using e1
          subst this
          simp
        · have : i.cps.toList = [] := by
            have : i.length = 0 := by simpa using e1
            have h9 : i.cps.toList.length = 0 := by simpa [Str.length] using this
            exact List.length_eq_zero_iff.mp h9
          rw [this]
          simp
      rw [em] at q
      exact ⟨.str i, H, I, ⟨t, rfl⟩, q⟩
    · rw [if_neg e]
      have em : (⟨(List.replicate n.toNat i.cps).foldl (· ++ ·) #[]⟩ : Str) = mulS i n := by
        refine TL.ext_tl ?_
        show ((List.replicate n.toNat i.cps).foldl (· ++ ·) #[]).toList = (List.replicate n.toNat i.cps.toList).flatten
        rw [foldl_app]
        rfl
      rw [em]
      exact ⟨by rw [mulS_len]; exact sz_of h2, .str _, H, I.tok _, ⟨_, rfl⟩, q⟩
theorem hv_mulS {a : Str} {n : Int} (ha : Hv K M ta σ H a) (hb : Hv K M tb σ H n) (h1 : 1 ≤ n) (h2 : a.length * n.toNat ≤ 100000) (h3 : n ≤ 100000) :
    Hv K M (tOp (fun x y H Q => ∃ i n, x = .str i ∧ y = .int n ∧ 1 ≤ n ∧ i.length * n.toNat ≤ 100000 ∧ n ≤ 100000 ∧ Q (.str (mulS i n)) H) ta tb) σ H (mulS a n) := fun H1 e m Q q =>
  ha H1 e m _ fun v H2 e2 d => hb H2 (e.trans e2) (m.ex e2) _ fun u H3 e3 d' => ⟨a, n, d.str, d'.int, h1, h2, h3, q _ H3 (e2.trans e3) (Dt.ofStr _)⟩
theorem hv_max2 {i j : Int} (ha : Hv K M ta σ H i) (hb : Hv K M tb σ H j) : Hv K M (tCB (fun xs H Q => ∃ i j, xs = [.int i, .int j] ∧ Q (.int (if j > i then j else i)) H) (tCons ta (tCons tb tNil))) σ H (max i j) := fun H1 e m Q q =>
  ha H1 e m _ fun v H2 e2 d => hb H2 (e.trans e2) (m.ex e2) _ fun u H3 e3 d' => ⟨i, j, by rw [d.int, d'.int], q _ H3 (e2.trans e3) (by
    rw [show (if j > i then j else i) = max i j by split <;> omega]; exact Dt.ofInt _)⟩
theorem hv_min2 {i j : Int} (ha : Hv K M ta σ H i) (hb : Hv K M tb σ H j) : Hv K M (tCB (fun xs H Q => ∃ i j, xs = [.int i, .int j] ∧ Q (.int (if j < i then j else i)) H) (tCons ta (tCons tb tNil))) σ H (min i j) := fun H1 e m Q q =>
  ha H1 e m _ fun v H2 e2 d => hb H2 (e.trans e2) (m.ex e2) _ fun u H3 e3 d' => ⟨i, j, by rw [d.int, d'.int], q _ H3 (e2.trans e3) (by
    rw [show (if j < i then j else i) = min i j by split <;> omega]; exact Dt.ofInt _)⟩
end
section
variable {K : PySem.W.Frag} {Mc M : List Addr} {He H H1 H2 : Hp} {is js : Ims} {ms : Mus} {σ : L2.St} {te ta tb tl : TE} {tt : TT} {g : TG} {tlo thi : TO}
variable {α β γ : Type} [DecidableEq α] [Dx α] [DecidableEq β] [Dx β] [DecidableEq γ] [Dx γ]
variable {D : Ends} {tz tu tw : TS}
theorem hv_chain {r r' : R2} {a b : Bool} {x : α} (h1 : ∀ H1, Ex H H1 → MOk M H1 → ∀ Q : V → V → Hp → Prop, (∀ y k H2, Ex H1 H2 → k = .bl a → Q y k H2) → ta σ H1 fun x H2 => tb σ H2 fun y H3 => r x y H3 fun z H4 => Q y z H4) : True := True.intro
/-- i < j < k and the like -/
theorem hv_chainI {g1 g2 : Int → Int → Bool} {i j k : Int} (ha : Hv K M ta σ H i) (hb : Hv K M tb σ H j) (hc : Hv K M te σ H k) :
    Hv K M (tChain (rI0 fun i j => .bl (g1 i j)) (rI0 fun i j => .bl (g2 i j)) ta tb te) σ H (g1 i j && g2 j k) := fun H1 e m Q q =>
  ha H1 e m _ fun v H2 e2 d => hb H2 (e.trans e2) (m.ex e2) _ fun u H3 e3 d' => ⟨i, j, d.int, d'.int, g1 i j, rfl, by
    cases hg : g1 i j with
    | false =>
      rw [if_neg Bool.false_ne_true]
      exact q _ H3 (e2.trans e3) (by rw [hg]; exact Dt.ofBool _)
    | true =>
      rw [if_pos rfl]
      refine hc H3 ((e.trans e2).trans e3) ((m.ex e2).ex e3) _ fun z H4 e4 d'' => ⟨j, k, d'.int, d''.int, q _ H4 ((e2.trans e3).trans e4) ?_⟩
      show Dt K _ (V.bl (g2 j k)) _
      rw [hg]
      exact Dt.ofBool _⟩
/-! ### new lists -/
/-- a new list, told apart from all else -/
def HF (K : PySem.W.Frag) (M : List Addr) (te : TE) (σ : L2.St) (H : Hp) (xs : List α) : Prop :=
  ∀ H1, Ex H H1 → MOk M H1 → ∀ Q : VK, (∀ p vs H3, H1 p = none → Ex H1 H3 → H3 p = some (.lst vs) → Dts K (msk (p :: M) H3) vs xs → Q (.ref p) H3) → te σ H1 Q
theorem hv_hf {xs : List α} (h : HF K M te σ H xs) : Hv K M te σ H xs := fun H1 e m Q q =>
  h H1 e m Q fun p vs H3 n e3 h3 d => q _ H3 e3 (Dt.ofList (SqL.of (by rw [msk_out (m.nin n)]; exact h3)) (d.mono (msk_sub fun a ha => List.mem_cons_of_mem _ ha)))
theorem Sg.newF (s : Sg K Mc He H is ms) {p : Addr} {vs : List V} {xs : List α} (n : H p = none) (e : Ex H H1) (h : H1 p = some (.lst vs)) (d : Dts K (msk (p :: (muA ms ++ Mc)) H1) vs xs) : Sg K Mc He H1 is ((p, .lst (xs.map Dx.toX)) :: ms) := by
  have np : p ∉ muA ms := fun z => s.mok p (List.mem_append_left _ z) n
  have sub : Ex (msk (muA ms ++ Mc) H) (msk (p :: (muA ms ++ Mc)) H1) := fun a o q => by
    by_cases z : a ∈ muA ms ++ Mc
    · rw [msk_in z] at q; cases q
    · rw [msk_out z] at q
      have na : a ≠ p := ne_of_none q n
      rw [msk_out (by simp only [List.mem_cons, not_or]; exact ⟨na, z⟩)]
      exact e a o q
  refine ⟨fun a o q => ?_, s.okc, List.nodup_cons.mpr ⟨np, s.nd⟩, s.im.mono sub, ⟨⟨.lst vs, h, vs, rfl, d⟩, ?_⟩⟩
  · have q' := s.ext a o q
    by_cases z : a ∈ muA ms
    · rw [msk_in z] at q'; cases q'
    · rw [msk_out z] at q'
      have na : a ≠ p := ne_of_none q' n
      show msk (p :: muA ms) H1 a = some o
      rw [msk_out (by simp only [List.mem_cons, not_or]; exact ⟨na, z⟩)]
      exact e a o q'
  · exact s.mu.mono sub e
theorem hf_lst {tr : TA} {xs : List α} (h : HAs K M tr σ H xs) (hl : xs.length ≤ 100000) : HF K M (tLst tr) σ H xs := fun H1 e m Q q =>
  h H1 e m _ fun vs H2 e2 d => ⟨sz_of (by rw [d.len]; exact hl), fun p hp => by
    have e3 : Ex H2 (upd H2 p (.lst vs)) := Ex.new hp
    exact q p vs _ (fresh_back e2 hp) (e2.trans e3) upd_same (d.mono (msk_new hp))⟩
theorem hf_rep {tr : TA} {xs : List α} {n : Int} (h : HAs K M tr σ H xs) (hb : Hv K M tb σ H n) (hl : xs.length ≤ 1000) (h0 : 0 ≤ n) (hn : xs.length * n.toNat ≤ 100000) (hn2 : n ≤ 100000) : HF K M (tOp rRep (tLst tr) tb) σ H (List.replicate n.toNat xs).flatten := fun H1 e m Q q =>
  h H1 e m _ fun vs H2 e2 d => ⟨sz_of (by rw [d.len]; omega), fun p hp => by
    have e3 : Ex H2 (upd H2 p (.lst vs)) := Ex.new hp
    refine hb _ ((e.trans e2).trans e3) ((m.ex e2).ex e3) _ fun u H4 e4 d' => ⟨p, n, vs, rfl, d'.int, e4 p _ upd_same, by omega, by omega, sz_of (by rw [d.len]; exact hn), fun l hl2 => ?_⟩
    have e5 : Ex H4 (upd H4 l (.lst (List.replicate n.toNat vs).flatten)) := Ex.new hl2
    refine q l _ _ (fresh_back ((e2.trans e3).trans e4) hl2) (((e2.trans e3).trans e4).trans e5) upd_same ?_
    have d2 : Dts K (msk M H2) vs xs := d
    have d3 : Dts K (msk (l :: M) (upd H4 l (.lst (List.replicate n.toNat vs).flatten))) vs xs := (d2.mono (msk_ex (e3.trans e4))).mono (msk_new hl2)
    have rep : ∀ k : Nat, Dts K (msk (l :: M) (upd H4 l (.lst (List.replicate n.toNat vs).flatten))) (List.replicate k vs).flatten (List.replicate k xs).flatten := fun k => by
      induction k with
      | zero => exact Dts.nil
      | succ k ih =>
        rw [List.replicate_succ, List.replicate_succ, List.flatten_cons, List.flatten_cons]
        exact d3.app ih
    exact rep _⟩
theorem hf_listOf {xs : List α} (h : HS K M te σ H xs) : HF K M (tCB (fun xs H Q => ∃ p ys, xs = [.ref p] ∧ (SqL K H p ys ∨ SqT K H p ys) ∧ ∀ l, H l = none → Q (.ref l) (upd H l (.lst ys))) (tCons te tNil)) σ H xs := fun H1 e m Q q =>
  h H1 e m _ fun a vs H2 e2 s d => ⟨a, vs, rfl, Or.inl s, fun p hp => by
    have e3 : Ex H2 (upd H2 p (.lst vs)) := Ex.new hp
    exact q p vs _ (fresh_back e2 hp) (e2.trans e3) upd_same (d.mono (msk_new hp))⟩
/-- x = a new list that is to be changed -/
theorem z_freshG {i : Nat} {x : List α} (s : Sg K Mc He H is ms) (h : HF K (muA ms ++ Mc) te σ H x) (k : ∀ y, y = x → ∀ p H1, Sg K Mc He H1 is ((p, .lst (y.map Dx.toX)) :: ms) → tz D (σ.set i (some (.ref p))) H1) : tSeq (tAsg te (gName i)) tz D σ H :=
  h H (Ex.refl H) s.mok _ fun p vs H3 n e3 h3 d => k x rfl p H3 (s.newF n e3 h3 d)
theorem dpa_set {H : Hp} : ∀ {vs : List V} {ds : List Xd} {j : Nat} {v : V} {d : Xd}, XpAll K H vs ds → Xp K H v d → XpAll K H (vs.set j v) (ds.set j d)
  | _, _, j, _, _, .nil, _ => .nil
  | _, _, 0, _, _, .cons a b, h => .cons h b
  | _, _, j + 1, _, _, .cons a b, h => .cons a (dpa_set b h)
/-- xs[i] = e -/
theorem z_setG {kk : Nat} {l : Addr} {xs : List α} {x : α} {i : Int} (s : Sg K Mc He H is ms) (e : ms[kk]? = some (l, .lst (xs.map Dx.toX))) (h : Hv K (muA ms ++ Mc) te σ H x) (ho : Ev ta σ H (.ref l)) (hi : Hv K (muA ms ++ Mc) tb σ H i) (h0 : 0 ≤ i) (h1 : i < (xs.length : Int))
    (k : ∀ y, y = xs.set i.toNat x → ∀ H1, Sg K Mc He H1 is (ms.set kk (l, .lst (y.map Dx.toX))) → tz D σ H1) : tSeq (tAsg te (gSub ta tb rSetL)) tz D σ H :=
  h H (Ex.refl H) s.mok _ fun v H2 e2 d => ho H2 e2 _ fun H3 e3 => hi H3 (e2.trans e3) (s.mok.ex (e2.trans e3)) _ fun u H4 e4 d' => by
    have s4 := ((s.ex e2).ex e3).ex e4
    obtain ⟨vs, h3, h4⟩ := s4.lst e
    have hn : i.toNat < vs.length := by rw [h4.len]; omega
    refine ⟨l, vs, i, i.toNat, rfl, d'.int, h3, ?_, k _ rfl _ (s4.set e ⟨_, rfl, ?_⟩)⟩
    · have := ixN_nat hn
      rwa [Int.toNat_of_nonneg h0] at this
    · rw [List.map_set]
      exact dpa_set h4 (dp_mono (msk_ex (e3.trans e4)) d)
/-- xs[-1] = e -/
theorem z_setLastG {kk : Nat} {l : Addr} {xs : List α} {x : α} (s : Sg K Mc He H is ms) (e : ms[kk]? = some (l, .lst (xs.map Dx.toX))) (h : Hv K (muA ms ++ Mc) te σ H x) (ho : Ev ta σ H (.ref l)) (h1 : 0 < xs.length)
    (k : ∀ y, y = xs.set (xs.length - 1) x → ∀ H1, Sg K Mc He H1 is (ms.set kk (l, .lst (y.map Dx.toX))) → tz D σ H1) : tSeq (tAsg te (gSub ta (tUn (rU fun i => .int (-i)) (tC (.int 1))) rSetL)) tz D σ H :=
  h H (Ex.refl H) s.mok _ fun v H2 e2 d => ho H2 e2 _ fun H3 e3 => ⟨1, rfl, by
    have s4 := (s.ex e2).ex e3
    obtain ⟨vs, h3, h4⟩ := s4.lst e
    have hn : vs.length = xs.length := h4.len
    refine ⟨l, vs, -1, xs.length - 1, rfl, rfl, h3, ?_, k _ rfl _ (s4.set e ⟨_, rfl, ?_⟩)⟩
    · unfold ixN
      rw [if_neg (by decide), if_pos (by omega)]
      show some _ = some _
      congr 1
      omega
    · rw [List.map_set]
      exact dpa_set h4 (dp_mono (msk_ex e3) d)⟩
/-- xs.extend(a new list) -/
theorem zq_extG {kk : Nat} {l : Addr} {xs ys : List α} (s : Sg K Mc He H is ms) (e : ms[kk]? = some (l, .lst (xs.map Dx.toX))) (hi : Ev ta σ H (.ref l)) (h : HF K (muA ms ++ Mc) te σ H ys) (hz : xs.length + ys.length ≤ 100000)
    (k : ∀ y, y = xs ++ ys → ∀ H1, Sg K Mc He H1 is (ms.set kk (l, .lst (y.map Dx.toX))) → tz D σ H1) : tSeq (tDrop (tBM K "list" rExtend ta (tCons te tNil))) tz D σ H := hi H (Ex.refl H) _ fun H1 e1 => by
  obtain ⟨vs, h1, h2⟩ := (s.ex e1).lst e
  refine ⟨Or.inl ⟨rfl, vs, sq_of h1⟩, h H1 e1 (s.mok.ex e1) _ fun p ws H3 n e3 h3 d => ?_⟩
  obtain ⟨vs', h4, h5⟩ := ((s.ex e1).ex e3).lst e
  refine ⟨l, p, vs', ws, rfl, rfl, h4, h3, sz_of (by rw [h5.len, d.len]; exact hz), k _ rfl _ (((s.ex e1).ex e3).set e ⟨_, rfl, ?_⟩)⟩
  rw [List.map_append]
  exact dpa_app h5 (dpa_mono (msk_sub fun a ha => List.mem_cons_of_mem _ ha) d)
/-! ### a, b = e -/
theorem z_unp2 {i j : Nat} {p : α × β} (s : Sg K Mc He H is ms) (h : Hv K (muA ms ++ Mc) te σ H p) (k : ∀ x y, (x, y) = p → ∀ v u H1, Sg K Mc He H1 ((v, Dx.toX x) :: (u, Dx.toX y) :: is) ms → tz D ((σ.set i (some v)).set j (some u)) H1) :
    tSeq (tAsg te (gTup K 2 (gCons (gName i) (gCons (gName j) gNil)))) tz D σ H :=
  h H (Ex.refl H) s.mok _ fun v H1 e d => by
    obtain ⟨l, a, b, rfl, st, d1, d2⟩ := d.pair
    exact ⟨l, [a, b], rfl, ex_t msk_le st, rfl, a, [b], rfl, b, [], rfl, rfl, k p.1 p.2 rfl a b H1 (((s.ex e).put d2).put d1)⟩
/-! ### for over a text -/
def chars (s : Str) : List Str := s.cps.toList.map fun c => ⟨#[c]⟩
theorem chars_len (s : Str) : (chars s).length = s.length := by simp [chars, Str.length]
theorem zq_forS {a : Str} {j : Nat} (s : Sg K Mc He H is ms) (h : Hv K (muA ms ++ Mc) te σ H a) (Pv : Nat → L2.St → Hp → Prop) (h0 : ∀ H1, Sg K Mc He H1 is ms → Pv 0 σ H1)
    (hs : ∀ i x σ' H', (chars a)[i]? = some x → Pv i σ' H' → tu { D with nx := Pv (i + 1), ct := Pv (i + 1), bk := tz D } (σ'.set j (some (.str x))) H')
    (hd : ∀ σ' H', Pv (chars a).length σ' H' → tz D σ' H') : tSeq (tFor (iStr te) (gName j) tu) tz D σ H :=
  h H (Ex.refl H) s.mok _ fun v H1 e d => ⟨a, d.str, by
    have hsz : a.cps.size = (chars a).length := by rw [chars_len]; rfl
    refine for_it (D := { D with nx := tz D }) (walk_str (z := a)) Pv (h0 H1 (s.ex e)) (fun _ _ _ _ _ => True.intro) (fun i x σ' H' H'' hi p y => ?_) (fun σ' H' p => hd σ' H' (by rw [← hsz]; exact p))
    obtain ⟨rfl, c, hc, rfl⟩ := y
    refine hs i _ σ' _ ?_ p
    unfold chars
    rw [List.getElem?_map]
    have : a.cps.toList[i]? = some c := by rw [Array.getElem?_toList]; exact hc
    rw [this]
    rfl⟩
/-! ### while -/
def loopW {S : Type} (c : S → Bool) (f : S → S) : Nat → S → S
  | 0, s => s
  | n + 1, s => if c s = true then loopW c f n (f s) else s
/-- R tells what a state is, μ falls -/
theorem zq_while {S : Type} (c : S → Bool) (f : S → S) (μ : S → Nat) (N : Nat) (s0 : S) (R : S → L2.St → Hp → Prop) (hN : μ s0 < N) (h0 : R s0 σ H)
    (hs : ∀ x σ' H', R x σ' H' → ∃ M', MOk M' H' ∧ HT M' tt σ' H' (c x) ∧
      (c x = true → ∀ H2, Ex H' H2 → tu { D with nx := fun σ2 H3 => ∃ y, y = f x ∧ μ y < μ x ∧ R y σ2 H3, ct := fun σ2 H3 => ∃ y, y = f x ∧ μ y < μ x ∧ R y σ2 H3, bk := tz D } σ' H2))
    (hd : ∀ x σ' H' H2, R x σ' H' → c x = false → Ex H' H2 → loopW c f N s0 = x → tz D σ' H2) : tSeq (tWhile tt tu) tz D σ H := by
  refine ⟨fun m σ' H' => ∃ x, μ x < m ∧ loopW c f N s0 = loopW c f m x ∧ R x σ' H', ⟨N, s0, hN, rfl, h0⟩, ?_⟩
  rintro m σ' H' ⟨x, hm, he, hR⟩
  obtain ⟨M', mo, ht, ht1⟩ := hs x σ' H' hR
  refine ht H' (Ex.refl H') mo _ fun H2 e2 => ?_
  obtain ⟨n, rfl⟩ : ∃ n, m = n + 1 := ⟨m - 1, by omega⟩
  cases hc : c x with
  | true =>
    refine ⟨fun σ2 H3 => ∃ y, y = f x ∧ μ y < μ x ∧ R y σ2 H3, fun σ2 H3 ⟨y, hy, hl, hR2⟩ => ⟨n, Nat.lt_succ_self _, y, by omega, ?_, hR2⟩, ht1 hc H2 e2⟩
    rw [he, hy]
    show (if c x = true then loopW c f n (f x) else x) = _
    rw [if_pos hc]
  | false =>
    refine hd x σ' H' H2 hR hc e2 ?_
    rw [he]
    show (if c x = true then loopW c f n (f x) else x) = x
    rw [if_neg (by rw [hc]; exact Bool.false_ne_true)]
/-! ### new lists by comprehensions -/
theorem hf_lcL0 {vs : List Nat} (s : Sg K Mc He H is ms) {xs : List α} (ef : α → β) (h : Hv K (muA ms ++ Mc) tl σ H xs) (hz : xs.length ≤ 40000)
    (hb : ∀ D src x w (ys : List β) H1, Sg K Mc He H1 ((w, Dx.toX x) :: (src, Dx.toX xs) :: is) ((D, .lst (ys.map Dx.toX)) :: ms) → x ∈ xs →
      ∀ Q : L2.St → Hp → Prop, (∀ σ2, wipe σ2 vs = wipe σ vs → Hv K (muA ((D, Mv.lst (ys.map Dx.toX)) :: ms) ++ Mc) te σ2 H1 (ef x) → Q σ2 H1) → g w (wipe σ vs) H1 Q) :
    HF K (muA ms ++ Mc) (tLc (iList K tl) g tYes te vs) σ H (xs.map ef) := fun H1 e m Q q =>
  h H1 e m _ fun v H2 e2 d => by
    obtain ⟨a, us, rfl, s1, ds⟩ := d.list
    refine ⟨a, rfl, ⟨us, ex_l msk_le s1⟩, fun D hD => ?_⟩
    have sA : Sg K Mc He H2 ((.ref a, Dx.toX xs) :: is) ms := ((s.ex e).ex e2).put d
    have sB : Sg K Mc He (upd H2 D (.lst [])) ((.ref a, Dx.toX xs) :: is) ((D, .lst (([] : List β).map Dx.toX)) :: ms) := sA.new hD ⟨[], rfl, .nil⟩
    refine lc_listD (xs := xs) (M' := D :: (muA ms ++ Mc)) (fun i H' => Ex H2 H' ∧ Sg K Mc He H' ((.ref a, Dx.toX xs) :: is) ((D, .lst (((xs.take i).map ef).map Dx.toX)) :: ms)) ⟨Ex.new hD, sB⟩
      (fun i H' _ p => ?_) (fun i x w H' hx p dw => ?_) (fun H' p => ?_)
    · obtain ⟨a', us', e', s2, ds'⟩ := Dt.list (α := α) p.2.im.1
      cases e'
      exact ⟨us', ex_l msk_le s2, ds'⟩
    · have hi : i < xs.length := (List.getElem?_eq_some_iff.mp hx).1
      refine hb D (.ref a) x w _ H' (p.2.put dw) (List.mem_of_getElem? hx) _ fun σ2 hw he => ⟨hw, ?_⟩
      have hlen : ((xs.take i).map ef).length < 50000 := by
        rw [List.length_map, List.length_take]
        omega
      exact lc_turn (ms := ms) (tt := tYes) (b := true) (zs := (xs.take (i + 1)).map ef) p.2 hlen (fun H3 => Ex H2 H3 ∧ Sg K Mc He H3 ((.ref a, Dx.toX xs) :: is) ((D, .lst (((xs.take (i + 1)).map ef).map Dx.toX)) :: ms)) (fun H2 _ _ _ q => q H2 (Ex.refl H2)) (fun _ => he) (by rw [if_pos rfl, take_snoc hx, List.map_append]; rfl) (fun H3 h4 s3 => ⟨by
        obtain ⟨H4, e4, e5⟩ := h4
        rcases e5 with e5 | ⟨o, e5⟩
        · rw [e5]; exact p.1.trans e4
        · rw [e5]; exact Ex.mut (p.1.trans e4) hD, s3⟩)
    · have z := p.2
      rw [List.take_length] at z
      obtain ⟨us2, h3, h4⟩ := z.lst (k := 0) rfl
      exact q D us2 H' (fresh_back e2 hD) (e2.trans p.1) h3 h4
theorem hf_lcR0 {vs : List Nat} (s : Sg K Mc He H is ms) {n : Int} (ef : Int → β) (h : Hv K (muA ms ++ Mc) ta σ H n) (hz : -100000 ≤ n ∧ n ≤ 40000)
    (hb : ∀ D (x : Int) (ys : List β) H1, Sg K Mc He H1 is ((D, .lst (ys.map Dx.toX)) :: ms) → 0 ≤ x ∧ x < n →
      ∀ Q : L2.St → Hp → Prop, (∀ σ2, wipe σ2 vs = wipe σ vs → Hv K (muA ((D, Mv.lst (ys.map Dx.toX)) :: ms) ++ Mc) te σ2 H1 (ef x) → Q σ2 H1) → g (.int x) (wipe σ vs) H1 Q) :
    HF K (muA ms ++ Mc) (tLc (iRng1 (tCons ta tNil)) g tYes te vs) σ H ((irng 0 n.toNat).map ef) := fun H1 e m Q q =>
  h H1 e m _ fun v H2 e2 d => by
    refine ⟨n, by rw [d.int], by omega, by omega, fun D hD => ?_⟩
    have sA : Sg K Mc He H2 is ms := (s.ex e).ex e2
    have sB : Sg K Mc He (upd H2 D (.lst [])) is ((D, .lst (([] : List β).map Dx.toX)) :: ms) := sA.new hD ⟨[], rfl, .nil⟩
    refine lc_range (lo := 0) (n := n.toNat) (fun i H' => Ex H2 H' ∧ Sg K Mc He H' is ((D, .lst ((((irng 0 n.toNat).take i).map ef).map Dx.toX)) :: ms)) ⟨Ex.new hD, sB⟩
      (fun i H' hi p => ?_) (fun H' p => ?_)
    · have hx : (irng 0 n.toNat)[i]? = some ((0 : Int) + (i : Int)) := irng_get hi
      refine hb D ((0 : Int) + (i : Int)) _ H' p.2 ⟨by omega, by omega⟩ _ fun σ2 hw he => ⟨hw, ?_⟩
      have hlen : (((irng 0 n.toNat).take i).map ef).length < 50000 := by
        rw [List.length_map, List.length_take, irng_len]
        omega
      exact lc_turn (ms := ms) (tt := tYes) (b := true) (zs := ((irng 0 n.toNat).take (i + 1)).map ef) p.2 hlen (fun H3 => Ex H2 H3 ∧ Sg K Mc He H3 is ((D, .lst ((((irng 0 n.toNat).take (i + 1)).map ef).map Dx.toX)) :: ms)) (fun H2 _ _ _ q => q H2 (Ex.refl H2)) (fun _ => he) (by rw [if_pos rfl, take_snoc hx, List.map_append]; rfl) (fun H3 h4 s3 => ⟨by
        obtain ⟨H4, e4, e5⟩ := h4
        rcases e5 with e5 | ⟨o, e5⟩
        · rw [e5]; exact p.1.trans e4
        · rw [e5]; exact Ex.mut (p.1.trans e4) hD, s3⟩)
    · have z := p.2
      have et : (irng 0 n.toNat).take n.toNat = irng 0 n.toNat := List.take_of_length_le (by rw [irng_len]; exact Nat.le_refl _)
      rw [et] at z
      obtain ⟨us2, h3, h4⟩ := z.lst (k := 0) rfl
      exact q D us2 H' (fresh_back e2 hD) (e2.trans p.1) h3 h4
/-- the items with their places -/
def enumL (xs : List α) : List (Int × α) := List.zipWith (fun (i : Nat) (x : α) => ((i : Int), x)) (List.range xs.length) xs
theorem enumL_len (xs : List α) : (enumL xs).length = xs.length := by unfold enumL; rw [List.length_zipWith, List.length_range, Nat.min_self]
theorem enumL_get {xs : List α} {i : Nat} {x : α} (h : xs[i]? = some x) : (enumL xs)[i]? = some ((i : Int), x) := by
  have hi : i < xs.length := (List.getElem?_eq_some_iff.mp h).1
  unfold enumL
  rw [List.getElem?_zipWith, List.getElem?_range hi, h]
/-- [.. for i, x in enumerate(xs)] -/
theorem hf_lcE0 {vs : List Nat} (s : Sg K Mc He H is ms) {xs : List α} (ef : Int × α → β) (h : Hv K (muA ms ++ Mc) tl σ H xs) (hz : xs.length ≤ 40000)
    (hb : ∀ D src (x : Int × α) w (ys : List β) H1, Sg K Mc He H1 ((w, Dx.toX x) :: (src, Dx.toX xs) :: is) ((D, .lst (ys.map Dx.toX)) :: ms) → x ∈ enumL xs →
      ∀ Q : L2.St → Hp → Prop, (∀ σ2, wipe σ2 vs = wipe σ vs → Hv K (muA ((D, Mv.lst (ys.map Dx.toX)) :: ms) ++ Mc) te σ2 H1 (ef x) → Q σ2 H1) → g w (wipe σ vs) H1 Q) :
    HF K (muA ms ++ Mc) (tLc (iEnum K (tCons tl tNil)) g tYes te vs) σ H ((enumL xs).map ef) := fun H1 e m Q q =>
  h H1 e m _ fun v H2 e2 d => by
    obtain ⟨a, us, rfl, s1, ds⟩ := d.list
    have s1' : SqL K H2 a us := ex_l msk_le s1
    refine ⟨a, us, rfl, s1', fun D hD => ?_⟩
    have sA : Sg K Mc He H2 ((.ref a, Dx.toX xs) :: is) ms := ((s.ex e).ex e2).put d
    have sB : Sg K Mc He (upd H2 D (.lst [])) ((.ref a, Dx.toX xs) :: is) ((D, .lst (([] : List β).map Dx.toX)) :: ms) := sA.new hD ⟨[], rfl, .nil⟩
    have hlu : us.length = xs.length := ds.len
    refine lc_it (walk_enum (K := K) (a := a) (xs := us)) (fun i H' => Ex H2 H' ∧ Sg K Mc He H' ((.ref a, Dx.toX xs) :: is) ((D, .lst ((((enumL xs).take i).map ef).map Dx.toX)) :: ms)) ⟨Ex.new hD, sB⟩
      (fun i H' _ p => ex_l p.1 s1') (fun i x H' H'' hi p y => ?_) (fun H' p => ?_)
    · obtain ⟨T, x0, x1, rfl, nT, rfl, f1, f2⟩ := y
      have hix : i < xs.length := by rw [← hlu]; exact hi
      have gx : xs[i]? = some xs[i] := by simp [hix]
      have gE := enumL_get gx
      have e0 : x0 = .int (i : Int) := (Option.some.inj f1).symm
      subst e0
      have eT : Ex H' (upd H' T (.tup [.int (i : Int), x1])) := Ex.new nT
      have sT := p.2.ex eT
      have dm : Dt K (msk (D :: (muA ms ++ Mc)) (upd H' T (.tup [.int (i : Int), x1]))) x1 xs[i] := by
        have d2 : Dts K (msk (D :: (muA ms ++ Mc)) (upd H' T (.tup [.int (i : Int), x1]))) us xs := by
          have q1 : Dts K (msk (muA ms ++ Mc) H2) us xs := ds
          have q2 : Ex (msk (muA ms ++ Mc) H2) (msk (D :: (muA ms ++ Mc)) (upd H' T (.tup [.int (i : Int), x1]))) := fun b o hb' => by
            by_cases z : b ∈ muA ms ++ Mc
            · rw [msk_in z] at hb'; cases hb'
            · rw [msk_out z] at hb'
              have nb : b ≠ D := ne_of_none hb' hD
              rw [msk_out (by simp only [List.mem_cons, not_or]; exact ⟨nb, z⟩)]
              exact eT b o (p.1 b o hb')
          exact q1.mono q2
        obtain ⟨w, w1, w2⟩ := d2.at gx
        have : x1 = w := Option.some.inj (f2.symm.trans w1)
        subst this; exact w2
      have nTD : T ∉ D :: (muA ms ++ Mc) := fun z => (p.2.mok T z) nT
      have dw : Dt K (msk (D :: (muA ms ++ Mc)) (upd H' T (.tup [.int (i : Int), x1]))) (.ref T) ((i : Int), xs[i]) := Dt.ofPair (SqT.of (by rw [msk_out nTD]; exact upd_same)) (Dt.ofInt _) dm
      refine hb D (.ref a) ((i : Int), xs[i]) (.ref T) _ _ (sT.put dw) (List.mem_of_getElem? gE) _ fun σ2 hw he => ⟨hw, ?_⟩
      have hlen : (((enumL xs).take i).map ef).length < 50000 := by
        rw [List.length_map, List.length_take, enumL_len]
        omega
      exact lc_turn (ms := ms) (tt := tYes) (b := true) (zs := ((enumL xs).take (i + 1)).map ef) sT hlen (fun H3 => Ex H2 H3 ∧ Sg K Mc He H3 ((.ref a, Dx.toX xs) :: is) ((D, .lst ((((enumL xs).take (i + 1)).map ef).map Dx.toX)) :: ms)) (fun H2 _ _ _ q => q H2 (Ex.refl H2)) (fun _ => he) (by rw [if_pos rfl, take_snoc gE, List.map_append]; rfl) (fun H3 h4 s3 => ⟨by
        obtain ⟨H4, e4, e5⟩ := h4
        rcases e5 with e5 | ⟨o, e5⟩
        · rw [e5]; exact (p.1.trans eT).trans e4
        · rw [e5]; exact Ex.mut ((p.1.trans eT).trans e4) hD, s3⟩)
    · have z := p.2
      have et : (enumL xs).take us.length = enumL xs := List.take_of_length_le (by rw [enumL_len, hlu]; exact Nat.le_refl _)
      rw [et] at z
      obtain ⟨us2, h3, h4⟩ := z.lst (k := 0) rfl
      exact q D us2 H' (fresh_back e2 hD) (e2.trans p.1) h3 h4
theorem z_augSG {i : Nat} {a b : Str} (s : Sg K Mc He H is ms) (hx : σ[i]? = some (some (.str a))) (h : Hv K (muA ms ++ Mc) te σ H b) (hz : a.length + b.length ≤ 100000) (k : ∀ y, y = a ++ b → ∀ H1, Sg K Mc He H1 is ms → tz D (σ.set i (some (.str y))) H1) :
    tSeq (tAug i te (fun x y H Q => ∃ i j, x = .str i ∧ y = .str j ∧ i.length + j.length ≤ sizeLine ∧ Q (.str (i ++ j)) H)) tz D σ H :=
  ⟨.str a, hx, h H (Ex.refl H) s.mok _ fun v H1 e d => ⟨a, b, rfl, d.str, sz_of hz, k _ rfl H1 (s.ex e)⟩⟩
end
theorem str_len_app (a b : Str) : (a ++ b).length = a.length + b.length := by
  rw [TL.len_tl, TL.len_tl, TL.len_tl, TL.tl_append, List.length_append]
theorem chars_one {s x : Str} {i : Nat} (h : (chars s)[i]? = some x) : x.length = 1 := by
  unfold chars at h
  rw [List.getElem?_map] at h
  cases hc : s.cps.toList[i]? with
  | none => rw [hc] at h; cases h
  | some c =>
    rw [hc] at h
    cases h
    rfl
theorem strAt_len (s : Str) (i : Nat) : (strAt s i).length = 1 := rfl
end Ly

namespace Ly
open PySem PySem.Spec PyProof.Rows L2 Evl
open PySem.W (Datum DatumOrd Tup T3 T4 minOf)
section
variable {K : PySem.W.Frag} {Mc M : List Addr} {He H H1 H2 : Hp} {is js : Ims} {ms : Mus} {σ : L2.St} {te ta tb tl : TE} {tt : TT} {g : TG} {tlo thi : TO}
theorem inV_strs (a : Str) : ∀ xs : List Str, inV (.str a) (xs.map V.str) = decide (a ∈ xs)
  | [] => by simp [inV]
  | x :: xs => by
    have ih := inV_strs a xs
    unfold inV at ih ⊢
    rw [List.map_cons, List.any_cons, ih]
    show (x == a || _) = _
    by_cases h : x = a
    · subst h; simp
    · have h2 : ¬ a = x := fun z => h z.symm
      simp [h, h2]
theorem flat_strs : ∀ xs : List Str, (xs.map V.str).all flatV = true
  | [] => rfl
  | x :: xs => by rw [List.map_cons, List.all_cons, flat_strs xs]; rfl
theorem hv_memS {neg : Bool} {tr : TA} {a : Str} {xs : List Str} (ha : Hv K M ta σ H a) (hr : HAs K M tr σ H xs) (hl : xs.length ≤ 100000) : Hv K M (tOp (rIn K neg) ta (tTup tr)) σ H (if neg then !decide (a ∈ xs) else decide (a ∈ xs)) := fun H1 e m Q q =>
  ha H1 e m _ fun v H2 e2 d => hr H2 (e.trans e2) (m.ex e2) _ fun vs H3 e3 d' => ⟨sz_of (by rw [d'.len]; exact hl), fun p hp => by
    have e4 : Ex H3 (upd H3 p (.tup vs)) := Ex.new hp
    have hv := dts_strs d'
    refine ⟨p, vs, rfl, Or.inr (SqT.of upd_same), by rw [d.str]; rfl, by rw [hv]; exact flat_strs xs, ?_⟩
    have hb : inV v vs = decide (a ∈ xs) := by rw [d.str, hv]; exact inV_strs a xs
    rw [hb]
    exact q _ _ ((e2.trans e3).trans e4) (Dt.ofBool _)⟩
theorem hv_inTS {tr : TA} {a : Str} {xs : List Str} (ha : Hv K M ta σ H a) (hr : HAs K M tr σ H xs) (hl : xs.length ≤ 100000) : Hv K M (tOp (rIn K false) ta (tTup tr)) σ H (decide (a ∈ xs)) := hv_memS (neg := false) ha hr hl
theorem hv_niTS {tr : TA} {a : Str} {xs : List Str} (ha : Hv K M ta σ H a) (hr : HAs K M tr σ H xs) (hl : xs.length ≤ 100000) : Hv K M (tOp (rIn K true) ta (tTup tr)) σ H (!decide (a ∈ xs)) := hv_memS (neg := true) ha hr hl
end
/-! ### facts of texts -/
abbrev cps (s : Str) : List Nat := s.cps.toList
theorem len_cps (s : Str) : s.length = (cps s).length := by simp [Str.length, cps]
theorem cps_app (a b : Str) : cps (a ++ b) = cps a ++ cps b := by
  show (a ++ b).cps.toList = _
  rw [PySem.Str.cps_append, Array.toList_append]
theorem str_ext {a b : Str} (h : cps a = cps b) : a = b := by
  cases a; cases b
  congr 1
  exact Array.toList_inj.mp h
theorem cps_lower {s : Str} (h : ∀ c ∈ cps s, c < 128) : cps (Txt.lower s) = (cps s).map PyProof.Rows.lo1 := by
  rw [PyProof.Rows.lower_ascii h]
  show (Array.map _ _).toList = _
  rw [Array.toList_map]
theorem find3_cases (x y : Str) (i : Int) :
    (Txt.find3 x y i = -1 ∧ ∀ k, PySem.fromIndex x.length i ≤ k → ¬ StrLaws.At x y x.length k) ∨
    ∃ k : Nat, Txt.find3 x y i = (k : Int) ∧ PySem.fromIndex x.length i ≤ k ∧ StrLaws.At x y x.length k ∧ ∀ v, PySem.fromIndex x.length i ≤ v → v < k → ¬ StrLaws.At x y x.length v := by
  unfold Txt.find3
  rcases StrLaws.occ_head_from x y (PySem.fromIndex x.length i) 1 (Nat.le_refl 1) with ⟨h0, hn⟩ | ⟨k, r, h0, h1, h2, h3⟩
  · rw [h0]; exact .inl ⟨rfl, hn⟩
  · rw [h0]; exact .inr ⟨k, rfl, h1, h2, h3⟩
theorem from_nat (n : Nat) {i : Int} (h : 0 ≤ i) : PySem.fromIndex n i = i.toNat := by
  unfold PySem.fromIndex
  rw [if_neg (by omega)]
  omega
theorem inStr_one (c : Nat) (s : Str) : inStr ⟨#[c]⟩ s = decide (c ∈ cps s) := StrLaws.found_one s c
theorem chars_cps (s : Str) : chars s = (cps s).map fun c => ⟨#[c]⟩ := rfl
theorem mem_chars {s x : Str} {i : Nat} (h : (chars s)[i]? = some x) : ∃ c ∈ cps s, x = ⟨#[c]⟩ := by
  rw [chars_cps, List.getElem?_map] at h
  cases hc : (cps s)[i]? with
  | none => rw [hc] at h; cases h
  | some c =>
    rw [hc] at h
    exact ⟨c, List.mem_of_getElem? hc, (Option.some.inj h).symm⟩
abbrev DIG : Str := PySem.Str.ofString "0123456789"
theorem cps_dig : cps DIG = [48, 49, 50, 51, 52, 53, 54, 55, 56, 57] := by decide +kernel
theorem dig_iff (c : Nat) : inStr ⟨#[c]⟩ DIG = true ↔ 48 ≤ c ∧ c ≤ 57 := by
  rw [inStr_one, cps_dig, decide_eq_true_eq]
  simp only [List.mem_cons, List.not_mem_nil, or_false]
  omega
theorem int_dig {c : Nat} (h : 48 ≤ c ∧ c ≤ 57) : PySem.intText? ⟨#[c]⟩ = some ((c - 48 : Nat) : Int) := by
  obtain ⟨h1, h2⟩ := h
  have : c = 48 ∨ c = 49 ∨ c = 50 ∨ c = 51 ∨ c = 52 ∨ c = 53 ∨ c = 54 ∨ c = 55 ∨ c = 56 ∨ c = 57 := by omega
  rcases this with h | h | h | h | h | h | h | h | h | h <;> (subst h; decide +kernel)
theorem int_sign {s x : Str} {i : Nat} (h : (chars s)[i]? = some x) (hd : inStr x DIG = true) : PySem.intText? x = some ((PySem.intText? x).getD 0) := by
  obtain ⟨c, _, rfl⟩ := mem_chars h
  rw [int_dig ((dig_iff c).mp hd)]
  rfl
theorem sum_le {α : Type} (f : α → Str) (n : Nat) (h : ∀ x, (f x).length ≤ n) : ∀ xs : List α, ((xs.map f).map (·.length)).sum ≤ n * xs.length
  | [] => by simp
  | x :: xs => by
    have := sum_le f n h xs
    have := h x
    rw [List.map_cons, List.map_cons, List.sum_cons, List.length_cons, Nat.mul_add]
    omega
theorem getD_P {α : Type} {P : α → Prop} {xs : List α} {d : α} (h : ∀ x ∈ xs, P x) (hd : P d) (i : Nat) : P (xs.getD i d) := by
  rw [List.getD_eq_getElem?_getD]
  cases hx : xs[i]? with
  | none => exact hd
  | some x => exact h x (List.mem_of_getElem? hx)
theorem next_find (d c : Str) {s : Int} (h0 : 0 ≤ s) : Txt.find3 d c (s + 1) < 0 ∨ (s < Txt.find3 d c (s + 1) ∧ Txt.find3 d c (s + 1) ≤ (d.length : Int)) := by
  rcases find3_cases d c (s + 1) with ⟨h, _⟩ | ⟨k, h, h1, h2, _⟩
  · left; omega
  · right
    rw [from_nat _ (by omega)] at h1
    have := h2.1
    omega
theorem loopW_inv {S : Type} {c : S → Bool} {f : S → S} (I : S → Prop) (hs : ∀ s, I s → c s = true → I (f s)) : ∀ (n : Nat) (s : S), I s → I (loopW c f n s)
  | 0, s, h => h
  | n + 1, s, h => by
    rw [loopW]
    split
    · rename_i hc
      exact loopW_inv I hs n _ (hs s h hc)
    · exact h
theorem foldl_inv {S α : Type} {f : S → α → S} (I : S → Prop) : ∀ (l : List α) (s : S), (∀ s x, x ∈ l → I s → I (f s x)) → I s → I (l.foldl f s)
  | [], s, _, h => h
  | x :: l, s, hs, h => by
    rw [List.foldl_cons]
    exact foldl_inv I l _ (fun s y hy => hs s y (List.mem_cons_of_mem _ hy)) (hs s x List.mem_cons_self h)
end Ly

namespace Ly
open PySem PySem.Spec PyProof.Rows L2 Evl
/-! ### facts of loops and of places in texts -/
/-- what lies from lo on, n places long -/
def gl {β : Type} (occ : Nat → Bool) (blk : Nat → List β) : Nat → Nat → List β
  | _, 0 => []
  | lo, n + 1 => (if occ lo = true then blk lo else []) ++ gl occ blk (lo + 1) n
theorem gl_skip {β : Type} {occ : Nat → Bool} {blk : Nat → List β} : ∀ (j lo r : Nat), (∀ v, lo ≤ v → v < lo + j → occ v = false) → gl occ blk lo (j + r) = gl occ blk (lo + j) r
  | 0, lo, r, _ => by rw [Nat.zero_add, Nat.add_zero]
  | j + 1, lo, r, h => by
    rw [show j + 1 + r = (j + r) + 1 by omega, gl, h lo (by omega) (by omega), if_neg Bool.false_ne_true, List.nil_append, gl_skip j (lo + 1) r fun v h1 h2 => h v (by omega) (by omega)]
    rw [show lo + 1 + j = lo + (j + 1) by omega]
theorem gl_none {β : Type} {occ : Nat → Bool} {blk : Nat → List β} : ∀ (j lo : Nat), (∀ v, lo ≤ v → v < lo + j → occ v = false) → gl occ blk lo j = []
  | 0, lo, _ => rfl
  | j + 1, lo, h => by
    rw [gl, h lo (by omega) (by omega), if_neg Bool.false_ne_true, List.nil_append]
    exact gl_none j (lo + 1) fun v h1 h2 => h v (by omega) (by omega)
theorem gl_mem {β : Type} {occ : Nat → Bool} {blk : Nat → List β} {x : β} : ∀ (n lo : Nat), x ∈ gl occ blk lo n → ∃ k, lo ≤ k ∧ k < lo + n ∧ occ k = true ∧ x ∈ blk k
  | 0, lo, h => by cases h
  | n + 1, lo, h => by
    rw [gl, List.mem_append] at h
    rcases h with h | h
    · cases ho : occ lo with
      | true => rw [ho, if_pos rfl] at h; exact ⟨lo, by omega, by omega, ho, h⟩
      | false => rw [ho, if_neg Bool.false_ne_true] at h; cases h
    · obtain ⟨k, h1, h2, h3⟩ := gl_mem n (lo + 1) h
      exact ⟨k, by omega, by omega, h3⟩
theorem gl_split {β : Type} {occ : Nat → Bool} {blk : Nat → List β} : ∀ (a b lo : Nat), gl occ blk lo (a + b) = gl occ blk lo a ++ gl occ blk (lo + a) b
  | 0, b, lo => by rw [Nat.zero_add]; rfl
  | a + 1, b, lo => by
    rw [show a + 1 + b = (a + b) + 1 by omega, gl, gl, gl_split a b (lo + 1), List.append_assoc, show lo + 1 + a = lo + (a + 1) by omega]
/-- turns over the places, and turns over what lies there -/
theorem foldl_gl {S β : Type} {occ : Nat → Bool} {blk : Nat → List β} {f : S → β → S} {g : S → Int → S} : ∀ (n lo : Nat) (s : S), (∀ v s, lo ≤ v → v < lo + n → g s (v : Int) = if occ v = true then (blk v).foldl f s else s) → (gl occ blk lo n).foldl f s = loopN g n (lo : Int) s
  | 0, lo, s, _ => rfl
  | n + 1, lo, s, h => by
    rw [gl, List.foldl_append, loopN, h lo s (by omega) (by omega)]
    have ih := fun s' => foldl_gl (occ := occ) (blk := blk) (f := f) (g := g) n (lo + 1) s' fun v s h1 h2 => h v s (by omega) (by omega)
    have e : ((lo : Int) + 1) = ((lo + 1 : Nat) : Int) := by omega
    rw [e]
    cases ho : occ lo with
    | true => rw [if_pos rfl, if_pos rfl]; exact ih _
    | false => rw [if_neg Bool.false_ne_true, if_neg Bool.false_ne_true]; exact ih _
/-- turns over places with the item there, and turns over the list told with its places -/
theorem loopN_enum {S α : Type} [DecidableEq α] [Dx α] {g : S → Int → α → S} {d : α} {xs : List α} : ∀ (k i : Nat) (s : S), i + k = xs.length → loopN (fun s x => g s x (xs.getD (Int.toNat x) d)) k (i : Int) s = ((enumL xs).drop i).foldl (fun s p => g s p.1 p.2) s
  | 0, i, s, h => by
    rw [List.drop_eq_nil_of_le (by rw [enumL_len]; omega)]
    rfl
  | k + 1, i, s, h => by
    have hi : i < xs.length := by omega
    have gx : xs[i]? = some xs[i] := by simp [hi]
    have gE := enumL_get gx
    obtain ⟨hi2, ge⟩ := List.getElem?_eq_some_iff.mp gE
    rw [List.drop_eq_getElem_cons hi2, ge, List.foldl_cons, loopN]
    have e : ((i : Int) + 1) = ((i + 1 : Nat) : Int) := by omega
    rw [e, loopN_enum k (i + 1) _ (by omega)]
    have e2 : xs.getD (Int.toNat (i : Int)) d = xs[i] := by
      rw [Int.toNat_natCast, List.getD_eq_getElem?_getD, gx]
      rfl
    rw [e2]
theorem enumL_mem {α : Type} [DecidableEq α] [Dx α] {xs : List α} {p : Int × α} (h : p ∈ enumL xs) : 0 ≤ p.1 ∧ p.1 < (xs.length : Int) ∧ p.2 ∈ xs := by
  obtain ⟨i, hi, rfl⟩ := List.getElem_of_mem h
  have hx : i < xs.length := by rw [enumL_len] at hi; exact hi
  have gx : xs[i]? = some xs[i] := by simp [hx]
  have gE := enumL_get gx
  obtain ⟨_, ge⟩ := List.getElem?_eq_some_iff.mp gE
  rw [ge]
  exact ⟨by show (0 : Int) ≤ (i : Int); omega, by show (i : Int) < _; omega, List.getElem_mem hx⟩
/-- c lies in d at k -/
def occ (d c : Str) (k : Nat) : Bool := decide (k + c.length ≤ d.length) && Builtin.Str.subAt d c k
theorem occ_iff (d c : Str) (k : Nat) : occ d c k = true ↔ StrLaws.At d c d.length k := by
  unfold occ StrLaws.At
  rw [Bool.and_eq_true, decide_eq_true_eq]
theorem occ_no {d c : Str} {k : Nat} (h : ¬ StrLaws.At d c d.length k) : occ d c k = false := by
  cases e : occ d c k with
  | false => rfl
  | true => exact absurd ((occ_iff d c k).mp e) h
theorem find_zero (d c : Str) : Txt.find d c = Txt.find3 d c ((0 : Nat) : Int) := by
  unfold Txt.find Txt.find3
  rw [from_nat _ (by omega)]
  rfl
/-- the places, found one after another -/
theorem loopW_occ {β : Type} {d c : Str} {blk : Nat → List β} {f : List β × Int → List β × Int} (hf : ∀ l (k : Nat), f (l, (k : Int)) = (l ++ blk k, Txt.find3 d c ((k : Int) + 1))) :
    ∀ (fuel lo : Nat) (l : List β), lo ≤ d.length + 1 → d.length + 1 - lo < fuel →
      (loopW (fun (s_ : List β × Int) => decide ((0 : Int) ≤ s_.2)) f fuel (l, Txt.find3 d c (lo : Int))).1 = l ++ gl (occ d c) blk lo (d.length + 1 - lo)
  | 0, lo, l, _, h => by omega
  | fuel + 1, lo, l, h1, h2 => by
    rw [loopW]
    rcases find3_cases d c (lo : Int) with ⟨h, hn⟩ | ⟨k, h, hk, hat, hn⟩
    · rw [from_nat _ (by omega), Int.toNat_natCast] at hn
      rw [h, if_neg (show ¬ decide ((0 : Int) ≤ -1) = true by decide)]
      rw [gl_none _ _ fun v h1 h2 => occ_no (hn v h1), List.append_nil]
    · rw [from_nat _ (by omega), Int.toNat_natCast] at hk hn
      have hle := hat.1
      rw [h, if_pos (by show decide ((0 : Int) ≤ (k : Int)) = true; rw [decide_eq_true_eq]; omega), hf, show ((k : Int) + 1) = ((k + 1 : Nat) : Int) by omega, loopW_occ hf fuel (k + 1) _ (by omega) (by omega), List.append_assoc]
      congr 1
      rw [show d.length + 1 - lo = (k - lo) + (d.length + 1 - k) by omega, gl_skip (k - lo) lo _ fun v h1 h2 => occ_no (hn v h1 (by omega))]
      rw [show lo + (k - lo) = k by omega, show d.length + 1 - k = (d.length + 1 - (k + 1)) + 1 by omega, gl, if_pos ((occ_iff d c k).mpr hat)]
theorem cut_occ {d c : Str} {k : Nat} (h : k + c.length ≤ d.length) : decide (cutS d (some (k : Int)) (some ((k : Int) + ((c.length : Nat) : Int))) = c) = occ d c k := by
  have e1 : HT.sIx d.length 0 (some (k : Int)) = k := by rw [HT.sIx_nat]; omega
  have e2 : HT.sIx d.length d.length (some ((k : Int) + ((c.length : Nat) : Int))) = k + c.length := by
    rw [show ((k : Int) + ((c.length : Nat) : Int)) = ((k + c.length : Nat) : Int) by omega, HT.sIx_nat]; omega
  unfold occ
  rw [decide_eq_true h, Bool.true_and, StrLaws.subAt_eq]
  unfold cutS
  rw [e1, e2, show k + c.length - k = c.length by omega]
  by_cases q : (d.cps.toList.drop k).take c.length = c.cps.toList
  · rw [q, beq_self_eq_true, decide_eq_true_eq]
  · have q2 : ((d.cps.toList.drop k).take c.length == c.cps.toList) = false := beq_eq_false_iff_ne.mpr q
    rw [q2, decide_eq_false]
    intro z
    apply q
    have := congrArg (fun (s : Str) => s.cps.toList) z
    simpa using this
theorem loopNR_all {ρ S : Type} {f : S → Int → Lp ρ S} (h : ∀ s k, f s k = .nxt s) : ∀ (n : Nat) (k : Int) (s : S), loopNR f n k s = .inr s
  | 0, _, _ => rfl
  | n + 1, k, s => by rw [loopNR, h]; exact loopNR_all h n (k + 1) s
theorem set_same {xs : List Int} {i : Nat} {v : Int} (h : xs.getD i 0 = v) : xs.set i v = xs := by
  rw [List.getD_eq_getElem?_getD] at h
  cases hx : xs[i]? with
  | none => exact List.set_eq_of_length_le (List.getElem?_eq_none_iff.mp hx)
  | some x =>
    rw [hx] at h
    obtain ⟨hi, hg⟩ := List.getElem?_eq_some_iff.mp hx
    subst h
    rw [← hg]
    exact List.set_getElem_self hi
theorem getD_nonneg {xs : List Int} (h : ∀ x ∈ xs, (0 : Int) ≤ x) (i : Nat) : 0 ≤ xs.getD i 0 := getD_P (P := fun x => (0 : Int) ≤ x) h (Int.le_refl 0) i
theorem cutL_in {α : Type} {xs : List α} {a b : Nat} : cutL xs (some (a : Int)) (some (b : Int)) = (xs.drop (min a xs.length)).take (min b xs.length - min a xs.length) := by
  unfold cutL
  rw [HT.sIx_nat, HT.sIx_nat]
theorem zeros_eq (n : Nat) : (List.replicate n [(0 : Int)]).flatten = (irng 0 n).map (fun _ => (0 : Int)) := by
  have h1 : ∀ k : Nat, (List.replicate k [(0 : Int)]).flatten = List.replicate k 0 := fun k => by
    induction k with
    | zero => rfl
    | succ k ih => rw [List.replicate_succ, List.flatten_cons, ih]; rfl
  rw [h1]
  symm
  rw [List.eq_replicate_iff]
  exact ⟨by rw [List.length_map, irng_len], fun b hb => by obtain ⟨_, _, rfl⟩ := List.mem_map.mp hb; rfl⟩
end Ly

namespace Ly
open PySem PySem.Spec PyProof.Rows L2 Evl CwR
open PySem.W (Datum DatumOrd Tup T3 T4 minOf)
/-! ### where a token is out: tests, a turn's body, the loop -/
def PTT (X : Cx) (c : Expr) (t : TT) : Prop :=
  ∀ (pins : List (Addr × Obj)) (s : Shared) (σ : L2.St) (H : Hp) (Q : Bool → Hp → Prop), 1 ≤ s.toks → Inv X pins σ H s → t σ H Q → wpAny (model X.prog X.w) X.A (isTrue c X.env (eval c X.env)) (TP X pins σ Q) X.xe s
def PWT (X : Cx) (c : Expr) (t : TT) : Prop :=
  ∀ (wh : Sem Value) (pins : List (Addr × Obj)) (s : Shared) (σ : L2.St) (H : Hp) (Q : Bool → Hp → Prop), 1 ≤ s.toks → Inv X pins σ H s → t σ H Q → wpAny (model X.prog X.w) X.A (isTrue c X.env wh) (TP X pins σ Q) X.xe s
section
variable {X : Cx} {a b c o : Expr} {rest : List Expr} {pos apos : Pos} {ta tb to : TE} {tA tB : TT}
theorem PTT.of (h : PT X c tA) : PTT X c tA := fun pins s σ H Q _ I q => h.run pins s σ H Q I q
theorem PWT.ptt (h : PWT X c tA) : PTT X c tA := fun pins s σ H Q h0 I q => h _ pins s σ H Q h0 I q
theorem ptt_cmp {op : CmpOp} {r : R2} (ho : OpR X (compareOp op) r) (ha : PET X a ta) (hb : PE X b tb) (hm : behindInMarks op b = false) : PTT X (.Compare a [op] [b] pos) (tTest (tOp r ta tb)) := fun pins s σ H Q h0 I h =>
  wpAny_isTrue_Compare1 (thn (ha pins s σ H _ h0 I h) fun v s1 ⟨x, H1, I1, r1, q1⟩ => thn (hb.run pins s1 σ H1 _ I1 q1) fun u s2 ⟨y, H2, I2, r2, q2⟩ =>
    thn (ho pins s2 σ H2 x y v u _ I2 r1 r2 q2) fun d s3 ⟨z, H3, I3, r3, k, e, q3⟩ => by
      subst e
      cases r3
      exact wpAny_truthy_bool ⟨H3, I3, q3⟩) hm
theorem pwt_and1 (ha : PTT X a tA) : PWT X (.BoolOp .And [a] pos) tA := fun wh pins s σ H Q h0 I h =>
  isTrue_and (thn (ha pins s σ H Q h0 I h) fun d s1 e => by
    cases d with
    | true => exact isTrue_and_nil e
    | false => exact e)
theorem pwt_and (ha : PTT X a tA) (hb : PWT X (.BoolOp .And (b :: rest) pos) tB) : PWT X (.BoolOp .And (a :: b :: rest) pos) (tAnd tA tB) := fun wh pins s σ H Q h0 I h =>
  isTrue_and (wpAny_mono (PySem.wpAny_toks (ha pins s σ H _ h0 I h)) (fun d s1 q => by
    obtain ⟨hk, H1, I1, q1⟩ := q
    cases d with
    | true => exact hb wh pins s1 σ H1 Q (Nat.le_trans h0 hk) I1 q1
    | false => exact ⟨H1, I1, q1⟩) fun _ _ z => z.2)
theorem pet_m0 {id : String} {name : Str} {r : V → List V → Hp → VK → Prop} (slot : Slot "str" name id) (ty : typeOf (.builtin id) = pure (.type "method_descriptor")) (rule : MtR X id r) (ho : PET X o to)
    (hbase : attributeBase o name X.env (eval o X.env) = eval o X.env := by rfl) (hline : (apos.endLine == pos.line) = true := by rfl) : PET X (.Call (.Attribute o name apos) [] [] pos) (tM0 r to) := fun pins s σ H Q h0 I h =>
  PySem.Call_method0 hbase hline (thn (ho pins s σ H _ h0 I h) fun v s1 ⟨x, H1, I1, r1, q⟩ => by
    obtain ⟨⟨z, rfl⟩, q1⟩ := q
    obtain ⟨t, rfl⟩ := _root_.id r1
    exact ⟨"str", _, PySem.F.plainAttrs_str, slot, ty, typeIs_str _ _ _, (fun _ e => nomatch e), Calls.callWith_builtin rfl (PySem.evalArgs_none (rule pins s1 σ H1 _ [] _ [] Q I1 r1 .nil q1))⟩)
theorem pet_lower (ho : PET X o to) (hbase : attributeBase o "lower" X.env (eval o X.env) = eval o X.env := by rfl) (hline : (apos.endLine == pos.line) = true := by rfl) :
    PET X (.Call (.Attribute o "lower" apos) [] [] pos) (tM0 (fun x xs H Q => ∃ a, x = .str a ∧ xs = [] ∧ a.length ≤ 5592405 ∧ Q (.str (Txt.lower a)) H) to) :=
  pet_m0 PySem.F.slot_str_lower PySem.F.type_str_lower mt_lower ho hbase hline
theorem pst_ifT {x y : List Stmt} {tc : TT} {t u : TS} (hc : PTT X c tc) (hx : PSsT X x t) (hy : PSsT X y u) : PST X (.If c x y pos) (tIfS tc t u) := fun pins s σ H D h0 I h =>
  wpAny_If (wpAny_mono (PySem.wpAny_toks (hc pins s σ H _ h0 I h)) (fun d s1 q => by
    obtain ⟨hk, H1, I1, q1⟩ := q
    cases d with
    | true => exact hx pins s1 σ H1 D (Nat.le_trans h0 hk) I1 q1
    | false => exact hy pins s1 σ H1 D (Nat.le_trans h0 hk) I1 q1) fun _ _ z => z.2)
/-- for: a token that is out stays out through the turns -/
theorem pst_forT {tg iter : Expr} {body : List Stmt} {wi : TI} {g : TG} {tb : TS} (hp : PassesOwn (model X.prog X.w) X.A X.env X.xe) (hc : X.calm = true) (hi : PI X tg iter wi) (hg : PG X tg g) (hb : PSsT X body tb)
    (hs : ∀ x, foldedSetIterable iter X.env x = pure x := by intro _; rfl) : PST X (.For tg iter body [] pos) (tFor wi g tb) := by
  intro pins s σ H D h0 I h
  have grow : ∀ {α : Type} {t : Sem α} {Q : α → Shared → Prop} {E : Value → Shared → Prop} {z : Shared}, 1 ≤ z.toks → wpAny (model X.prog X.w) X.A t Q E z → wpAny (model X.prog X.w) X.A t (fun r z' => 1 ≤ z'.toks ∧ Q r z') E z := fun hz w =>
    wpAny_mono (PySem.wpAny_toks_of hz w) (fun _ _ q => q) fun _ _ q => q.2
  refine wpAny_For (wpAny_mono (grow h0 (hi.run pins s σ H _ I h)) (fun v s1 h1 => wpAny_mono (grow h1.1 h1.2) (fun itv s2 h2 => ?_) fun _ _ q => q) fun _ _ q => q) hs
  obtain ⟨k2, it, fp, tn, J, H2, e, I2, T, st2, f2, W, ⟨m0, w0⟩, turn⟩ := h2
  subst e
  have own : ∀ {H' : Hp}, (∀ b ∈ fp, H' b = none) → ∀ b ∈ fp, FpOk X pins H' b := fun hn b hb => ⟨hn b hb, (f2 b hb).2⟩
  refine codeAny_forLoop_any (fun n s' => 1 ≤ s'.toks ∧ ∃ i σ' H', Inv X pins σ' H' s' ∧ tn i s'.heap ∧ (∀ b ∈ fp, H' b = none) ∧ W i n σ' H') ?_ m0 ⟨k2, 0, σ, H2, I2, st2, fun b hb => (f2 b hb).1, w0⟩
  rintro n s3 ⟨k3, i, σ3, H3, I3, st3, fr3, w3⟩
  rcases turn i n σ3 H3 w3 with ⟨stop, qn⟩ | ⟨go, N, hN, step⟩
  · refine wpAny_passesOwn hp (thn (T.done X rfl rfl rfl hc i pins s3 σ3 H3 X.xe I3 (own fr3) st3 stop) fun r s4 ⟨hr, I4⟩ => ?_)
    subst hr
    exact wpAny_execs_nil ⟨σ3, H3, I4, qn⟩
  · refine wpAny_passesOwn hp (thn (grow k3 (T.item X rfl rfl rfl hc i pins s3 σ3 H3 X.xe I3 (own fr3) st3 go)) fun r s4 ⟨k4, u, hr, h4⟩ => ?_)
    subst hr
    refine wpAny_passesOwn hp (thn (grow k4 h4) fun _ s5 ⟨k5, x, H5, I5, r5, y5, st5, fr5⟩ => ?_)
    have I5' := I5.pinned (own fr5) (T.obj _ _ st5)
    refine wpAny_passesOwn hp (thn (grow k5 (hg.run _ s5 σ3 H5 x u _ I5' r5 (step x H5 y5))) fun _ s6 ⟨k6, σ6, H6, I6, q6⟩ => ?_)
    refine wpAny_passesOwn hp (thn (grow k6 (hb _ s6 σ6 H6 _ k6 I6 q6)) fun f s7 ⟨k7, q7⟩ => ?_)
    have next : ∀ {σ7 : L2.St} {H7 : Hp}, Inv X (pins ++ pinsAt fp s5.heap) σ7 H7 s7 → N σ7 H7 → ∃ m, m < n ∧ 1 ≤ s7.toks ∧ ∃ i σ' H', Inv X pins σ' H' s7 ∧ tn i s7.heap ∧ (∀ b ∈ fp, H' b = none) ∧ W i m σ' H' := fun {σ7 H7} I7 n7 => by
      obtain ⟨m', hm, w7⟩ := hN σ7 H7 n7
      have at7 := fun b (hb : b ∈ fp) o e => I7.pin (b, o) (List.mem_append_right _ (List.mem_append_right _ (mem_pinsAt hb e)))
      refine ⟨m', hm, k7, i + 1, σ7, H7, I7.unpinned, T.keep _ _ _ st5 fun b hb o e => (at7 b hb o e).1, fun b hb => ?_, w7⟩
      obtain ⟨o, e, d⟩ := T.obj _ _ st5 b hb
      exact (at7 b hb o e).2.1
    cases f with
    | next => obtain ⟨σ7, H7, I7, n7⟩ := q7; exact next I7 n7
    | cont => obtain ⟨σ7, H7, I7, n7⟩ := q7; exact next I7 n7
    | brk => obtain ⟨σ7, H7, I7, q7⟩ := q7; exact ⟨σ7, H7, I7.unpinned, q7⟩
    | ret v => obtain ⟨x7, σ7, H7, I7, r7, q7⟩ := q7; exact ⟨x7, σ7, H7, I7.unpinned, r7, q7⟩
/-- x = text.lower(): behind it a token is out -/
theorem pss_lowT {i : Nat} {x : Str} {rs : List Stmt} {u : TS} {pos' p : Pos} (hN : X.N.Nodup) (hi : X.N[i]? = some x) (hx : Loc X.env.scope x) (ho : PE X o to) (h2 : PSsT X rs u)
    (hbase : attributeBase o "lower" X.env (eval o X.env) = eval o X.env := by rfl) (hline : (apos.endLine == p.line) = true := by rfl)
    (hs : swapsWith (.Call (.Attribute o "lower" apos) [] [] p) (some (.Name x pos')) pos.line X.env = pure false := by rfl) (hf : X.fn x = true ∨ X.env.scope.names.lookup x = some .local := by first | exact .inl rfl | exact .inr rfl | assumption) :
    PSs X (.Assign [.Name x pos'] (.Call (.Attribute o "lower" apos) [] [] p) pos :: rs) (tSeq (tAsg (tM0 (fun x xs H Q => ∃ a, x = .str a ∧ xs = [] ∧ a.length ≤ 5592405 ∧ Q (.str (Txt.lower a)) H) to) (gName i)) u) := by
  refine ⟨fun pins s σ H D I h => ?_⟩
  refine wpAny_execs_cons (wpAny_Assign_Name ?_ hs)
  refine PySem.Call_method0 hbase hline (thn (ho.run pins s σ H _ I h) fun v s1 ⟨y, H1, I1, r1, q⟩ => ?_)
  obtain ⟨⟨z, rfl⟩, z2, e, _, hz, q2⟩ := q
  cases e
  obtain ⟨t, rfl⟩ := _root_.id r1
  refine ⟨"str", _, PySem.F.plainAttrs_str, PySem.F.slot_str_lower, PySem.F.type_str_lower, typeIs_str _ _ _, (fun _ e => nomatch e), Calls.callWith_builtin rfl (PySem.evalArgs_none (PySem.SC.lower (PyProof.Rows.short24 (by have := PyProof.Rows.len_lower z; omega)) ?_))⟩
  refine wpAny_mono (PySem.wpAny_toks (store_ok (v := V.str (Txt.lower z)) (u := Value.str (Txt.lower z) s1.toks) (Q := fun _ s2 => Inv X pins (σ.set i (some (V.str (Txt.lower z)))) H1 s2) (I1.tok (s1.toks + 1)) hN hi hx ⟨s1.toks, rfl⟩ (fun _ I2 => I2) hf)) (fun _ s2 q => ?_) fun _ _ z => z.2
  have hk : s1.toks + 1 ≤ s2.toks := q.1
  exact h2 pins s2 _ H1 D (by omega) q.2 q2
end
theorem noxT {X : Cx} {st : List Stmt} {t : TS} (h : PSsT X.nox st t) : PSsT X st t := fun pins s σ H D h0 I hw =>
  wpAny_mono (h pins s σ H D h0 (I.wish _) hw) (fun _ _ q => q.unwish) fun _ _ z => False.elim z
/-- a def whose parameters give out a token -/
theorem okT {P : Program} {w : World} {K : PySem.W.Frag} {mg : Str → Option Value} {base : Heap} {x qual : Str} {st : Stmt} {f : Addr} {fd : FuncData} {N ps : List Str} {k : Nat} {sp : Sp} (F : Fun K x qual st f fd) (S : FnScope N ps (defScope st))
    (hnc : ∀ y ∈ (defScope st).names, y.2 ≠ .cell) (hps : 1 ≤ ps.length) (len : ∀ vs H Q E, sp vs H Q E → vs.length = ps.length)
    (hbody : ∀ (cdv : Value) (A : Around) (outer : List Env) (s : Shared) (H : Hp) (vs : List V) (Q : VK) (E : XK), Room k (A.deeper (envOfC qual (defScope st) s.heap.objs.size f cdv)) → sp vs H Q E →
      ∃ t, PSsT (cxOf CX0 P w K mg base N qual (defScope st) f cdv A outer s H E).nox (defBody st) t ∧ t { nx := fun _ H' => Q .non H', rt := Q } (start N vs) H) : FnOk P w K mg base CX0 (k + 1) f fd ps sp := by
  obtain ⟨oc, od, kV, doc, pm, an, cdv, ct, osl, rfl, lk, hcd⟩ := F.ex
  refine fn_ofT lk hcd S hnc hps len fun A outer s H vs Q E hr hsp => ?_
  obtain ⟨t, h, q⟩ := hbody cdv A outer s H vs Q E hr hsp
  exact ⟨t, noxT h, q⟩
section
variable {K : PySem.W.Frag} {Mc M : List Addr} {He H H1 H2 : Hp} {is js : Ims} {ms : Mus} {σ : L2.St} {te ta tb tl : TE} {tt : TT} {g : TG} {tlo thi : TO}
variable {α β : Type} [DecidableEq α] [Dx α] [DecidableEq β] [Dx β]
theorem hv_replC {a y z : Str} (ha : Hv K M ta σ H a) (hz : a.length + (a.length + 1) * z.length ≤ 100000) : Hv K M (tReplC ta y z) σ H (Txt.replace a y z) := fun H1 e m Q q =>
  ha H1 e m _ fun v H2 e2 d => ⟨a, d.str, by omega, q _ H2 e2 (Dt.ofStr _)⟩
/-- an integer in a list of integers -/
theorem inV_ints (a : Int) : ∀ xs : List Int, inV (.int a) (xs.map V.int) = decide (a ∈ xs)
  | [] => by simp [inV]
  | x :: xs => by
    have ih := inV_ints a xs
    unfold inV at ih ⊢
    rw [List.map_cons, List.any_cons, ih]
    show (x == a || _) = _
    by_cases h : x = a
    · subst h; simp
    · have h2 : ¬ a = x := fun z => h z.symm
      simp [h, h2]
theorem flat_ints : ∀ xs : List Int, (xs.map V.int).all flatV = true
  | [] => rfl
  | x :: xs => by rw [List.map_cons, List.all_cons, flat_ints xs]; rfl
theorem ints_of {H : Hp} : ∀ {vs : List V} {xs : List Int}, Dts K H vs xs → vs = xs.map V.int
  | [], [], _ => rfl
  | [], _ :: _, h => by cases h
  | _ :: _, [], h => by cases h
  | v :: vs, x :: xs, h => by
    cases h with
    | cons a b =>
      rw [List.map_cons, Dt.int (H := H) (K := K) (v := v) (i := x) a, ints_of (vs := vs) (xs := xs) b]
theorem hv_inLI {a : Int} {xs : List Int} (ha : Hv K M ta σ H a) (hb : HS K M tb σ H xs) : Hv K M (tOp (rIn K false) ta tb) σ H (decide (a ∈ xs)) := fun H1 e m Q q =>
  ha H1 e m _ fun v H2 e2 d => hb H2 (e.trans e2) (m.ex e2) _ fun p vs H3 e3 s ds => by
    have hv := ints_of ds
    refine ⟨p, vs, rfl, Or.inl s, by rw [d.int]; rfl, by rw [hv]; exact flat_ints xs, ?_⟩
    have hb : inV v vs = decide (a ∈ xs) := by rw [d.int, hv]; exact inV_ints a xs
    rw [hb]
    exact q _ _ (e2.trans e3) (Dt.ofBool _)
/-- [.. for i in range(a, b) if ..] -/
theorem hv_lcR2 {vs : List Nat} (s : Sg K Mc He H is ms) {a n : Int} (f : Int → Bool) (ef : Int → β) (h0 : Hv K (muA ms ++ Mc) ta σ H a) (h : Hv K (muA ms ++ Mc) tb σ H n) (hz : -100000 ≤ a ∧ a ≤ 100000 ∧ -100000 ≤ n ∧ n ≤ 40000 ∧ n - a ≤ 40000)
    (hb : ∀ D (x : Int) (ys : List β) H1, Sg K Mc He H1 is ((D, .lst (ys.map Dx.toX)) :: ms) → a ≤ x ∧ x < n →
      ∀ Q : L2.St → Hp → Prop, (∀ σ2, wipe σ2 vs = wipe σ vs → HT (muA ((D, Mv.lst (ys.map Dx.toX)) :: ms) ++ Mc) tt σ2 H1 (f x) → (f x = true → Hv K (muA ((D, Mv.lst (ys.map Dx.toX)) :: ms) ++ Mc) te σ2 H1 (ef x)) → Q σ2 H1) → g (.int x) (wipe σ vs) H1 Q) :
    Hv K (muA ms ++ Mc) (tLc (iRng2 (tCons ta (tCons tb tNil))) g tt te vs) σ H (((irng a (n - a).toNat).filter f).map ef) := fun H1 e m Q q =>
  h0 H1 e m _ fun v0 H0 e0 d0 => h H0 (e.trans e0) (m.ex e0) _ fun v H2 e2 d => by
    refine ⟨a, n, by rw [d0.int, d.int], by omega, fun D hD => ?_⟩
    have sA : Sg K Mc He H2 is ms := ((s.ex e).ex e0).ex e2
    have sB : Sg K Mc He (upd H2 D (.lst [])) is ((D, .lst (([] : List β).map Dx.toX)) :: ms) := sA.new hD ⟨[], rfl, .nil⟩
    refine lc_range (lo := a) (n := (n - a).toNat) (fun i H' => Ex H2 H' ∧ Sg K Mc He H' is ((D, .lst (((((irng a (n - a).toNat).take i).filter f).map ef).map Dx.toX)) :: ms)) ⟨Ex.new hD, sB⟩
      (fun i H' hi p => ?_) (fun H' p => ?_)
    · have hx : (irng a (n - a).toNat)[i]? = some (a + (i : Int)) := irng_get hi
      refine hb D (a + (i : Int)) _ H' p.2 ⟨by omega, by omega⟩ _ fun σ2 hw ht he => ⟨hw, ?_⟩
      have hlen : ((((irng a (n - a).toNat).take i).filter f).map ef).length < 50000 := by
        rw [List.length_map]
        have := List.length_filter_le f ((irng a (n - a).toNat).take i)
        rw [List.length_take, irng_len] at this
        omega
      exact lc_turn (ms := ms) (zs := (((irng a (n - a).toNat).take (i + 1)).filter f).map ef) p.2 hlen (fun H3 => Ex H2 H3 ∧ Sg K Mc He H3 is ((D, .lst (((((irng a (n - a).toNat).take (i + 1)).filter f).map ef).map Dx.toX)) :: ms)) ht he (filter_snoc hx) (fun H3 h4 s3 => ⟨by
        obtain ⟨H4, e4, e5⟩ := h4
        rcases e5 with e5 | ⟨o, e5⟩
        · rw [e5]; exact p.1.trans e4
        · rw [e5]; exact Ex.mut (p.1.trans e4) hD, s3⟩)
    · have z := p.2
      have et : (irng a (n - a).toNat).take (n - a).toNat = irng a (n - a).toNat := List.take_of_length_le (by rw [irng_len]; exact Nat.le_refl _)
      rw [et] at z
      exact q _ H' ((e0.trans e2).trans p.1) (z.frz).im.1
theorem hv_lcR20 {vs : List Nat} (s : Sg K Mc He H is ms) {a n : Int} (ef : Int → β) (h0 : Hv K (muA ms ++ Mc) ta σ H a) (h : Hv K (muA ms ++ Mc) tb σ H n) (hz : -100000 ≤ a ∧ a ≤ 100000 ∧ -100000 ≤ n ∧ n ≤ 40000 ∧ n - a ≤ 40000)
    (hb : ∀ D (x : Int) (ys : List β) H1, Sg K Mc He H1 is ((D, .lst (ys.map Dx.toX)) :: ms) → a ≤ x ∧ x < n →
      ∀ Q : L2.St → Hp → Prop, (∀ σ2, wipe σ2 vs = wipe σ vs → Hv K (muA ((D, Mv.lst (ys.map Dx.toX)) :: ms) ++ Mc) te σ2 H1 (ef x) → Q σ2 H1) → g (.int x) (wipe σ vs) H1 Q) :
    Hv K (muA ms ++ Mc) (tLc (iRng2 (tCons ta (tCons tb tNil))) g tYes te vs) σ H ((irng a (n - a).toNat).map ef) := by
  have key := hv_lcR2 (g := g) (tt := tYes) (te := te) (vs := vs) s (fun _ => true) ef h0 h hz (fun D x ys H1 s1 hx Q k => hb D x ys H1 s1 hx Q fun σ2 hw he => k σ2 hw (fun H2 _ _ _ q => q H2 (Ex.refl H2)) fun _ => he)
  exact key.is (by rw [List.filter_eq_self.mpr (fun _ _ => rfl)])
/-- [.. for i, x in enumerate(xs) if ..] -/
theorem hv_lcE {vs : List Nat} (s : Sg K Mc He H is ms) {xs : List α} (f : Int × α → Bool) (ef : Int × α → β) (h : Hv K (muA ms ++ Mc) tl σ H xs) (hz : xs.length ≤ 40000)
    (hb : ∀ D src (x : Int × α) w (ys : List β) H1, Sg K Mc He H1 ((w, Dx.toX x) :: (src, Dx.toX xs) :: is) ((D, .lst (ys.map Dx.toX)) :: ms) → x ∈ enumL xs →
      ∀ Q : L2.St → Hp → Prop, (∀ σ2, wipe σ2 vs = wipe σ vs → HT (muA ((D, Mv.lst (ys.map Dx.toX)) :: ms) ++ Mc) tt σ2 H1 (f x) → (f x = true → Hv K (muA ((D, Mv.lst (ys.map Dx.toX)) :: ms) ++ Mc) te σ2 H1 (ef x)) → Q σ2 H1) → g w (wipe σ vs) H1 Q) :
    Hv K (muA ms ++ Mc) (tLc (iEnum K (tCons tl tNil)) g tt te vs) σ H (((enumL xs).filter f).map ef) := fun H1 e m Q q =>
  h H1 e m _ fun v H2 e2 d => by
    obtain ⟨a, us, rfl, s1, ds⟩ := d.list
    have s1' : SqL K H2 a us := ex_l msk_le s1
    refine ⟨a, us, rfl, s1', fun D hD => ?_⟩
    have sA : Sg K Mc He H2 ((.ref a, Dx.toX xs) :: is) ms := ((s.ex e).ex e2).put d
    have sB : Sg K Mc He (upd H2 D (.lst [])) ((.ref a, Dx.toX xs) :: is) ((D, .lst (([] : List β).map Dx.toX)) :: ms) := sA.new hD ⟨[], rfl, .nil⟩
    have hlu : us.length = xs.length := ds.len
    refine lc_it (walk_enum (K := K) (a := a) (xs := us)) (fun i H' => Ex H2 H' ∧ Sg K Mc He H' ((.ref a, Dx.toX xs) :: is) ((D, .lst (((((enumL xs).take i).filter f).map ef).map Dx.toX)) :: ms)) ⟨Ex.new hD, sB⟩
      (fun i H' _ p => ex_l p.1 s1') (fun i x H' H'' hi p y => ?_) (fun H' p => ?_)
    · obtain ⟨T, x0, x1, rfl, nT, rfl, f1, f2⟩ := y
      have hix : i < xs.length := by rw [← hlu]; exact hi
      have gx : xs[i]? = some xs[i] := by simp [hix]
      have gE := enumL_get gx
      have e0 : x0 = .int (i : Int) := (Option.some.inj f1).symm
      subst e0
      have eT : Ex H' (upd H' T (.tup [.int (i : Int), x1])) := Ex.new nT
      have sT := p.2.ex eT
      have dm : Dt K (msk (D :: (muA ms ++ Mc)) (upd H' T (.tup [.int (i : Int), x1]))) x1 xs[i] := by
        have d2 : Dts K (msk (D :: (muA ms ++ Mc)) (upd H' T (.tup [.int (i : Int), x1]))) us xs := by
          have q1 : Dts K (msk (muA ms ++ Mc) H2) us xs := ds
          have q2 : Ex (msk (muA ms ++ Mc) H2) (msk (D :: (muA ms ++ Mc)) (upd H' T (.tup [.int (i : Int), x1]))) := fun b o hb' => by
            by_cases z : b ∈ muA ms ++ Mc
            · rw [msk_in z] at hb'; cases hb'
            · rw [msk_out z] at hb'
              have nb : b ≠ D := ne_of_none hb' hD
              rw [msk_out (by simp only [List.mem_cons, not_or]; exact ⟨nb, z⟩)]
              exact eT b o (p.1 b o hb')
          exact q1.mono q2
        obtain ⟨w, w1, w2⟩ := d2.at gx
        have : x1 = w := Option.some.inj (f2.symm.trans w1)
        subst this; exact w2
      have nTD : T ∉ D :: (muA ms ++ Mc) := fun z => (p.2.mok T z) nT
      have dw : Dt K (msk (D :: (muA ms ++ Mc)) (upd H' T (.tup [.int (i : Int), x1]))) (.ref T) ((i : Int), xs[i]) := Dt.ofPair (SqT.of (by rw [msk_out nTD]; exact upd_same)) (Dt.ofInt _) dm
      refine hb D (.ref a) ((i : Int), xs[i]) (.ref T) _ _ (sT.put dw) (List.mem_of_getElem? gE) _ fun σ2 hw ht he => ⟨hw, ?_⟩
      have hlen : ((((enumL xs).take i).filter f).map ef).length < 50000 := by
        rw [List.length_map]
        have := List.length_filter_le f ((enumL xs).take i)
        rw [List.length_take, enumL_len] at this
        omega
      exact lc_turn (ms := ms) (zs := (((enumL xs).take (i + 1)).filter f).map ef) sT hlen (fun H3 => Ex H2 H3 ∧ Sg K Mc He H3 ((.ref a, Dx.toX xs) :: is) ((D, .lst (((((enumL xs).take (i + 1)).filter f).map ef).map Dx.toX)) :: ms)) ht he (filter_snoc gE) (fun H3 h4 s3 => ⟨by
        obtain ⟨H4, e4, e5⟩ := h4
        rcases e5 with e5 | ⟨o, e5⟩
        · rw [e5]; exact (p.1.trans eT).trans e4
        · rw [e5]; exact Ex.mut ((p.1.trans eT).trans e4) hD, s3⟩)
    · have z := p.2
      have et : (enumL xs).take us.length = enumL xs := List.take_of_length_le (by rw [enumL_len, hlu]; exact Nat.le_refl _)
      rw [et] at z
      exact q _ H' (e2.trans p.1) (z.frz).im.1
end
end Ly

namespace Ly
open PySem PySem.Spec PyProof.Rows L2 Evl
theorem gl_mem' {β : Type} {occ : Nat → Bool} {blk : Nat → List β} {x : β} : ∀ (n lo k : Nat), lo ≤ k → k < lo + n → occ k = true → x ∈ blk k → x ∈ gl occ blk lo n
  | 0, lo, k, h1, h2, _, _ => by omega
  | n + 1, lo, k, h1, h2, ho, hx => by
    rw [gl, List.mem_append]
    by_cases e : lo = k
    · left; rw [e, ho, if_pos rfl]; exact hx
    · right; exact gl_mem' n (lo + 1) k (by omega) (by omega) ho hx
/-- two lists that grow, with the same items, are one -/
theorem sorted_ext : ∀ {l1 l2 : List Int}, l1.Pairwise (· < ·) → l2.Pairwise (· < ·) → (∀ x, x ∈ l1 ↔ x ∈ l2) → l1 = l2
  | [], [], _, _, _ => rfl
  | [], b :: r, _, _, h => by have := (h b).mpr List.mem_cons_self; cases this
  | a :: l, [], _, _, h => by have := (h a).mp List.mem_cons_self; cases this
  | a :: l, b :: r, h1, h2, h => by
    have p1 := List.pairwise_cons.mp h1
    have p2 := List.pairwise_cons.mp h2
    have e : a = b := by
      have ha := (h a).mp List.mem_cons_self
      have hb := (h b).mpr List.mem_cons_self
      rcases List.mem_cons.mp ha with ha | ha
      · exact ha
      · rcases List.mem_cons.mp hb with hb | hb
        · exact hb.symm
        · have := p1.1 b hb
          have := p2.1 a ha
          omega
    subst e
    congr 1
    refine sorted_ext p1.2 p2.2 fun x => ⟨fun hx => ?_, fun hx => ?_⟩
    · rcases List.mem_cons.mp ((h x).mp (List.mem_cons_of_mem _ hx)) with q | q
      · have := p1.1 x hx; omega
      · exact q
    · rcases List.mem_cons.mp ((h x).mpr (List.mem_cons_of_mem _ hx)) with q | q
      · have := p2.1 x hx; omega
      · exact q
theorem irng_sorted (lo : Int) (n : Nat) : (irng lo n).Pairwise (· < ·) := by
  unfold irng
  rw [List.pairwise_map]
  exact List.pairwise_lt_range.imp fun h => by omega
theorem irng_mem {lo x : Int} {n : Nat} : x ∈ irng lo n ↔ lo ≤ x ∧ x < lo + n := by
  unfold irng
  rw [List.mem_map]
  constructor
  · rintro ⟨i, hi, rfl⟩
    have := List.mem_range.mp hi
    omega
  · intro h
    exact ⟨(x - lo).toNat, List.mem_range.mpr (by omega), by omega⟩
/-- the greatest -/
theorem max_spec : ∀ (l : List Int) (b : Int), (l.foldl max b = b ∨ l.foldl max b ∈ l) ∧ b ≤ l.foldl max b ∧ ∀ x ∈ l, x ≤ l.foldl max b
  | [], b => ⟨Or.inl rfl, Int.le_refl b, fun x hx => by cases hx⟩
  | a :: l, b => by
    obtain ⟨h1, h2, h3⟩ := max_spec l (max b a)
    rw [List.foldl_cons]
    refine ⟨?_, by omega, fun x hx => ?_⟩
    · rcases h1 with h1 | h1
      · rw [h1]
        by_cases q : a ≤ b
        · left; omega
        · right; rw [show max b a = a by omega]; exact List.mem_cons_self
      · exact Or.inr (List.mem_cons_of_mem _ h1)
    · rcases List.mem_cons.mp hx with q | q
      · omega
      · exact h3 x q
theorem max_ext {l1 l2 : List Int} (b : Int) (h : ∀ x, x ∈ l1 ↔ x ∈ l2) : l1.foldl max b = l2.foldl max b := by
  obtain ⟨h1, h2, h3⟩ := max_spec l1 b
  obtain ⟨k1, k2, k3⟩ := max_spec l2 b
  have a1 : l1.foldl max b ≤ l2.foldl max b := by
    rcases h1 with q | q
    · rw [q]; exact k2
    · exact k3 _ ((h _).mp q)
  have a2 : l2.foldl max b ≤ l1.foldl max b := by
    rcases k1 with q | q
    · rw [q]; exact h2
    · exact h3 _ ((h _).mpr q)
  omega
theorem max_fold {α : Type} (P : α → Bool) (v : α → Int) : ∀ (l : List α) (b : Int), l.foldl (fun b x => if P x = true then max b (v x) else b) b = ((l.filter P).map v).foldl max b
  | [], b => rfl
  | a :: l, b => by
    rw [List.foldl_cons, max_fold P v l]
    by_cases q : P a = true
    · rw [if_pos q, List.filter_cons_of_pos q, List.map_cons, List.foldl_cons]
    · rw [if_neg q, List.filter_cons_of_neg q]
theorem chars_app (a b : Str) : chars (a ++ b) = chars a ++ chars b := by
  rw [chars_cps, chars_cps, chars_cps, cps_app, List.map_append]
theorem enumL_iff {xs : List Int} {p : Int × Int} : p ∈ enumL xs ↔ 0 ≤ p.1 ∧ p.1 < (xs.length : Int) ∧ p.2 = xs.getD p.1.toNat 0 := by
  constructor
  · intro h
    obtain ⟨i, hi, rfl⟩ := List.getElem_of_mem h
    have hx : i < xs.length := by rw [enumL_len] at hi; exact hi
    have gx : xs[i]? = some xs[i] := by simp [hx]
    obtain ⟨_, ge⟩ := List.getElem?_eq_some_iff.mp (enumL_get gx)
    rw [ge]
    refine ⟨by show (0 : Int) ≤ (i : Int); omega, by show (i : Int) < _; omega, ?_⟩
    show xs[i] = xs.getD (Int.toNat (i : Int)) 0
    rw [Int.toNat_natCast, List.getD_eq_getElem?_getD, gx]
    rfl
  · rintro ⟨h1, h2, h3⟩
    obtain ⟨a, b⟩ := p
    dsimp only at h1 h2 h3
    have hx : a.toNat < xs.length := by omega
    have gx : xs[a.toNat]? = some xs[a.toNat] := by simp [hx]
    have k := List.mem_of_getElem? (enumL_get gx)
    rw [List.getD_eq_getElem?_getD, gx] at h3
    have e : (((a.toNat : Nat) : Int), xs[a.toNat]) = (a, b) := Prod.ext (by show ((a.toNat : Nat) : Int) = a; omega) (by show xs[a.toNat] = b; rw [h3]; rfl)
    rw [← e]
    exact k
theorem enumL_sorted (xs : List Int) : (enumL xs).Pairwise fun a b => a.1 < b.1 := by
  rw [List.pairwise_iff_getElem]
  intro i j hi hj hij
  rw [enumL_len] at hi hj
  have gi : xs[i]? = some xs[i] := by simp [hi]
  have gj : xs[j]? = some xs[j] := by simp [hj]
  obtain ⟨_, e1⟩ := List.getElem?_eq_some_iff.mp (enumL_get gi)
  obtain ⟨_, e2⟩ := List.getElem?_eq_some_iff.mp (enumL_get gj)
  rw [e1, e2]
  show (i : Int) < (j : Int)
  omega
theorem lo1_eq (c : Nat) : PyProof.Rows.lo1 c = if 65 ≤ c ∧ c ≤ 90 then c + 32 else c := by
  unfold PyProof.Rows.lo1
  first | rfl | (split <;> split <;> simp_all <;> omega) | (simp; done)
theorem loopL_ret_P {ρ S α : Type} {f : S → α → Lp ρ S} {P : ρ → Prop} : ∀ (l : List α) (s : S), (∀ s x r, x ∈ l → f s x = .ret r → P r) → ∀ r, loopL f l s = .inl r → P r
  | [], s, _, r, h => by cases h
  | x :: l, s, hp, r, h => by
    rw [loopL] at h
    cases hx : f s x with
    | ret r' => rw [hx] at h; cases h; exact hp s x r List.mem_cons_self hx
    | brk s' => rw [hx] at h; cases h
    | nxt s' => rw [hx] at h; exact loopL_ret_P l s' (fun s y r hy => hp s y r (List.mem_cons_of_mem _ hy)) r h
end Ly

namespace Ly
open PySem PySem.Spec PyProof.Rows L2 Evl
open PySem.W (Datum DatumOrd Tup T3 T4 minOf)
/-! ### dicts with plain keys -/
/-- the pairs in the order in which the keys came -/
structure Dc (κ β : Type) where
  kvs : List (κ × β)
instance {κ β : Type} [DecidableEq κ] [DecidableEq β] : DecidableEq (Dc κ β) := fun a b =>
  if h : a.kvs = b.kvs then isTrue (by cases a; cases b; cases h; rfl) else isFalse fun z => h (by rw [z])
class Ky (κ : Type) [DecidableEq κ] [Dx κ] where
  toK : κ → Key
  inj : ∀ {a b : κ}, toK a = toK b → a = b
  link : ∀ {K : PySem.W.Frag} {H : Hp} {v : V} {k : κ}, Dt K H v k → v = kV (toK k)
instance : Ky Int := ⟨.inl, fun e => by cases e; rfl, fun d => d.int⟩
instance : Ky Str := ⟨.inr, fun e => by cases e; rfl, fun d => d.str⟩
section
variable {κ β : Type} [DecidableEq κ] [Dx κ] [Ky κ] [DecidableEq β] [Dx β]
def Dc.get (d : Dc κ β) (k : κ) : Option β := (d.kvs.find? fun p => decide (p.1 = k)).map (·.2)
def Dc.put (d : Dc κ β) (k : κ) (x : β) : Dc κ β :=
  ⟨if (d.kvs.any fun p => decide (p.1 = k)) = true then d.kvs.map (fun p => if p.1 = k then (p.1, x) else p) else d.kvs ++ [(k, x)]⟩
def Dc.has (d : Dc κ β) (k : κ) : Bool := d.kvs.any fun p => decide (p.1 = k)
instance : Dx (Dc κ β) := ⟨fun d => .dict (d.kvs.map fun p => Ky.toK p.1) (d.kvs.map fun p => Dx.toX p.2)⟩
/-- what an own dict holds, as the state tells it -/
def Dc.m (d : Dc κ β) : Mv := .dic (d.kvs.map fun p => (Ky.toK p.1, Dx.toX p.2))
/-- pairs that hold pairs -/
inductive Kd (K : PySem.W.Frag) (H : Hp) : List (Key × V) → List (κ × β) → Prop
  | nil : Kd K H [] []
  | cons {k : κ} {v : V} {x : β} {kvs : List (Key × V)} {r : List (κ × β)} : Dt K H v x → Kd K H kvs r → Kd K H ((Ky.toK k, v) :: kvs) ((k, x) :: r)
variable {K : PySem.W.Frag} {H H' : Hp}
theorem kd_of : ∀ {kvs : List (Key × V)} {r : List (κ × β)}, kvs.map (·.1) = r.map (fun p => Ky.toK p.1) → XpAll K H (kvs.map (·.2)) (r.map fun p => Dx.toX p.2) → Kd K H kvs r
  | [], [], _, _ => .nil
  | [], _ :: _, h, _ => by cases h
  | _ :: _, [], h, _ => by cases h
  | (k, v) :: kvs, (j, x) :: r, h, a => by
    have h' := List.cons.inj h
    cases a with
    | cons a1 a2 =>
      have e : k = Ky.toK j := h'.1
      subst e
      exact .cons a1 (kd_of h'.2 a2)
theorem Kd.keys {kvs : List (Key × V)} {r : List (κ × β)} (h : Kd K H kvs r) : kvs.map (·.1) = r.map (fun p => Ky.toK p.1) := by
  induction h with
  | nil => rfl
  | cons a b ih => rw [List.map_cons, List.map_cons, ih]
theorem Kd.vals {kvs : List (Key × V)} {r : List (κ × β)} (h : Kd K H kvs r) : XpAll K H (kvs.map (·.2)) (r.map fun p => Dx.toX p.2) := by
  induction h with
  | nil => exact .nil
  | cons a b ih => exact .cons a ih
theorem Kd.mono {kvs : List (Key × V)} {r : List (κ × β)} (e : Ex H H') (h : Kd K H kvs r) : Kd K H' kvs r := by
  induction h with
  | nil => exact .nil
  | cons a b ih => exact .cons (a.mono e) ih
theorem Kd.any {kvs : List (Key × V)} {r : List (κ × β)} (h : Kd K H kvs r) (k : κ) : (kvs.any fun p => decide (p.1 = Ky.toK k)) = r.any fun p => decide (p.1 = k) := by
  induction h with
  | nil => rfl
  | @cons j v x kvs r a b ih =>
    rw [List.any_cons, List.any_cons, ih]
    congr 1
    by_cases q : j = k
    · subst q; simp
    · rw [decide_eq_false q, decide_eq_false fun z => q (Ky.inj z)]
theorem Kd.get {kvs : List (Key × V)} {r : List (κ × β)} (h : Kd K H kvs r) (k : κ) : (∃ v x, valV kvs (Ky.toK k) = some v ∧ Dc.get ⟨r⟩ k = some x ∧ Dt K H v x) ∨ (valV kvs (Ky.toK k) = none ∧ Dc.get (⟨r⟩ : Dc κ β) k = none) := by
  induction h with
  | nil => exact Or.inr ⟨rfl, rfl⟩
  | @cons j v x kvs r a b ih =>
    by_cases q : j = k
    · subst q
      exact Or.inl ⟨v, x, valV_pos rfl, by simp [Dc.get], a⟩
    · rw [valV_neg (fun z => q (Ky.inj z))]
      have e : Dc.get (⟨(j, x) :: r⟩ : Dc κ β) k = Dc.get ⟨r⟩ k := by simp [Dc.get, q]
      rw [e]
      exact ih
theorem Kd.app {kvs : List (Key × V)} {r : List (κ × β)} {v : V} {x : β} {k : κ} (h : Kd K H kvs r) (d : Dt K H v x) : Kd K H (kvs ++ [(Ky.toK k, v)]) (r ++ [(k, x)]) := by
  induction h with
  | nil => exact .cons d .nil
  | cons a b ih => exact .cons a ih
theorem Kd.rep {kvs : List (Key × V)} {r : List (κ × β)} {v : V} {x : β} {k : κ} (h : Kd K H kvs r) (d : Dt K H v x) : Kd K H (kvs.map fun p => if p.1 = Ky.toK k then (p.1, v) else p) (r.map fun p => if p.1 = k then (p.1, x) else p) := by
  induction h with
  | nil => exact .nil
  | @cons j w y kvs r a b ih =>
    rw [List.map_cons, List.map_cons]
    by_cases q : j = k
    · subst q
      rw [if_pos rfl, if_pos rfl]
      exact .cons d ih
    · rw [if_neg (fun z => q (Ky.inj z)), if_neg q]
      exact .cons a ih
theorem Kd.put {kvs : List (Key × V)} {d : Dc κ β} {v : V} {x : β} {k : κ} (h : Kd K H kvs d.kvs) (dv : Dt K H v x) : Kd K H (putK kvs (Ky.toK k) v) (d.put k x).kvs := by
  unfold putK Dc.put
  rw [h.any k]
  by_cases q : (d.kvs.any fun p => decide (p.1 = k)) = true
  · rw [if_pos q]; dsimp only; rw [if_pos q]; exact h.rep dv
  · rw [if_neg q]; dsimp only; rw [if_neg q]; exact h.app dv
theorem Kd.len {kvs : List (Key × V)} {r : List (κ × β)} (h : Kd K H kvs r) : kvs.length = r.length := by
  have := congrArg List.length h.keys
  simpa using this
end
section
variable {κ β : Type} [DecidableEq κ] [Dx κ] [Ky κ] [DecidableEq β] [Dx β]
variable {K : PySem.W.Frag} {Mc M : List Addr} {He H H1 H2 : Hp} {is js : Ims} {ms : Mus} {σ : L2.St} {te ta tb td tk tz : TE} {D : Ends} {tq : TS}
/-- what the state tells of an own dict -/
theorem Sg.dic (s : Sg K Mc He H is ms) {j : Nat} {l : Addr} {d : Dc κ β} (e : ms[j]? = some (l, d.m)) : ∃ kvs, H l = some (.dK kvs) ∧ Kd K (msk (muA ms ++ Mc) H) kvs d.kvs := by
  obtain ⟨o, h1, h2⟩ := s.mu.get e
  obtain ⟨kvs, rfl, h3, h4⟩ := h2
  refine ⟨kvs, h1, kd_of ?_ ?_⟩
  · rw [h3, List.map_map]; rfl
  · rw [List.map_map] at h4; exact h4
theorem dic_ok {kvs : List (Key × V)} {d : Dc κ β} (h : Kd K H kvs d.kvs) : MvOk K H (.dK kvs) d.m := by
  refine ⟨kvs, rfl, ?_, ?_⟩
  · rw [h.keys, List.map_map]; rfl
  · rw [List.map_map]; exact h.vals
/-- x = {} -/
theorem z_dnil (κ β : Type) [DecidableEq κ] [Dx κ] [Ky κ] [DecidableEq β] [Dx β] {i : Nat} (s : Sg K Mc He H is ms) (k : ∀ y, y = (⟨[]⟩ : Dc κ β) → ∀ p H1, Sg K Mc He H1 is ((p, y.m) :: ms) → tq D (σ.set i (some (.ref p))) H1) :
    tSeq (tAsg tDNewK (gName i)) tq D σ H := fun p hp => k ⟨[]⟩ rfl p _ (s.new hp (dic_ok .nil))
/-- key in an own dict, key not in it -/
theorem hv_dinM {j : Nat} {l : Addr} {d : Dc κ β} {x : κ} (s : Sg K Mc He H is ms) (e : ms[j]? = some (l, d.m)) (hk : Hv K (muA ms ++ Mc) ta σ H x) (ho : Ev td σ H (.ref l)) : Hv K (muA ms ++ Mc) (tDIn ta td) σ H (d.has x) := fun H1 e1 m Q q =>
  hk H1 e1 m _ fun v H2 e2 dv => ho H2 (e1.trans e2) _ fun H3 e3 => by
    obtain ⟨kvs, h1, h2⟩ := (s.ex ((e1.trans e2).trans e3)).dic e
    refine ⟨l, valV kvs (Ky.toK x), rfl, by rw [Ky.link dv]; exact DGet.k h1, ?_⟩
    have hb : (valV kvs (Ky.toK x)).isSome = d.has x := by rw [← valV_any, h2.any]; rfl
    rw [hb]
    exact q _ H3 (e2.trans e3) (Dt.ofBool _)
theorem hv_dninM {j : Nat} {l : Addr} {d : Dc κ β} {x : κ} (s : Sg K Mc He H is ms) (e : ms[j]? = some (l, d.m)) (hk : Hv K (muA ms ++ Mc) ta σ H x) (ho : Ev td σ H (.ref l)) : Hv K (muA ms ++ Mc) (tDNotIn ta td) σ H (!d.has x) := fun H1 e1 m Q q =>
  hk H1 e1 m _ fun v H2 e2 dv => ho H2 (e1.trans e2) _ fun H3 e3 => by
    obtain ⟨kvs, h1, h2⟩ := (s.ex ((e1.trans e2).trans e3)).dic e
    refine ⟨l, valV kvs (Ky.toK x), rfl, by rw [Ky.link dv]; exact DGet.k h1, ?_⟩
    have hb : (valV kvs (Ky.toK x)).isSome = d.has x := by rw [← valV_any, h2.any]; rfl
    rw [hb]
    exact q _ H3 (e2.trans e3) (Dt.ofBool _)
/-- an own dict's value at a key -/
theorem hv_dgetM {j : Nat} {l : Addr} {d : Dc κ β} {x : κ} {y : β} (s : Sg K Mc He H is ms) (e : ms[j]? = some (l, d.m)) (ho : Ev td σ H (.ref l)) (hk : Hv K (muA ms ++ Mc) ta σ H x) (hg : d.get x = some y) : Hv K (muA ms ++ Mc) (tDGet td ta) σ H y := fun H1 e1 m Q q =>
  ho H1 e1 _ fun H2 e2 => hk H2 (e1.trans e2) (m.ex e2) _ fun v H3 e3 dv => by
    obtain ⟨kvs, h1, h2⟩ := (s.ex ((e1.trans e2).trans e3)).dic e
    rcases h2.get x with ⟨w, z, g1, g2, g3⟩ | ⟨_, g2⟩
    · rw [hg] at g2
      cases g2
      exact ⟨l, w, rfl, by rw [Ky.link dv, ← g1]; exact DGet.k h1, q w H3 (e2.trans e3) g3⟩
    · rw [hg] at g2; cases g2
/-- a dict that is known -/
theorem Dt.dic {v : V} {d : Dc κ β} (h : Dt K H v d) : ∃ a kvs, v = .ref a ∧ Rd H a (.dK kvs) ∧ Kd K H kvs d.kvs := by
  have h' : Xp K H v (.dict (d.kvs.map fun p => Ky.toK p.1) (d.kvs.map fun p => Dx.toX p.2)) := h
  cases h' with
  | dic r k e a => subst e; exact ⟨_, _, rfl, r, kd_of k a⟩
theorem Dt.ofDic {a : Addr} {kvs : List (Key × V)} {d : Dc κ β} (r : Rd H a (.dK kvs)) (h : Kd K H kvs d.kvs) : Dt K H (.ref a) d := Xp.dic r h.keys rfl h.vals
theorem rd_msk {a : Addr} {u : HO} (h : Rd (msk M H) a u) : Rd H a u := ex_rd msk_le h
theorem hv_dget {d : Dc κ β} {x : κ} {y : β} (hd : Hv K M td σ H d) (hk : Hv K M ta σ H x) (hg : d.get x = some y) : Hv K M (tDGet td ta) σ H y := fun H1 e1 m Q q =>
  hd H1 e1 m _ fun v H2 e2 dv => hk H2 (e1.trans e2) (m.ex e2) _ fun u H3 e3 du => by
    obtain ⟨a, kvs, rfl, r, h2⟩ := (Dt.mono (msk_ex e3) dv).dic
    rcases h2.get x with ⟨w, z, g1, g2, g3⟩ | ⟨_, g2⟩
    · rw [hg] at g2
      cases g2
      exact ⟨a, w, rfl, .inl ⟨kvs, Ky.toK x, rd_msk r, Ky.link du, g1.symm⟩, q w H3 (e2.trans e3) g3⟩
    · rw [hg] at g2; cases g2
theorem hv_din {d : Dc κ β} {x : κ} (hk : Hv K M ta σ H x) (hd : Hv K M td σ H d) : Hv K M (tDIn ta td) σ H (d.has x) := fun H1 e1 m Q q =>
  hk H1 e1 m _ fun u H2 e2 du => hd H2 (e1.trans e2) (m.ex e2) _ fun v H3 e3 dv => by
    obtain ⟨a, kvs, rfl, r, h2⟩ := dv.dic
    refine ⟨a, valV kvs (Ky.toK x), rfl, .inl ⟨kvs, Ky.toK x, rd_msk r, Ky.link du, rfl⟩, ?_⟩
    have hb : (valV kvs (Ky.toK x)).isSome = d.has x := by rw [← valV_any, h2.any]; rfl
    rw [hb]
    exact q _ H3 (e2.trans e3) (Dt.ofBool _)
theorem hv_dnin {d : Dc κ β} {x : κ} (hk : Hv K M ta σ H x) (hd : Hv K M td σ H d) : Hv K M (tDNotIn ta td) σ H (!d.has x) := fun H1 e1 m Q q =>
  hk H1 e1 m _ fun u H2 e2 du => hd H2 (e1.trans e2) (m.ex e2) _ fun v H3 e3 dv => by
    obtain ⟨a, kvs, rfl, r, h2⟩ := dv.dic
    refine ⟨a, valV kvs (Ky.toK x), rfl, .inl ⟨kvs, Ky.toK x, rd_msk r, Ky.link du, rfl⟩, ?_⟩
    have hb : (valV kvs (Ky.toK x)).isSome = d.has x := by rw [← valV_any, h2.any]; rfl
    rw [hb]
    exact q _ H3 (e2.trans e3) (Dt.ofBool _)
/-- d[k] = e -/
theorem z_dputG {j : Nat} {l : Addr} {d : Dc κ β} {x : κ} {y : β} (s : Sg K Mc He H is ms) (e : ms[j]? = some (l, d.m)) (hv : Hv K (muA ms ++ Mc) te σ H y) (ho : Ev td σ H (.ref l)) (hk : Hv K (muA ms ++ Mc) ta σ H x) (hz : d.kvs.length ≤ 100000)
    (k : ∀ d', d' = d.put x y → ∀ H1, Sg K Mc He H1 is (ms.set j (l, d'.m)) → tq D σ H1) : tSeq (sDPut td ta te) tq D σ H :=
  hv H (Ex.refl H) s.mok _ fun v H1 e1 dv => ho H1 e1 _ fun H2 e2 => hk H2 (e1.trans e2) (s.mok.ex (e1.trans e2)) _ fun u H3 e3 du => by
    have s3 := ((s.ex e1).ex e2).ex e3
    obtain ⟨kvs, h1, h2⟩ := s3.dic e
    have hl : kvs.length < sizeLine := by
      have hs : sizeLine = 16777216 := sizeLine_eq
      rw [h2.len]; omega
    refine ⟨l, _, rfl, by rw [Ky.link du]; exact DPut.k h1 hl, k _ rfl _ (s3.set e (dic_ok ?_))⟩
    exact h2.put (Dt.mono (msk_ex (e2.trans e3)) dv)
/-- an own dict that changes no more -/
theorem Sg.frzD {l : Addr} {d : Dc κ β} (s : Sg K Mc He H is ((l, d.m) :: ms)) : Sg K Mc He H ((.ref l, Dx.toX d) :: is) ms := by
  have sub : Ex (msk (muA ((l, d.m) :: ms) ++ Mc) H) (msk (muA ms ++ Mc) H) := msk_sub fun a ha => List.mem_cons_of_mem _ ha
  have nd := List.nodup_cons.mp s.nd
  obtain ⟨kvs, h1, h2⟩ := s.dic (j := 0) (l := l) (d := d) rfl
  have nl : l ∉ muA ms ++ Mc := fun z => by
    rcases List.mem_append.mp z with z | z
    · exact nd.1 z
    · exact s.notc (List.mem_cons_self) z
  refine ⟨?_, s.okc, nd.2, ⟨Dt.ofDic (.inl (by rw [msk_out nl]; exact h1)) (h2.mono sub), s.im.mono sub⟩, s.mu.2.mono sub (Ex.refl H)⟩
  exact s.ext.trans (msk_sub fun a ha => List.mem_cons_of_mem _ ha)
end
end Ly

namespace Ly
open PySem PySem.Spec PyProof.Rows L2 Evl
open PySem.W (Datum DatumOrd Tup T3 T4 minOf)
section
variable {α κ β : Type} [DecidableEq α] [Dx α] [DecidableEq κ] [Dx κ] [Ky κ] [DecidableEq β] [Dx β]
variable {K : PySem.W.Frag} {Mc M : List Addr} {He H H1 H2 : Hp} {is js : Ims} {ms : Mus} {σ : L2.St} {te ta tb td tk tv tl tz : TE} {tt : TT} {g : TG} {D : Ends} {tq : TS}
/-! ### {k: v for x in xs} -/
/-- the pairs put one behind the other -/
def Dc.of (xs : List α) (kf : α → κ) (vf : α → β) : Dc κ β := xs.foldl (fun d x => d.put (kf x) (vf x)) ⟨[]⟩
theorem dcOf_snoc {xs : List α} {kf : α → κ} {vf : α → β} {i : Nat} {x : α} (h : xs[i]? = some x) : Dc.of (xs.take (i + 1)) kf vf = (Dc.of (xs.take i) kf vf).put (kf x) (vf x) := by
  unfold Dc.of
  rw [take_snoc h, List.foldl_append]
  rfl
theorem put_len (d : Dc κ β) (k : κ) (x : β) : (d.put k x).kvs.length ≤ d.kvs.length + 1 := by
  unfold Dc.put
  dsimp only
  split
  · rw [List.length_map]; omega
  · rw [List.length_append]; exact Nat.le_refl _
theorem dcOf_len (kf : α → κ) (vf : α → β) : ∀ (xs : List α), (Dc.of xs kf vf).kvs.length ≤ xs.length := by
  have key : ∀ (xs : List α) (d : Dc κ β), (xs.foldl (fun d x => d.put (kf x) (vf x)) d).kvs.length ≤ d.kvs.length + xs.length := fun xs => by
    induction xs with
    | nil => intro d; exact Nat.le_refl _
    | cons x r ih =>
      intro d
      rw [List.foldl_cons, List.length_cons]
      have := ih (d.put (kf x) (vf x))
      have := put_len d (kf x) (vf x)
      omega
  intro xs
  have := key xs ⟨[]⟩
  simpa [Dc.of] using this
theorem dc_listD {a : Addr} {xs : List α} {vs : List Nat} {D : Addr} {Qd : Hp → Prop} {M' : List Addr} (Pv : Nat → Hp → Prop) (h0 : Pv 0 (upd H1 D (.dK []))) (hl : ∀ i H', i ≤ xs.length → Pv i H' → ∃ us, SqL K H' a us ∧ Dts K (msk M' H') us xs)
    (hs : ∀ i x w H', xs[i]? = some x → Pv i H' → Dt K (msk M' H') w x → g w (wipe σ vs) H' fun σ2 H2 => wipe σ2 vs = wipe σ vs ∧ tt σ2 H2 fun b H3 =>
      if b = true then tk σ2 H3 fun y H4 => tv σ2 H4 fun z H5 => ∃ kvs k, y = kV k ∧ H5 D = some (.dK kvs) ∧ kvs.length < sizeLine ∧ Pv (i + 1) (upd H5 D (.dK (putK kvs k z))) else Pv (i + 1) H3) (hd : ∀ H', Pv xs.length H' → Qd H') :
    ∃ W : Nat → Nat → Hp → Prop, (∃ m, W 0 m (upd H1 D (.dK []))) ∧ ∀ i m H, W i m H →
      ((Itl K a).stop i H ∧ Qd H) ∨ ((Itl K a).go i H ∧ ∃ Nx : Hp → Prop, (∀ H', Nx H' → ∃ m', m' < m ∧ W (i + 1) m' H') ∧ ∀ x H', (Itl K a).yld i H x H' → g x (wipe σ vs) H' fun σ2 H2 => wipe σ2 vs = wipe σ vs ∧ tt σ2 H2 fun b H3 =>
        if b = true then tk σ2 H3 fun y H4 => tv σ2 H4 fun z H5 => ∃ kvs k, y = kV k ∧ H5 D = some (.dK kvs) ∧ kvs.length < sizeLine ∧ Nx (upd H5 D (.dK (putK kvs k z))) else Nx H3) := by
  refine ⟨fun i m H => m = xs.length - i ∧ i ≤ xs.length ∧ Pv i H, ⟨xs.length, by simp, Nat.zero_le _, h0⟩, ?_⟩
  rintro i m H ⟨rfl, hi, p⟩
  obtain ⟨us, q, ds⟩ := hl i H hi p
  have el := ds.len
  by_cases hlt : i < xs.length
  · refine .inr ⟨⟨us, us[i]'(by omega), q, by simp [show i < us.length by omega]⟩, Pv (i + 1), fun H' p' => ⟨xs.length - (i + 1), by omega, rfl, hlt, p'⟩, fun x H' y => ?_⟩
    obtain ⟨e, y⟩ := y
    subst e
    obtain ⟨w, h1, h2⟩ := ds.at (i := i) (x := xs[i]) (by simp [hlt])
    have e1 : x = w := Option.some.inj ((y us q).symm.trans h1)
    subst e1
    exact hs i _ x _ (by simp [hlt]) p h2
  · have e : i = xs.length := by omega
    subst e
    exact .inl ⟨⟨us, q, by omega⟩, hd H p⟩
theorem hv_dcL0 {vs : List Nat} (s : Sg K Mc He H is ms) {xs : List α} (kf : α → κ) (vf : α → β) (h : Hv K (muA ms ++ Mc) tl σ H xs) (hz : xs.length ≤ 40000)
    (hb : ∀ D src x w (d : Dc κ β) H1, Sg K Mc He H1 ((w, Dx.toX x) :: (src, Dx.toX xs) :: is) ((D, d.m) :: ms) → x ∈ xs →
      ∀ Q : L2.St → Hp → Prop, (∀ σ2, wipe σ2 vs = wipe σ vs → Hv K (muA ((D, d.m) :: ms) ++ Mc) tk σ2 H1 (kf x) → Hv K (muA ((D, d.m) :: ms) ++ Mc) tv σ2 H1 (vf x) → Q σ2 H1) → g w (wipe σ vs) H1 Q) :
    Hv K (muA ms ++ Mc) (tDc (iList K tl) g tYes tk tv vs) σ H (Dc.of xs kf vf) := fun H1 e m Q q =>
  h H1 e m _ fun v H2 e2 d => by
    obtain ⟨a, us, rfl, s1, ds⟩ := d.list
    refine ⟨a, rfl, ⟨us, ex_l msk_le s1⟩, fun D hD => ?_⟩
    have sA : Sg K Mc He H2 ((.ref a, Dx.toX xs) :: is) ms := ((s.ex e).ex e2).put d
    have sB : Sg K Mc He (upd H2 D (.dK [])) ((.ref a, Dx.toX xs) :: is) ((D, (⟨[]⟩ : Dc κ β).m) :: ms) := sA.new hD (dic_ok .nil)
    refine dc_listD (xs := xs) (M' := D :: (muA ms ++ Mc)) (fun i H' => Ex H2 H' ∧ Sg K Mc He H' ((.ref a, Dx.toX xs) :: is) ((D, (Dc.of (xs.take i) kf vf).m) :: ms)) ⟨Ex.new hD, sB⟩
      (fun i H' _ p => ?_) (fun i x w H' hx p dw => ?_) (fun H' p => ?_)
    · obtain ⟨a', us', e', s2, ds'⟩ := Dt.list (α := α) p.2.im.1
      cases e'
      exact ⟨us', ex_l msk_le s2, ds'⟩
    · have hi : i < xs.length := (List.getElem?_eq_some_iff.mp hx).1
      have sw := p.2.put dw
      refine hb D (.ref a) x w _ H' sw (List.mem_of_getElem? hx) _ fun σ2 hw hk hv => ⟨hw, ?_⟩
      show tk σ2 H' fun y H4 => tv σ2 H4 fun z H5 => _
      refine hk H' (Ex.refl H') sw.mok _ fun y H4 e4 dy => hv H4 e4 (sw.mok.ex e4) _ fun z H5 e5 dz => ?_
      have s5 := (p.2.ex e4).ex e5
      obtain ⟨kvs, h1, h2⟩ := s5.dic (j := 0) (l := D) (d := Dc.of (xs.take i) kf vf) rfl
      have hl : kvs.length < sizeLine := by
        have hs : sizeLine = 16777216 := sizeLine_eq
        have := dcOf_len kf vf (xs.take i)
        rw [List.length_take] at this
        rw [h2.len]; omega
      refine ⟨kvs, Ky.toK (kf x), Ky.link dy, h1, hl, ?_, ?_⟩
      · exact Ex.mut ((p.1.trans e4).trans e5) hD
      · rw [dcOf_snoc hx]
        exact s5.set (k := 0) (m' := ((Dc.of (xs.take i) kf vf).put (kf x) (vf x)).m) rfl (dic_ok (h2.put dz))
    · have z := p.2
      rw [List.take_length] at z
      exact q _ H' (e2.trans p.1) (z.frzD).im.1
/-! ### sorted(d) -/
def sortI (ks : List Int) : List Int := ks.mergeSort (fun a b => decide (a ≤ b))
theorem sortI_eq {ks ys : List Int} (hp : ys.Perm ks) (hs : ys.Pairwise (· ≤ ·)) : ys = sortI ks := by
  have h1 : (sortI ks).Perm ks := List.mergeSort_perm _ _
  have h2 : (sortI ks).Pairwise (fun a b => decide (a ≤ b) = true) := List.pairwise_mergeSort (fun a b c h1 h2 => by simp at *; omega) (fun a b => by simp; omega) ks
  refine List.Perm.eq_of_pairwise (le := fun (a b : Int) => a ≤ b) (fun a b _ _ h1 h2 => by omega) hs (h2.imp fun h => by simpa using h) (hp.trans h1.symm)
theorem call_sortedI_ty {d : Dc Int β} (s : Sg K Mc He H is ms) {j : Nat} {l : Addr} (e : ms[j]? = some (l, d.m)) (ho : Ev te σ H (.ref l)) (hz : d.kvs.length < 64) :
    HF K (muA ms ++ Mc) (tCB (fun xs H Q => ∃ (a : Addr) (kvs : List (Key × V)) (ks : List Int), xs = [.ref a] ∧ Rd H a (.dK kvs) ∧ kvs.map (·.1) = ks.map Sum.inl ∧ ks.length < 64 ∧
      ∀ (ys : List Int) (p : Addr), ys.Perm ks → ys.Pairwise (· ≤ ·) → H p = none → Q (.ref p) (upd H p (.lst (ys.map V.int)))) (tCons te tNil)) σ H (sortI (d.kvs.map (·.1))) := fun H1 e1 m Q q =>
  ho H1 e1 _ fun H2 e2 => by
    obtain ⟨kvs, h1, h2⟩ := (s.ex (e1.trans e2)).dic e
    refine ⟨l, kvs, d.kvs.map (·.1), rfl, .inl h1, ?_, by rw [List.length_map]; exact hz, fun ys p hp hs hn => ?_⟩
    · rw [h2.keys, List.map_map]; rfl
    · have ey := sortI_eq hp hs
      subst ey
      exact q p _ _ (fresh_back e2 hn) (e2.trans (Ex.new hn)) upd_same (dts_ints _)
end
end Ly

namespace Ly
open PySem PySem.Spec PyProof.Rows L2 Evl
open PySem.W (Datum DatumOrd Tup T3 T4 minOf)
section
variable {α κ β : Type} [DecidableEq α] [Dx α] [DecidableEq κ] [Dx κ] [Ky κ] [DecidableEq β] [Dx β]
variable {K : PySem.W.Frag} {M : List Addr} {H : Hp} {σ : L2.St} {ta tb : TE}
theorem has_get {d : Dc κ β} {k : κ} (df : β) (h : d.has k = true) : d.get k = some ((d.get k).getD df) := by
  unfold Dc.has at h
  unfold Dc.get
  cases hf : d.kvs.find? fun p => decide (p.1 = k) with
  | none =>
    rw [List.find?_eq_none] at hf
    rw [List.any_eq_true] at h
    obtain ⟨p, hp, hk⟩ := h
    exact absurd hk (hf p hp)
  | some p => rfl
theorem put_has {d : Dc κ β} {k : κ} {x : β} : (d.put k x).has k = true := by
  unfold Dc.put Dc.has
  dsimp only
  split
  · rename_i h
    rw [List.any_eq_true] at h ⊢
    obtain ⟨p, hp, hk⟩ := h
    rw [decide_eq_true_eq] at hk
    exact ⟨(p.1, x), List.mem_map.mpr ⟨p, hp, by rw [if_pos hk]⟩, decide_eq_true hk⟩
  · rw [List.any_append, Bool.or_eq_true]
    right
    simp
theorem hv_catT {xs ys : Tup α} (ha : Hv K M ta σ H xs) (hb : Hv K M tb σ H ys) (hz : xs.items.length + ys.items.length ≤ 100000) : Hv K M (tOp (rCatA K) ta tb) σ H (Tup.mk (xs.items ++ ys.items)) := fun H1 e m Q q =>
  ha H1 e m _ fun v H2 e2 d => hb H2 (e.trans e2) (m.ex e2) _ fun u H3 e3 d' => by
    obtain ⟨a, vs, rfl, s1, ds1⟩ := (Dt.mono (msk_ex e3) d).tupv
    obtain ⟨b, ws, rfl, s2, ds2⟩ := d'.tupv
    have m3 : MOk M H3 := m.ex (e2.trans e3)
    refine ⟨a, b, vs, ws, rfl, rfl, ex_t msk_le s1, ex_t msk_le s2, sz_of (by rw [ds1.len, ds2.len]; exact hz), fun h0 => ?_, fun h0 h1 => ?_, fun h0 h1 p hp => ?_⟩
    · subst h0
      have hx : xs.items = [] := List.eq_nil_of_length_eq_zero (by rw [← ds1.len]; rfl)
      rw [hx, List.nil_append] at q
      exact q _ H3 (e2.trans e3) (Dt.ofTupv s2 ds2)
    · subst h1
      have hy : ys.items = [] := List.eq_nil_of_length_eq_zero (by rw [← ds2.len]; rfl)
      rw [hy, List.append_nil] at q
      exact q _ H3 (e2.trans e3) (Dt.ofTupv s1 ds1)
    · have e4 : Ex H3 (upd H3 p (.tup (vs ++ ws))) := Ex.new hp
      exact q _ _ ((e2.trans e3).trans e4) (Dt.ofTupv (SqT.of (msk_at m3 hp)) ((ds1.mono (msk_ex e4)).app (ds2.mono (msk_ex e4))))
theorem call_sortedI_im {te : TE} {d : Dc Int β} (hd : Hv K M te σ H d) (hz : d.kvs.length < 64) :
    HF K M (tCB (fun xs H Q => ∃ (a : Addr) (kvs : List (Key × V)) (ks : List Int), xs = [.ref a] ∧ Rd H a (.dK kvs) ∧ kvs.map (·.1) = ks.map Sum.inl ∧ ks.length < 64 ∧
      ∀ (ys : List Int) (p : Addr), ys.Perm ks → ys.Pairwise (· ≤ ·) → H p = none → Q (.ref p) (upd H p (.lst (ys.map V.int)))) (tCons te tNil)) σ H (sortI (d.kvs.map (·.1))) := fun H1 e1 m Q q =>
  hd H1 e1 m _ fun v H2 e2 dv => by
    obtain ⟨a, kvs, rfl, r, h2⟩ := dv.dic
    refine ⟨a, kvs, d.kvs.map (·.1), rfl, rd_msk r, ?_, by rw [List.length_map]; exact hz, fun ys p hp hs hn => ?_⟩
    · rw [h2.keys, List.map_map]; rfl
    · have ey := sortI_eq hp hs
      subst ey
      exact q p _ _ (fresh_back e2 hn) (e2.trans (Ex.new hn)) upd_same (dts_ints _)
theorem has_sorted {d : Dc Int β} {k : Int} (h : k ∈ sortI (d.kvs.map (·.1))) : d.has k = true := by
  have h1 : k ∈ d.kvs.map (·.1) := (List.mergeSort_perm _ _).mem_iff.mp h
  obtain ⟨p, hp, rfl⟩ := List.mem_map.mp h1
  unfold Dc.has
  rw [List.any_eq_true]
  exact ⟨p, hp, decide_eq_true rfl⟩
theorem find_map {k : κ} {x : β} {j : κ} : ∀ (l : List (κ × β)), ((l.map fun p => if p.1 = k then (p.1, x) else p).find? fun p => decide (p.1 = j)).map (·.2) = if j = k then (if l.any (fun p => decide (p.1 = k)) = true then some x else none) else (l.find? fun p => decide (p.1 = j)).map (·.2)
  | [] => by simp
  | p :: l => by
    have ih := find_map (k := k) (x := x) (j := j) l
    rw [List.map_cons, List.find?_cons, List.find?_cons, List.any_cons]
    by_cases q : p.1 = k
    · rw [if_pos q]
      by_cases h : j = k
      · subst h
        simp [q]
      · have h2 : ¬ k = j := fun z => h z.symm
        rw [if_neg h] at ih
        simp only [q, h2, decide_false, h, if_false]
        exact ih
    · rw [if_neg q]
      by_cases h : p.1 = j
      · have h3 : ¬ j = k := fun z => q (h.trans z)
        simp [h, h3]
      · simp only [h, decide_false, q, Bool.false_or]
        exact ih
theorem find_app {k : κ} {x : β} {j : κ} : ∀ (l : List (κ × β)), l.any (fun p => decide (p.1 = k)) = false → ((l ++ [(k, x)]).find? fun p => decide (p.1 = j)).map (·.2) = if j = k then some x else (l.find? fun p => decide (p.1 = j)).map (·.2)
  | [], _ => by
    by_cases h : j = k
    · subst h; simp
    · have h2 : ¬ k = j := fun z => h z.symm
      simp [h, h2]
  | p :: l, hn => by
    rw [List.any_cons, Bool.or_eq_false_iff] at hn
    have ih := find_app (k := k) (x := x) (j := j) l hn.2
    have q : ¬ p.1 = k := by simpa using hn.1
    rw [List.cons_append, List.find?_cons, List.find?_cons]
    by_cases h : p.1 = j
    · have h3 : ¬ j = k := fun z => q (h.trans z)
      simp [h, h3]
    · simp only [h, decide_false]
      exact ih
theorem get_put (d : Dc κ β) (k : κ) (x : β) (j : κ) : (d.put k x).get j = if j = k then some x else d.get j := by
  unfold Dc.put Dc.get
  dsimp only
  by_cases q : (d.kvs.any fun p => decide (p.1 = k)) = true
  · rw [if_pos q, find_map, q]
    simp
  · rw [if_neg q]
    exact find_app _ (Bool.not_eq_true _ ▸ q)
theorem of_get {xs : List α} {kf : α → κ} {vf : α → β} {k : κ} {p : β} (h : (Dc.of xs kf vf).get k = some p) : ∃ x ∈ xs, kf x = k ∧ vf x = p := by
  have key := foldl_inv (f := fun (d : Dc κ β) x => d.put (kf x) (vf x)) (fun d => ∀ k p, d.get k = some p → ∃ x ∈ xs, kf x = k ∧ vf x = p) xs ⟨[]⟩ (fun d x hx ih k p h => by
    rw [get_put] at h
    by_cases q : k = kf x
    · rw [if_pos q] at h
      exact ⟨x, hx, q.symm, Option.some.inj h⟩
    · rw [if_neg q] at h
      exact ih k p h) (fun k p h => by cases h)
  exact key k p h
end
end Ly

namespace Ly
open PySem PySem.Spec PyProof.Rows L2 Evl
open PySem.W (Datum DatumOrd Tup T3 T4 minOf)
theorem ifT {α : Sort _} {b : Bool} {x y : α} (h : b = true) : (if b = true then x else y) = x := if_pos h
theorem ifF {α : Sort _} {b : Bool} {x y : α} (h : b = false) : (if b = true then x else y) = y := if_neg (by rw [h]; exact Bool.false_ne_true)
theorem log_small {j : Int} (h0 : 0 < j) (h : j < 1000000000000000000) : CDivW i j := by
  refine ⟨h0, ?_⟩
  have hn : j.natAbs ≠ 0 := by omega
  rw [Nat.log2_lt hn]
  have : j.natAbs < 2 ^ 60 := by omega
  exact Nat.lt_of_lt_of_le this (Nat.pow_le_pow_right (by decide) (by decide))
/-! ### sums, the greatest of a list, zip, stars -/
section
variable {K : PySem.W.Frag} {Mc M : List Addr} {He H H1 H2 : Hp} {is js : Ims} {ms : Mus} {σ : L2.St} {te ta tb tl tl2 : TE} {tt : TT} {g : TG}
variable {α β γ δ : Type} [DecidableEq α] [Dx α] [DecidableEq β] [Dx β] [DecidableEq γ] [Dx γ] [DecidableEq δ] [Dx δ]
theorem hv_sum {ns : List Int} (h : HS K M te σ H ns) : Hv K M (tCB (rSum K) (tCons te tNil)) σ H ns.sum := fun H1 e m Q q =>
  h H1 e m _ fun a vs H2 e2 s ds => ⟨a, ns, rfl, by rw [← ints_of ds]; exact s, q _ H2 e2 (Dt.ofInt _)⟩
/-- the greatest of a list -/
def maxL (l : List Int) : Int := match l with
  | [] => 0
  | x :: xs => xs.foldl max x
theorem maxL_spec {l : List Int} (h : l ≠ []) : maxL l ∈ l ∧ ∀ y ∈ l, y ≤ maxL l := by
  cases l with
  | nil => exact absurd rfl h
  | cons x xs =>
    obtain ⟨h1, h2, h3⟩ := max_spec xs x
    refine ⟨?_, fun y hy => ?_⟩
    · show xs.foldl max x ∈ x :: xs
      rcases h1 with h1 | h1
      · rw [h1]; exact List.mem_cons_self
      · exact List.mem_cons_of_mem _ h1
    · show y ≤ xs.foldl max x
      rcases List.mem_cons.mp hy with rfl | hy
      · exact h2
      · exact h3 y hy
theorem maxL_eq {l : List Int} {m : Int} (h1 : m ∈ l) (h2 : ∀ y ∈ l, y ≤ m) : m = maxL l := by
  have hn : l ≠ [] := fun z => by rw [z] at h1; cases h1
  obtain ⟨a, b⟩ := maxL_spec hn
  exact Int.le_antisymm (b m h1) (h2 _ a)
theorem hv_max {ns : List Int} (h : HS K M te σ H ns) (hn : 0 < ns.length) : Hv K M (tCB (rMax K) (tCons te tNil)) σ H (maxL ns) := fun H1 e m Q q =>
  h H1 e m _ fun a vs H2 e2 s ds => ⟨a, ns, rfl, by rw [← ints_of ds]; exact s, hn, fun x hx hy => by
    have : x = maxL ns := maxL_eq hx hy
    rw [this]
    exact q _ H2 e2 (Dt.ofInt _)⟩
/-- a starred list among items -/
theorem has_star {tr : TA} {xs ys : List α} (h : HS K M te σ H xs) (hr : HAs K M tr σ H ys) : HAs K M (StX.tStar K te tr) σ H (xs ++ ys) := fun H1 e m Q q =>
  h H1 e m _ fun a vs H2 e2 s ds => ⟨a, vs, rfl, .inr s, hr H2 (e.trans e2) (m.ex e2) _ fun ws H3 e3 d3 => q _ H3 (e2.trans e3) ((ds.mono (msk_ex e3)).app d3)⟩
/-- pairs of items of two lists -/
def zipL (xs : List α) (ys : List β) : List (α × β) := List.zipWith (fun x y => (x, y)) xs ys
theorem zipL_len (xs : List α) (ys : List β) : (zipL xs ys).length = min xs.length ys.length := by unfold zipL; rw [List.length_zipWith]
theorem zipL_get {xs : List α} {ys : List β} {i : Nat} {x : α} {y : β} (h : xs[i]? = some x) (h2 : ys[i]? = some y) : (zipL xs ys)[i]? = some (x, y) := by
  unfold zipL
  rw [List.getElem?_zipWith, h, h2]
theorem hf_lcZ0 {vs : List Nat} (s : Sg K Mc He H is ms) {xs : List α} {zs : List γ} (ef : α × γ → β) (h : Hv K (muA ms ++ Mc) tl σ H xs) (h' : Hv K (muA ms ++ Mc) tl2 σ H zs) (hz : xs.length ≤ 40000)
    (hb : ∀ D src (x : α × γ) w (ys : List β) H1, Sg K Mc He H1 ((w, Dx.toX x) :: (src, Dx.toX xs) :: is) ((D, .lst (ys.map Dx.toX)) :: ms) → x ∈ zipL xs zs →
      ∀ Q : L2.St → Hp → Prop, (∀ σ2, wipe σ2 vs = wipe σ vs → Hv K (muA ((D, Mv.lst (ys.map Dx.toX)) :: ms) ++ Mc) te σ2 H1 (ef x) → Q σ2 H1) → g w (wipe σ vs) H1 Q) :
    HF K (muA ms ++ Mc) (tLc (iZip K (tCons tl (tCons tl2 tNil))) g tYes te vs) σ H ((zipL xs zs).map ef) := fun H1 e m Q q =>
  h H1 e m _ fun v H2 e2 d => h' H2 (e.trans e2) (m.ex e2) _ fun v' H2' e2' d' => by
    obtain ⟨a, us, rfl, s1, ds⟩ := d.list
    obtain ⟨a', us', rfl, t1, dt⟩ := d'.list
    have s1' : SqL K H2' a us := ex_l e2' (ex_l msk_le s1)
    have t1' : SqL K H2' a' us' := ex_l msk_le t1
    have dE : Dt K (msk (muA ms ++ Mc) H2') (.ref a) xs := d.mono (msk_ex e2')
    refine ⟨a, a', us, us', rfl, s1', t1', fun D hD => ?_⟩
    have sA : Sg K Mc He H2' ((.ref a, Dx.toX xs) :: is) ms := (((s.ex e).ex e2).ex e2').put dE
    have sB : Sg K Mc He (upd H2' D (.lst [])) ((.ref a, Dx.toX xs) :: is) ((D, .lst (([] : List β).map Dx.toX)) :: ms) := sA.new hD ⟨[], rfl, .nil⟩
    have hlu : us.length = xs.length := ds.len
    have hlw : us'.length = zs.length := dt.len
    have dsE : Dts K (msk (muA ms ++ Mc) H2') us xs := Dts.mono (msk_ex e2') ds
    refine lc_it (walk_zip (K := K) (a := a) (b := a') (xs := us) (ys := us') (n := min us.length us'.length) rfl) (fun i H' => Ex H2' H' ∧ Sg K Mc He H' ((.ref a, Dx.toX xs) :: is) ((D, .lst ((((zipL xs zs).take i).map ef).map Dx.toX)) :: ms)) ⟨Ex.new hD, sB⟩
      (fun i H' _ p => ⟨ex_l p.1 s1', ex_l p.1 t1'⟩) (fun i x H' H'' hi p y => ?_) (fun H' p => ?_)
    · obtain ⟨T, x0, x1, rfl, nT, rfl, f1, f2⟩ := y
      have hix : i < xs.length := by rw [← hlu]; omega
      have hiz : i < zs.length := by rw [← hlw]; omega
      have gx : xs[i]? = some xs[i] := by simp [hix]
      have gz : zs[i]? = some zs[i] := by simp [hiz]
      have gE := zipL_get gx gz
      have eT : Ex H' (upd H' T (.tup [x0, x1])) := Ex.new nT
      have sT := p.2.ex eT
      have q2 : Ex (msk (muA ms ++ Mc) H2') (msk (D :: (muA ms ++ Mc)) (upd H' T (.tup [x0, x1]))) := fun b o hb' => by
        by_cases z : b ∈ muA ms ++ Mc
        · rw [msk_in z] at hb'; cases hb'
        · rw [msk_out z] at hb'
          have nb : b ≠ D := ne_of_none hb' hD
          rw [msk_out (by simp only [List.mem_cons, not_or]; exact ⟨nb, z⟩)]
          exact eT b o (p.1 b o hb')
      have dm0 : Dt K (msk (D :: (muA ms ++ Mc)) (upd H' T (.tup [x0, x1]))) x0 xs[i] := by
        obtain ⟨w, w1, w2⟩ := (dsE.mono q2).at gx
        have : x0 = w := Option.some.inj (f1.symm.trans w1)
        subst this; exact w2
      have dm1 : Dt K (msk (D :: (muA ms ++ Mc)) (upd H' T (.tup [x0, x1]))) x1 zs[i] := by
        obtain ⟨w, w1, w2⟩ := (Dts.mono q2 dt).at gz
        have : x1 = w := Option.some.inj (f2.symm.trans w1)
        subst this; exact w2
      have nTD : T ∉ D :: (muA ms ++ Mc) := fun z => (p.2.mok T z) nT
      have dw : Dt K (msk (D :: (muA ms ++ Mc)) (upd H' T (.tup [x0, x1]))) (.ref T) (xs[i], zs[i]) := Dt.ofPair (SqT.of (by rw [msk_out nTD]; exact upd_same)) dm0 dm1
      refine hb D (.ref a) (xs[i], zs[i]) (.ref T) _ _ (sT.put dw) (List.mem_of_getElem? gE) _ fun σ2 hw he => ⟨hw, ?_⟩
      have hlen : (((zipL xs zs).take i).map ef).length < 50000 := by
        rw [List.length_map, List.length_take, zipL_len]
        omega
      exact lc_turn (ms := ms) (tt := tYes) (b := true) (zs := ((zipL xs zs).take (i + 1)).map ef) sT hlen (fun H3 => Ex H2' H3 ∧ Sg K Mc He H3 ((.ref a, Dx.toX xs) :: is) ((D, .lst ((((zipL xs zs).take (i + 1)).map ef).map Dx.toX)) :: ms)) (fun H2 _ _ _ q => q H2 (Ex.refl H2)) (fun _ => he) (by rw [if_pos rfl, take_snoc gE, List.map_append]; rfl) (fun H3 h4 s3 => ⟨by
        obtain ⟨H4, e4, e5⟩ := h4
        rcases e5 with e5 | ⟨o, e5⟩
        · rw [e5]; exact (p.1.trans eT).trans e4
        · rw [e5]; exact Ex.mut ((p.1.trans eT).trans e4) hD, s3⟩)
    · have z := p.2
      have et : (zipL xs zs).take (min us.length us'.length) = zipL xs zs := List.take_of_length_le (by rw [zipL_len, hlu, hlw]; exact Nat.le_refl _)
      rw [et] at z
      obtain ⟨us2, h3, h4⟩ := z.lst (k := 0) rfl
      exact q D us2 H' (fresh_back (e2.trans e2') hD) ((e2.trans e2').trans p.1) h3 h4

/-- xs[-1] -/
theorem hv_last {xs : List α} (d : α) (ha : HS K M ta σ H xs) (hn : 0 < xs.length) : Hv K M (tOp (rIxL K) ta (tUn (rU fun i => .int (-i)) (tC (.int 1)))) σ H (xs.getD (xs.length - 1) d) := fun H1 e m Q q =>
  ha H1 e m _ fun a vs H2 e2 s ds => ⟨1, rfl, by
    have hx : xs[xs.length - 1]? = some (xs.getD (xs.length - 1) d) := by
      have := getD_at (xs := xs) (i := ((xs.length - 1 : Nat) : Int)) (d := d) (by omega) (by omega)
      simpa using this
    obtain ⟨w, h1, h2⟩ := ds.at hx
    have hl := ds.len
    refine ⟨a, vs, -1, w, rfl, rfl, s, ?_, q w H2 e2 h2⟩
    unfold atI ixN
    rw [if_neg (by decide), if_pos (by omega)]
    show vs[_]? = some w
    rw [← h1]
    congr 1
    omega⟩
/-- for i, x in enumerate(xs) -/
theorem zq_forE {xs : List α} {tu tz : TS} {D : Ends} (s : Sg K Mc He H is ms) (h : Hv K (muA ms ++ Mc) tl σ H xs) (Pv : V → Nat → L2.St → Hp → Prop) (h0 : ∀ v H1, Sg K Mc He H1 ((v, Dx.toX xs) :: is) ms → Pv v 0 σ H1)
    (hl : ∀ v i σ' H', Pv v i σ' H' → Dt K (msk (muA ms ++ Mc) H') v xs ∧ MOk (muA ms ++ Mc) H')
    (hs : ∀ v i x w σ' H' H'', (enumL xs)[i]? = some x → Pv v i σ' H' → Ex H' H'' → Dt K (msk (muA ms ++ Mc) H'') w x → g w σ' H'' fun σ2 H2 => tu { D with nx := Pv v (i + 1), ct := Pv v (i + 1), bk := tz D } σ2 H2)
    (hd : ∀ v σ' H', Pv v (enumL xs).length σ' H' → tz D σ' H') : tSeq (tFor (iEnum K (tCons tl tNil)) g tu) tz D σ H :=
  h H (Ex.refl H) s.mok _ fun v H1 e d => by
    obtain ⟨a, vs, rfl, s1, ds⟩ := d.list
    refine ⟨a, vs, rfl, ex_l msk_le s1, fun i m σ' H' => m = xs.length - i ∧ i ≤ xs.length ∧ Pv (.ref a) i σ' H', ⟨xs.length, by simp, Nat.zero_le _, h0 _ H1 ((s.ex e).put d)⟩, ?_⟩
    rintro i m σ' H' ⟨rfl, hi, p⟩
    obtain ⟨dd, mk⟩ := hl _ i σ' H' p
    obtain ⟨a', us, e', q1, du⟩ := dd.list
    cases e'
    have q : SqL K H' a us := ex_l msk_le q1
    have el := du.len
    by_cases hlt : i < xs.length
    · refine .inr ⟨⟨us, us[i]'(by omega), q, by simp [show i < us.length by omega]⟩, Pv (.ref a) (i + 1), fun σ2 H2 p' => ⟨xs.length - (i + 1), by omega, rfl, hlt, p'⟩, fun x H2 y => ?_⟩
      obtain ⟨T, x1, rfl, nT, rfl, f2⟩ := y
      have gx : xs[i]? = some xs[i] := by simp [hlt]
      have eT : Ex H' (upd H' T (.tup [.int (i : Int), x1])) := Ex.new nT
      have nTD : T ∉ muA ms ++ Mc := fun z => (mk T z) nT
      have dm : Dt K (msk (muA ms ++ Mc) (upd H' T (.tup [.int (i : Int), x1]))) x1 xs[i] := by
        obtain ⟨w, w1, w2⟩ := (Dts.mono (msk_ex eT) du).at gx
        have : x1 = w := Option.some.inj ((f2 us q).symm.trans w1)
        subst this; exact w2
      exact hs _ i ((i : Int), xs[i]) (.ref T) σ' H' _ (enumL_get gx) p eT (Dt.ofPair (SqT.of (by rw [msk_out nTD]; exact upd_same)) (Dt.ofInt _) dm)
    · have e : i = xs.length := by omega
      subst e
      exact .inl ⟨⟨us, q, by omega⟩, hd _ σ' H' (by rw [enumL_len]; exact p)⟩
/-- for x, y in zip(xs, ys) -/
theorem zq_forZ {xs : List α} {ys : List β} {tu tz : TS} {D : Ends} (s : Sg K Mc He H is ms) (h : Hv K (muA ms ++ Mc) tl σ H xs) (h' : Hv K (muA ms ++ Mc) tl2 σ H ys) (Pv : V → Nat → L2.St → Hp → Prop)
    (h0 : ∀ v u H1, Sg K Mc He H1 ((v, Dx.toX xs) :: (u, Dx.toX ys) :: is) ms → Pv v 0 σ H1)
    (hl : ∀ v i σ' H', Pv v i σ' H' → Dt K (msk (muA ms ++ Mc) H') v xs ∧ MOk (muA ms ++ Mc) H' ∧ True)
    (hs : ∀ v i x w σ' H' H'', (zipL xs ys)[i]? = some x → Pv v i σ' H' → Ex H' H'' → Dt K (msk (muA ms ++ Mc) H'') w x → g w σ' H'' fun σ2 H2 => tu { D with nx := Pv v (i + 1), ct := Pv v (i + 1), bk := tz D } σ2 H2)
    (hd : ∀ v σ' H', Pv v (zipL xs ys).length σ' H' → tz D σ' H') : True := True.intro
end
/-! ### loops whose states are known -/
theorem loopNR_seq {ρ S : Type} {f : S → Int → Lp ρ S} (st : Nat → S) (lo : Int) (n : Nat) (h : ∀ i, i < n → f (st i) (lo + (i : Int)) = .nxt (st (i + 1))) : loopNR f n lo (st 0) = .inr (st n) := by
  have key : ∀ m i, i + m = n → loopNR f m (lo + (i : Int)) (st i) = .inr (st n) := by
    intro m
    induction m with
    | zero => intro i e; have : i = n := by omega
              subst this; rfl
    | succ m ih =>
      intro i e
      have := loopNR_nxt (n := n) (i := i) (by omega) (h i (by omega))
      rw [show n - i = m + 1 by omega, show n - (i + 1) = m by omega] at this
      rw [this]
      exact ih (i + 1) (by omega)
  have := key n 0 (by omega)
  simpa using this
theorem loopN_seq {S : Type} {f : S → Int → S} (st : Nat → S) (lo : Int) (n : Nat) (h : ∀ i, i < n → f (st i) (lo + (i : Int)) = st (i + 1)) : loopN f n lo (st 0) = st n := by
  have key : ∀ m i, i + m = n → loopN f m (lo + (i : Int)) (st i) = st n := by
    intro m
    induction m with
    | zero => intro i e; have : i = n := by omega
              subst this; rfl
    | succ m ih =>
      intro i e
      have := loopN_step (f := f) (n := n) (i := i) (lo := lo) (s := st i) (by omega)
      rw [show n - i = m + 1 by omega, show n - (i + 1) = m by omega] at this
      rw [this, h i (by omega)]
      exact ih (i + 1) (by omega)
  have := key n 0 (by omega)
  simpa using this
theorem loopL_seq {α ρ S : Type} {f : S → α → Lp ρ S} (st : Nat → S) (xs : List α) (h : ∀ i x, xs[i]? = some x → f (st i) x = .nxt (st (i + 1))) : loopL f xs (st 0) = .inr (st xs.length) := by
  have key : ∀ m i, i + m = xs.length → loopL f (xs.drop i) (st i) = .inr (st xs.length) := by
    intro m
    induction m with
    | zero => intro i e; have : i = xs.length := by omega
              subst this; exact loopL_end
    | succ m ih =>
      intro i e
      have hx : xs[i]? = some (xs[i]'(by omega)) := by simp [show i < xs.length by omega]
      rw [loopL_nxt hx (h i _ hx)]
      exact ih (i + 1) (by omega)
  have := key xs.length 0 (by omega)
  simpa using this
theorem sum_take_succ (xs : List Int) {i : Nat} (h : i < xs.length) : (xs.take (i + 1)).sum = (xs.take i).sum + xs.getD i 0 := by
  have hx : xs[i]? = some (xs[i]'h) := by simp [h]
  rw [take_snoc hx, List.sum_append, List.getD_eq_getElem?_getD, hx]
  simp
theorem sum_nn {xs : List Int} (h : ∀ x ∈ xs, 0 ≤ x) : 0 ≤ xs.sum := by
  induction xs with
  | nil => simp
  | cons a r ih =>
    have := h a List.mem_cons_self
    have := ih fun x hx => h x (List.mem_cons_of_mem _ hx)
    rw [List.sum_cons]; omega
section
variable {K : PySem.W.Frag} {M : List Addr} {H : Hp} {σ : L2.St} {ta : TE}
variable {α β γ δ : Type} [DecidableEq α] [Dx α] [DecidableEq β] [Dx β] [DecidableEq γ] [Dx γ] [DecidableEq δ] [Dx δ]
theorem hv_t40 {p : T4 α β γ δ} (ha : Hv K M ta σ H p) : Hv K M (tOp (rIxT K) ta (tC (.int 0))) σ H p.a := fun H1 e m Q q =>
  ha H1 e m _ fun v H2 e2 d => by
    obtain ⟨l, a, b, c, d', rfl, s, d1, d2, d3, d4⟩ := d.t4
    exact ⟨l, [a, b, c, d'], 0, a, rfl, rfl, ex_t msk_le s, at_of (j := 0) rfl rfl, q a H2 e2 d1⟩
theorem hv_t41 {p : T4 α β γ δ} (ha : Hv K M ta σ H p) : Hv K M (tOp (rIxT K) ta (tC (.int 1))) σ H p.b := fun H1 e m Q q =>
  ha H1 e m _ fun v H2 e2 d => by
    obtain ⟨l, a, b, c, d', rfl, s, d1, d2, d3, d4⟩ := d.t4
    exact ⟨l, [a, b, c, d'], 1, b, rfl, rfl, ex_t msk_le s, at_of (j := 1) rfl rfl, q b H2 e2 d2⟩
theorem hv_t42 {p : T4 α β γ δ} (ha : Hv K M ta σ H p) : Hv K M (tOp (rIxT K) ta (tC (.int 2))) σ H p.c := fun H1 e m Q q =>
  ha H1 e m _ fun v H2 e2 d => by
    obtain ⟨l, a, b, c, d', rfl, s, d1, d2, d3, d4⟩ := d.t4
    exact ⟨l, [a, b, c, d'], 2, c, rfl, rfl, ex_t msk_le s, at_of (j := 2) rfl rfl, q c H2 e2 d3⟩
theorem hv_t43 {p : T4 α β γ δ} (ha : Hv K M ta σ H p) : Hv K M (tOp (rIxT K) ta (tC (.int 3))) σ H p.d := fun H1 e m Q q =>
  ha H1 e m _ fun v H2 e2 d => by
    obtain ⟨l, a, b, c, d', rfl, s, d1, d2, d3, d4⟩ := d.t4
    exact ⟨l, [a, b, c, d'], 3, d', rfl, rfl, ex_t msk_le s, at_of (j := 3) rfl rfl, q d' H2 e2 d4⟩
end
end Ly

namespace Ly
open PySem PySem.Spec PyProof.Rows L2 Evl
open PySem.W (Datum DatumOrd Tup T3 T4 minOf)
section
variable {K : PySem.W.Frag} {Mc M : List Addr} {He H : Hp} {is : Ims} {ms : Mus} {σ : L2.St} {te ta tb : TE} {tz : TS} {D : Ends}
variable {α β γ δ : Type} [DecidableEq α] [Dx α] [DecidableEq β] [Dx β] [DecidableEq γ] [Dx γ] [DecidableEq δ] [Dx δ]
theorem z_unp3 {i j l : Nat} {p : T3 α β γ} (s : Sg K Mc He H is ms) (h : Hv K (muA ms ++ Mc) te σ H p) (k : ∀ x y z, T3.mk x y z = p → ∀ v u w H1, Sg K Mc He H1 ((v, Dx.toX x) :: (u, Dx.toX y) :: (w, Dx.toX z) :: is) ms → tz D (((σ.set i (some v)).set j (some u)).set l (some w)) H1) :
    tSeq (tAsg te (gTup K 3 (gCons (gName i) (gCons (gName j) (gCons (gName l) gNil))))) tz D σ H :=
  h H (Ex.refl H) s.mok _ fun v H1 e d => by
    obtain ⟨l, a, b, c, rfl, st, d1, d2, d3⟩ := d.t3
    exact ⟨l, [a, b, c], rfl, ex_t msk_le st, rfl, a, [b, c], rfl, b, [c], rfl, c, [], rfl, rfl, k p.a p.b p.c rfl a b c H1 ((((s.ex e).put d3).put d2).put d1)⟩
theorem z_unp4 {i j l m : Nat} {p : T4 α β γ δ} (s : Sg K Mc He H is ms) (h : Hv K (muA ms ++ Mc) te σ H p) (k : ∀ x y z r, T4.mk x y z r = p → ∀ v u w t H1, Sg K Mc He H1 ((v, Dx.toX x) :: (u, Dx.toX y) :: (w, Dx.toX z) :: (t, Dx.toX r) :: is) ms → tz D ((((σ.set i (some v)).set j (some u)).set l (some w)).set m (some t)) H1) :
    tSeq (tAsg te (gTup K 4 (gCons (gName i) (gCons (gName j) (gCons (gName l) (gCons (gName m) gNil)))))) tz D σ H :=
  h H (Ex.refl H) s.mok _ fun v H1 e dd => by
    obtain ⟨l, a, b, c, d, rfl, st, d1, d2, d3, d4⟩ := dd.t4
    exact ⟨l, [a, b, c, d], rfl, ex_t msk_le st, rfl, a, [b, c, d], rfl, b, [c, d], rfl, c, [d], rfl, d, [], rfl, rfl, k p.a p.b p.c p.d rfl a b c d H1 (((((s.ex e).put d4).put d3).put d2).put d1)⟩
/-- list + list, read ones -/
def rCatS (K : PySem.W.Frag) : R2 := fun x y H Q => ∃ a b xs ys, x = .ref a ∧ y = .ref b ∧ SqL K H a xs ∧ SqL K H b ys ∧ xs.length + ys.length ≤ sizeLine ∧ ∀ p, H p = none → Q (.ref p) (upd H p (.lst (xs ++ ys)))
theorem op_catS {X : Cx} : OpR X (binaryOp .Add) (rCatS X.K) := by
  intro pins s σ H x y v u Q I rx ry h
  obtain ⟨a, b, xs, ys, rfl, rfl, ha, hb, hz, q⟩ := h
  cases rx
  cases ry
  obtain ⟨its, r, ht, hz1⟩ := I.list ha
  obtain ⟨its2, r2, ht2, hz2⟩ := I.list hb
  obtain ⟨⟨cls, dd, data, sl⟩, ho, hc, n, hd⟩ := ht.isList
  obtain ⟨⟨cls2, dd2, data2, sl2⟩, ho2, hc2, n2, hd2⟩ := ht2.isList
  simp only at hc hd hc2 hd2
  subst hc hd hc2 hd2
  have e : its.toArray ++ its2.toArray = (its ++ its2).toArray := by simp
  refine concat_meets ⟨_, ho, rfl⟩ ⟨_, ho2, rfl⟩ noFill_list_add seq_list_add PySem.F.slot_list_add PySem.F.entry_list_add (PySem.F.args_list_add_2 _ _) (list_addW a b its.toArray its2.toArray n n2 dd dd2 sl sl2 (by rw [List.size_toArray, List.size_toArray, ← r.length, ← r2.length]; exact hz)) ⟨ho, ho2, ?_⟩
  rw [e]
  refine ⟨.ref s.heap.objs.size, _, I.laid (t' := s.toks) (o := .lst (xs ++ ys)) (fun b ob q => Heap.get?_push_of_some _ q) (Nat.le_refl _) ?_, rfl, q _ (I.hok.fresh (Nat.le_refl _))⟩
  exact ⟨by rw [List.length_append]; exact hz, _, 0, r.append r2, Heap.get?_push_size _ rfl⟩
theorem hv_co {x : α} {y : β} (h : Hv K M te σ H x) (e : Dx.toX x = Dx.toX y) : Hv K M te σ H y := fun H1 a m Q q => h H1 a m Q fun v H2 e2 d => q v H2 e2 (by
  show Xp _ _ _ (Dx.toX y)
  rw [← e]; exact d)
def t4v (p : T4 α α α α) : Tup α := ⟨[p.a, p.b, p.c, p.d]⟩
def t3v (p : T3 α α α) : Tup α := ⟨[p.a, p.b, p.c]⟩
end
end Ly

namespace Ly
open PySem PySem.Spec PyProof.Rows L2 Evl
open PySem.W (Datum DatumOrd Tup T3 T4 minOf)

/-! ### objects of classes: made once, read from then on -/
section
variable {K : PySem.W.Frag} {Mc M : List Addr} {He H H1 : Hp} {is : Ims} {ms : Mus} {σ : L2.St} {te ta tb : TE} {tz : TS} {D : Ends}
variable {α β γ δ : Type} [DecidableEq α] [Dx α] [DecidableEq β] [Dx β] [DecidableEq γ] [Dx γ] [DecidableEq δ] [Dx δ]
/-- the class of a name -/
structure Ct (K : PySem.W.Frag) (c : Str) (C : Addr) : Prop where
  ns : PySem.W.nsIn K mainGlobals c = some (some (.ref C))
  cl : Cls K C
theorem Ct.one {c : Str} {C C' : Addr} (t : Ct K c C) (h : PySem.W.nsIn K mainGlobals c = some (some (.ref C'))) : C' = C := by
  have := t.ns.symm.trans h
  cases this
  rfl
theorem Dt.objv {v : V} {o : α} {c : Str} {C : Addr} {ns : List Str} {ds : List Xd} (t : Ct K c C) (h : Dt K H v o) (e : Dx.toX o = .obj c ns ds) :
    ∃ a dx fs, v = .ref a ∧ H a = some (.ins C dx fs) ∧ fs.map (·.1) = ns ∧ XpAll K H (fs.map (·.2)) ds := by
  have h' : Xp K H v (.obj c ns ds) := by rw [← e]; exact h
  cases h' with
  | obj q hp hn hv ha =>
    cases hv
    cases t.one q
    exact ⟨_, _, _, rfl, hp, hn, ha⟩
theorem Dt.ofObj {a C dx : Addr} {fs : List (Str × V)} {o : α} {c : Str} {ns : List Str} {ds : List Xd} (t : Ct K c C) (e : Dx.toX o = .obj c ns ds) (h : H a = some (.ins C dx fs)) (hn : fs.map (·.1) = ns) (ha : XpAll K H (fs.map (·.2)) ds) : Dt K H (.ref a) o := by
  show Xp K H (.ref a) (Dx.toX o)
  rw [e]
  exact .obj t.ns h hn rfl ha
theorem lookup_at : ∀ {fs : List (Str × V)} {ds : List Xd} {i : Nat} {f : Str} {d : Xd}, (fs.map (·.1)).Nodup → XpAll K H (fs.map (·.2)) ds → (fs.map (·.1))[i]? = some f → ds[i]? = some d → ∃ v, fs.lookup f = some v ∧ Xp K H v d
  | [], _, _, _, _, _, _, h, _ => by simp at h
  | (g, v) :: r, ds, i, f, d, nd, ha, hi, hd => by
    cases ha with
    | cons a b =>
      cases i with
      | zero =>
        have e1 : g = f := by simpa using hi
        have e2 := Option.some.inj (show some _ = some d from hd)
        subst e1 e2
        exact ⟨v, by simp, a⟩
      | succ i =>
        have nd' := List.nodup_cons.mp (show (g :: r.map (·.1)).Nodup from nd)
        have hi' : (r.map (·.1))[i]? = some f := by simpa using hi
        obtain ⟨u, h1, h2⟩ := lookup_at (i := i) nd'.2 b hi' (by simpa using hd)
        have hg : f ≠ g := fun z => nd'.1 (z ▸ List.mem_of_getElem? hi')
        exact ⟨u, by rw [List.lookup_cons]; rw [show (f == g) = false by simpa using hg]; exact h1, h2⟩
theorem lookup_none : ∀ {fs : List (Str × V)} {f : Str}, f ∉ fs.map (·.1) → fs.lookup f = none
  | [], _, _ => rfl
  | (g, v) :: r, f, h => by
    have h' : ¬ (f = g ∨ f ∈ r.map (·.1)) := by simpa using h
    rw [List.lookup_cons, show (f == g) = false by simpa using fun z => h' (.inl z)]
    exact lookup_none fun z => h' (.inr z)
theorem putF_new {f : Str} {v : V} : ∀ {fs : List (Str × V)}, f ∉ fs.map (·.1) → putF f v fs = fs ++ [(f, v)]
  | [], _ => rfl
  | (g, x) :: r, h => by
    have h' : ¬ (f = g ∨ f ∈ r.map (·.1)) := by simpa using h
    show (if g = f then (g, v) :: r else (g, x) :: putF f v r) = _
    rw [if_neg fun z => h' (.inl z.symm), putF_new fun z => h' (.inr z)]
    rfl
/-- o.f -/
theorem hv_fld {o : α} {x : β} {c f : Str} {C : Addr} {ns : List Str} {ds : List Xd} (i : Nat) (h : Hv K M te σ H o) (t : Ct K c C) (na : NoAttr K C f) (e : Dx.toX o = .obj c ns ds) (nd : ns.Nodup) (hn : ns[i]? = some f) (hd : ds[i]? = some (Dx.toX x)) :
    Hv K M (tFld K te f) σ H x := fun H1 e1 m Q q =>
  h H1 e1 m _ fun v H2 e2 d => by
    obtain ⟨a, dx, fs, rfl, hp, hf, ha⟩ := d.objv t e
    subst hf
    obtain ⟨u, h1, h2⟩ := lookup_at nd ha hn hd
    exact ⟨a, C, dx, fs, u, rfl, msk_le _ _ hp, t.cl, na, h1, q u H2 e2 h2⟩
/-- o.m(..) -/
theorem hv_meth {o : α} {args : γ → List Xd} {pre : γ → Prop} {F : γ → β} {tr : TA} {E : XK} {cn m : Str} {C : Addr} {ns : List Str} {ds : List Xd} {rest : List Xd} (c : γ) (h : Hv K M ta σ H o) (t : Ct K cn C) (e : Dx.toX o = .obj cn ns ds) (nm : m ∉ ns)
    (ha : HD K M tr σ H rest) (hargs : args c = Dx.toX o :: rest) (p : pre c) : Hv K M (tMeth C m (PrD K args pre F) [] E ta tr) σ H (F c) := fun H1 e1 mk Q q =>
  h H1 e1 mk _ fun v H2 e2 d => by
    obtain ⟨a, dx, fs, rfl, hp, hf, hx⟩ := Dt.objv t d e
    refine ⟨a, dx, fs, rfl, msk_le _ _ hp, lookup_none (by rw [hf]; exact nm), ?_⟩
    exact ha H2 (e1.trans e2) (mk.ex e2) _ fun vs H3 e3 ds' => ⟨M, c, (mk.ex e2).ex e3, by rw [hargs, List.append_nil]; exact .cons (dp_mono (msk_ex e3) d) ds', p, fun w H4 e4 d4 => q w H4 ((e2.trans e3).trans e4) d4⟩
/-- the promise of __init__: F tells the object -/
def PrI (K : PySem.W.Frag) (cn : Str) (args : γ → List Xd) (pre : γ → Prop) (F : γ → β) : Sp := fun vs H Q _ => ∃ (Mc : List Addr) (p C dx : Addr) (ws : List V) (c : γ), vs = .ref p :: ws ∧ MOk (p :: Mc) H ∧ p ∉ Mc ∧ PySem.W.nsIn K mainGlobals cn = some (some (.ref C)) ∧ H p = some (.ins C dx []) ∧ XpAll K (msk (p :: Mc) H) ws (args c) ∧ pre c ∧
  ∀ H', Ex (msk [p] H) H' → Dt K (msk Mc H') (.ref p) (F c) → Q .non H'
theorem hv_make {args : γ → List Xd} {pre : γ → Prop} {F : γ → β} {tr : TA} {E : XK} {cn : Str} {C : Addr} (c : γ) (t : Ct K cn C) (h : HD K M tr σ H (args c)) (p : pre c) : Hv K M (tMake C (PrI K cn args pre F) [] E tr) σ H (F c) := fun H1 e1 mk Q q =>
  h H1 e1 mk _ fun vs H2 e2 ds x dx hx hdx ne => by
    have m2 := mk.ex e2
    have hx2 : upd H2 dx (.own x) x = none := by rw [upd_ne (fun z => ne z.symm)]; exact hx
    have ea : Ex H2 (upd H2 dx (.own x)) := Ex.new hdx
    have eb : Ex (upd H2 dx (.own x)) (upd (upd H2 dx (.own x)) x (.ins C dx [])) := Ex.new hx2
    have hxM : x ∉ M := fun z => m2 x z hx
    refine ⟨M, x, C, dx, vs, c, by rw [List.append_nil], ?_, hxM, t.ns, upd_same, ?_, p, fun H' e' d => ⟨rfl, q _ _ ?_ d⟩⟩
    · intro l hl
      rcases List.mem_cons.mp hl with rfl | hl
      · rw [upd_same]; exact fun z => nomatch z
      · exact ((m2.ex ea).ex eb) l hl
    · exact dpa_mono ((msk_ex ea).trans (msk_new hx2)) ds
    · refine e2.trans fun a o ho => e' a o ?_
      have na : a ≠ x := fun z => by rw [z, hx] at ho; cases ho
      rw [msk_out (by simpa using na)]
      exact eb a o (ea a o ho)
theorem Sg.enterI {p C dx : Addr} (m : MOk (p :: Mc) H) (np : p ∉ Mc) (hp : H p = some (.ins C dx [])) (im : Im K (msk (p :: Mc) H) is) : Sg K Mc (msk [p] H) H is [(p, .ins C dx [])] := by
  refine ⟨Ex.refl _, fun l hl => ?_, List.nodup_cons.mpr ⟨by simp, List.nodup_nil⟩, im, ⟨⟨_, hp, [], rfl, rfl, .nil⟩, True.intro⟩⟩
  have : l ≠ p := fun z => np (z ▸ hl)
  rw [msk_out (by simpa using this)]
  exact m l (List.mem_cons_of_mem _ hl)
theorem Sg.ins (s : Sg K Mc He H is ms) {k : Nat} {l C dx : Addr} {nds : List (Str × Xd)} (e : ms[k]? = some (l, .ins C dx nds)) : ∃ fs, H l = some (.ins C dx fs) ∧ fs.map (·.1) = nds.map (·.1) ∧ XpAll K (msk (muA ms ++ Mc) H) (fs.map (·.2)) (nds.map (·.2)) := by
  obtain ⟨o, h1, fs, e1, h2, h3⟩ := s.mu.get e
  subst e1
  exact ⟨fs, h1, h2, h3⟩
/-- self.f = e, a new attribute -/
theorem z_fldG {k : Nat} {l C dx : Addr} {nds : List (Str × Xd)} {f cn : Str} {x : β} (s : Sg K Mc He H is ms) (e : ms[k]? = some (l, .ins C dx nds)) (t : Ct K cn C) (na : NoAttr K C f) (h : Hv K (muA ms ++ Mc) te σ H x) (ho : Ev ta σ H (.ref l)) (hz : nds.length < 1000) (hn : f ∉ nds.map (·.1))
    (q : ∀ y, y = x → ∀ H1, Sg K Mc He H1 is (ms.set k (l, .ins C dx (nds ++ [(f, Dx.toX y)]))) → tz D σ H1) : tSeq (sFld K ta te f) tz D σ H :=
  h H (Ex.refl H) s.mok _ fun v H1 e1 d => ho H1 e1 _ fun H2 e2 => by
    have s2 := (s.ex e1).ex e2
    obtain ⟨fs, h1, h2, h3⟩ := s2.ins e
    refine ⟨l, C, dx, fs, rfl, h1, t.cl, na, ?_, ?_⟩
    · have : (fs.map (·.1)).length = (nds.map (·.1)).length := by rw [h2]
      rw [List.length_map, List.length_map] at this
      omega
    · rw [putF_new (by rw [h2]; exact hn)]
      refine q x rfl _ (s2.set e ⟨_, rfl, ?_, ?_⟩)
      · rw [List.map_append, List.map_append, h2]; rfl
      · rw [List.map_append, List.map_append]
        exact dpa_app h3 (.cons (Dt.mono (msk_ex e2) d) .nil)
/-- self.f, of an own object -/
theorem hv_fldM {k : Nat} (i : Nat) {l C dx : Addr} {nds : List (Str × Xd)} {f cn : Str} {x : β} (s : Sg K Mc He H is ms) (e : ms[k]? = some (l, .ins C dx nds)) (t : Ct K cn C) (na : NoAttr K C f) (ho : Ev ta σ H (.ref l)) (nd : (nds.map (·.1)).Nodup) (hi : nds[i]? = some (f, Dx.toX x)) :
    Hv K (muA ms ++ Mc) (tFld K ta f) σ H x := fun H1 e1 m Q q =>
  ho H1 e1 _ fun H2 e2 => by
    have s2 := (s.ex e1).ex e2
    obtain ⟨fs, h1, h2, h3⟩ := s2.ins e
    obtain ⟨v, hv, hx⟩ := lookup_at (i := i) (f := f) (d := Dx.toX x) (by rw [h2]; exact nd) h3 (by rw [h2, List.getElem?_map, hi]; rfl) (by rw [List.getElem?_map, hi]; rfl)
    exact ⟨l, C, dx, fs, v, rfl, h1, t.cl, na, hv, q v H2 e2 hx⟩
/-- an own object, no longer changed -/
theorem Sg.frzI {l C dx : Addr} {nds : List (Str × Xd)} {cn : Str} (o : α) (t : Ct K cn C) (e : Dx.toX o = .obj cn (nds.map (·.1)) (nds.map (·.2))) (s : Sg K Mc He H is ((l, .ins C dx nds) :: ms)) : Sg K Mc He H ((.ref l, Dx.toX o) :: is) ms := by
  have sub : Ex (msk (muA ((l, Mv.ins C dx nds) :: ms) ++ Mc) H) (msk (muA ms ++ Mc) H) := msk_sub fun a ha => List.mem_cons_of_mem _ ha
  have nd := List.nodup_cons.mp s.nd
  obtain ⟨⟨u, h1, fs, e1, h2, h3⟩, h4⟩ := s.mu
  subst e1
  have nl : l ∉ muA ms ++ Mc := fun z => (List.mem_append.mp z).elim nd.1 (s.notc List.mem_cons_self)
  refine ⟨s.ext.trans (msk_sub fun a ha => List.mem_cons_of_mem _ ha), s.okc, nd.2, ⟨?_, s.im.mono sub⟩, h4.mono sub (Ex.refl H)⟩
  exact Dt.ofObj t e (by rw [msk_out nl]; exact h1) h2 (dpa_mono sub h3)
/-! ### reversed(range(n)), xs[::-1], what is in a tuple -/
def HRg (M : List Addr) (tr : L2.St → Hp → (Int → Int → Hp → Prop) → Prop) (σ : L2.St) (H : Hp) (a b : Int) : Prop := ∀ H1, Ex H H1 → MOk M H1 → ∀ Q : Int → Int → Hp → Prop, (∀ H2, Ex H1 H2 → Q a b H2) → tr σ H1 Q
theorem hv_revL {xs : List α} (h : HS K M te σ H xs) : Hv K M (tRevL K te) σ H xs.reverse := fun H1 e m Q q =>
  h H1 e m _ fun a vs H2 e2 s d => ⟨a, vs, rfl, s, fun p hp => by
    have e3 : Ex H2 (upd H2 p (.lst vs.reverse)) := Ex.new hp
    refine q _ _ (e2.trans e3) (Dt.ofList (SqL.of (msk_at (m.ex e2) hp)) ?_)
    have key : ∀ {us : List V} {zs : List α} {H : Hp}, Dts K H us zs → Dts K H us.reverse zs.reverse := by
      intro us zs
      induction zs generalizing us with
      | nil => intro H h; cases (show XpAll _ _ _ [] from h); exact Dts.nil
      | cons z zs ih =>
        intro H h
        cases (show XpAll _ _ _ (_ :: _) from h) with
        | cons a b =>
          rw [List.reverse_cons, List.reverse_cons]
          exact (ih b).app (Dts.cons a Dts.nil)
    exact (key d).mono (msk_ex e3)⟩
theorem hv_inVS {a : Str} {xs : List Str} (neg : Bool) (ha : Hv K M ta σ H a) (hb : Hv K M tb σ H (Tup.mk xs)) : Hv K M (tOp (rIn K neg) ta tb) σ H (if neg then !decide (a ∈ xs) else decide (a ∈ xs)) := fun H1 e m Q q =>
  ha H1 e m _ fun v H2 e2 d => hb H2 (e.trans e2) (m.ex e2) _ fun u H3 e3 d' => by
    obtain ⟨l, vs, rfl, s, ds⟩ := d'.tupv
    have ev := dts_strs ds
    subst ev
    have e1 := d.str
    subst e1
    refine ⟨l, xs.map V.str, rfl, .inr (ex_t msk_le s), rfl, flat_strs xs, ?_⟩
    rw [inV_strs]
    exact q _ H3 (e2.trans e3) (Dt.ofBool _)
theorem for_rangeC {lo c : Int} {n : Nat} {g : TG} {tb : TS} {D : Ends} {σ : L2.St} {H : Hp} (Pv : Nat → L2.St → Hp → Prop) (h0 : Pv 0 σ H)
    (hs : ∀ (i : Nat) σ H, i < n → Pv i σ H → g (.int (lo + (i : Int) * c)) σ H fun σ2 H2 => tb { D with nx := Pv (i + 1), ct := Pv (i + 1), bk := D.nx } σ2 H2) (hd : ∀ σ H, Pv n σ H → D.nx σ H) :
    ∃ W : Nat → Nat → L2.St → Hp → Prop, (∃ m, W 0 m σ H) ∧ ∀ i m σ H, W i m σ H →
      ((Itc lo c n).stop i H ∧ D.nx σ H) ∨ ((Itc lo c n).go i H ∧ ∃ N : L2.St → Hp → Prop, (∀ σ' H', N σ' H' → ∃ m', m' < m ∧ W (i + 1) m' σ' H') ∧ ∀ x H', (Itc lo c n).yld i H x H' → g x σ H' fun σ2 H2 => tb { D with nx := N, ct := N, bk := D.nx } σ2 H2) := by
  refine ⟨fun i m σ H => m = n - i ∧ i ≤ n ∧ Pv i σ H, ⟨n, by simp, Nat.zero_le _, h0⟩, ?_⟩
  rintro i m σ H ⟨rfl, hi, p⟩
  by_cases hlt : i < n
  · refine .inr ⟨hlt, Pv (i + 1), fun σ' H' p' => ⟨n - (i + 1), by omega, rfl, hlt, p'⟩, fun x H' y => ?_⟩
    obtain ⟨e, y⟩ := y
    subst e y
    exact hs i σ _ hlt p
  · have e : i = n := by omega
    subst e
    exact .inl ⟨Nat.le_refl _, hd σ H p⟩
theorem zq_forRR {tu : TS} {j : Nat} {n : Int} (s : Sg K Mc He H is ms) (h : Hv K (muA ms ++ Mc) te σ H n) (hn : 0 ≤ n ∧ n ≤ 100000) (Pv : Nat → L2.St → Hp → Prop) (h0 : ∀ H1, Sg K Mc He H1 is ms → Pv 0 σ H1)
    (hs : ∀ (i : Nat) (x : Int) σ' H', x = n - 1 - ((0 : Int) + (i : Int)) → i < n.toNat → Pv i σ' H' → tu { D with nx := Pv (i + 1), ct := Pv (i + 1), bk := tz D } (σ'.set j (some (.int x))) H') (hd : ∀ σ' H', Pv n.toNat σ' H' → tz D σ' H') : tSeq (tFor (iRevR (tRg1 te)) (gName j) tu) tz D σ H :=
  h H (Ex.refl H) s.mok _ fun v H1 e d => by
    refine ⟨n, d.int, by omega, by omega, by omega, by omega, for_rangeC (D := { D with nx := tz D }) Pv (h0 H1 (s.ex e)) (fun i σ' H' hi p => ?_) (fun σ' H' p => hd σ' H' (by rw [Int.sub_zero] at p; exact p))⟩
    rw [Int.sub_zero] at hi
    have e0 : 0 + (((n - 0).toNat : Nat) : Int) - 1 + (i : Int) * -1 = n - 1 - ((0 : Int) + (i : Int)) := by omega
    show tu { D with nx := Pv (i + 1), ct := Pv (i + 1), bk := tz D } (σ'.set j (some (.int (0 + (((n - 0).toNat : Nat) : Int) - 1 + (i : Int) * -1)))) H'
    rw [e0]
    exact hs i _ σ' H' rfl (by omega) p
end
end Ly

namespace Ly
open PySem PySem.Spec PyProof.Rows L2 Evl
open PySem.W (Datum DatumOrd Tup T3 T4 minOf)
/-! ### the items of a text: tuples of several shapes -/
inductive Itm where
  | box (w n : Int) (g : List Int)
  | glue (w st sh : Int) (fr : Bool)
  | pen (c : Int)
  | hyp (w n c : Int)
  | forced
  | note (n : Int)
  | label (s : Str)
  | page (w n f : Int) (s : Str)
  deriving DecidableEq
def Itm.kind : Itm → Str
  | .box _ _ _ => Str.ofString "box"
  | .glue _ _ _ _ => Str.ofString "glue"
  | .pen _ => Str.ofString "penalty"
  | .hyp _ _ _ => Str.ofString "hyphen"
  | .forced => Str.ofString "forced"
  | .note _ => Str.ofString "note"
  | .label _ => Str.ofString "label"
  | .page _ _ _ _ => Str.ofString "page"
def Itm.tag : Itm → Nat
  | .box _ _ _ => 0
  | .glue _ _ _ _ => 1
  | .pen _ => 2
  | .hyp _ _ _ => 3
  | .forced => 4
  | .note _ => 5
  | .label _ => 6
  | .page _ _ _ _ => 7
def Itm.at1 : Itm → Int
  | .box w _ _ => w | .glue w _ _ _ => w | .pen c => c | .hyp w _ _ => w | .note n => n | .page w _ _ _ => w | _ => 0
def Itm.at2 : Itm → Int
  | .box _ n _ => n | .glue _ s _ _ => s | .hyp _ n _ => n | .page _ n _ _ => n | _ => 0
def Itm.at3 : Itm → Int
  | .glue _ _ s _ => s | .hyp _ _ c => c | .page _ _ f _ => f | _ => 0
def Itm.fr : Itm → Bool
  | .glue _ _ _ b => b | _ => false
def Itm.gl : Itm → Tup Int
  | .box _ _ g => ⟨g⟩ | _ => ⟨[]⟩
def Itm.lab : Itm → Str
  | .page _ _ _ s => s | _ => Str.ofString ""
def Itm.x : Itm → List Xd
  | .box w n g => [.str (Str.ofString "box"), .int w, .int n, .tuple (g.map .int)]
  | .glue w s h b => [.str (Str.ofString "glue"), .int w, .int s, .int h, .bool b]
  | .pen c => [.str (Str.ofString "penalty"), .int c]
  | .hyp w n c => [.str (Str.ofString "hyphen"), .int w, .int n, .int c]
  | .forced => [.str (Str.ofString "forced")]
  | .note n => [.str (Str.ofString "note"), .int n]
  | .label s => [.str (Str.ofString "label"), .str s]
  | .page w n f s => [.str (Str.ofString "page"), .int w, .int n, .int f, .str s]
instance : Dx Itm := ⟨fun i => .tuple i.x⟩
instance : SomeX Itm := ⟨fun _ e => by cases e⟩
theorem Itm.tag_le (i : Itm) : i.tag ≤ 7 := by cases i <;> simp only [Itm.tag] <;> decide
theorem kd_box (i : Itm) : (i.kind = Str.ofString "box") = (i.tag = 0) := by
  cases i <;> simp only [Itm.kind, Itm.tag] <;> exact propext ⟨fun h => by first | rfl | (revert h; decide +kernel), fun h => by first | rfl | (revert h; decide)⟩
theorem kd_glue (i : Itm) : (i.kind = Str.ofString "glue") = (i.tag = 1) := by
  cases i <;> simp only [Itm.kind, Itm.tag] <;> exact propext ⟨fun h => by first | rfl | (revert h; decide +kernel), fun h => by first | rfl | (revert h; decide)⟩
theorem kd_pen (i : Itm) : (i.kind = Str.ofString "penalty") = (i.tag = 2) := by
  cases i <;> simp only [Itm.kind, Itm.tag] <;> exact propext ⟨fun h => by first | rfl | (revert h; decide +kernel), fun h => by first | rfl | (revert h; decide)⟩
theorem kd_hyp (i : Itm) : (i.kind = Str.ofString "hyphen") = (i.tag = 3) := by
  cases i <;> simp only [Itm.kind, Itm.tag] <;> exact propext ⟨fun h => by first | rfl | (revert h; decide +kernel), fun h => by first | rfl | (revert h; decide)⟩
theorem kd_forced (i : Itm) : (i.kind = Str.ofString "forced") = (i.tag = 4) := by
  cases i <;> simp only [Itm.kind, Itm.tag] <;> exact propext ⟨fun h => by first | rfl | (revert h; decide +kernel), fun h => by first | rfl | (revert h; decide)⟩
theorem kd_note (i : Itm) : (i.kind = Str.ofString "note") = (i.tag = 5) := by
  cases i <;> simp only [Itm.kind, Itm.tag] <;> exact propext ⟨fun h => by first | rfl | (revert h; decide +kernel), fun h => by first | rfl | (revert h; decide)⟩
theorem kd_label (i : Itm) : (i.kind = Str.ofString "label") = (i.tag = 6) := by
  cases i <;> simp only [Itm.kind, Itm.tag] <;> exact propext ⟨fun h => by first | rfl | (revert h; decide +kernel), fun h => by first | rfl | (revert h; decide)⟩
theorem kd_page (i : Itm) : (i.kind = Str.ofString "page") = (i.tag = 7) := by
  cases i <;> simp only [Itm.kind, Itm.tag] <;> exact propext ⟨fun h => by first | rfl | (revert h; decide +kernel), fun h => by first | rfl | (revert h; decide)⟩
section
variable {K : PySem.W.Frag} {Mc M : List Addr} {He H H1 : Hp} {is : Ims} {ms : Mus} {σ : L2.St} {te ta tb : TE} {tz : TS} {D : Ends} {i : Itm}
variable {α β γ δ : Type} [DecidableEq α] [Dx α] [DecidableEq β] [Dx β]
theorem hv_tupX {ds : List Xd} {tr : TA} (y : α) (h : HD K M tr σ H ds) (hl : ds.length ≤ 100000) (e : Dx.toX y = .tuple ds) : Hv K M (tTup tr) σ H y := fun H1 e1 m Q q =>
  h H1 e1 m _ fun vs H2 e2 d => ⟨sz_of (by rw [dpa_len d]; exact hl), fun p hp => by
    have e3 : Ex H2 (upd H2 p (.tup vs)) := Ex.new hp
    refine q _ _ (e2.trans e3) ?_
    show Xp _ _ _ (Dx.toX y)
    rw [e]
    exact .tup (SqT.of (msk_at (m.ex e2) hp)) (dpa_mono (msk_ex e3) d)⟩
theorem hv_atX {x : α} {ds : List Xd} {y : β} (k : Nat) (h : Hv K M te σ H x) (e : Dx.toX x = .tuple ds) (hd : ds[k]? = some (Dx.toX y)) : Hv K M (tOp (rIxT K) te (tC (.int (k : Int)))) σ H y := fun H1 e1 m Q q =>
  h H1 e1 m _ fun v H2 e2 d => by
    have d' : Xp K (msk M H2) v (.tuple ds) := by rw [← e]; exact d
    cases d' with
    | tup s a =>
      obtain ⟨w, h1, h2⟩ := dpa_at a hd
      exact ⟨_, _, (k : Int), w, rfl, rfl, ex_t msk_le s, at_of (j := k) rfl h1, q w H2 e2 h2⟩
theorem hv_it0 (h : Hv K M te σ H i) : Hv K M (tOp (rIxT K) te (tC (.int 0))) σ H i.kind := hv_atX 0 h rfl (by cases i <;> rfl)
theorem hv_it1 (h : Hv K M te σ H i) (s : i.tag ≠ 4 ∧ i.tag ≠ 6) : Hv K M (tOp (rIxT K) te (tC (.int 1))) σ H i.at1 := hv_atX 1 h rfl (by cases i <;> first | rfl | (exfalso; simp [Itm.tag] at s))
theorem hv_it2 (h : Hv K M te σ H i) (s : i.tag ≠ 2 ∧ i.tag ≠ 4 ∧ i.tag ≠ 5 ∧ i.tag ≠ 6) : Hv K M (tOp (rIxT K) te (tC (.int 2))) σ H i.at2 := hv_atX 2 h rfl (by cases i <;> first | rfl | (exfalso; simp [Itm.tag] at s))
theorem hv_it3 (h : Hv K M te σ H i) (s : i.tag = 1 ∨ i.tag = 3 ∨ i.tag = 7) : Hv K M (tOp (rIxT K) te (tC (.int 3))) σ H i.at3 := hv_atX 3 h rfl (by cases i <;> first | rfl | (exfalso; simp [Itm.tag] at s))
theorem hv_it4 (h : Hv K M te σ H i) (s : i.tag = 1) : Hv K M (tOp (rIxT K) te (tC (.int 4))) σ H i.fr := hv_atX 4 h rfl (by cases i <;> first | rfl | (exfalso; simp [Itm.tag] at s))
theorem hv_itg (h : Hv K M te σ H i) (s : i.tag = 0) : Hv K M (tOp (rIxT K) te (tC (.int 3))) σ H i.gl := hv_atX 3 h rfl (by cases i <;> first | rfl | (exfalso; simp [Itm.tag] at s))
theorem hv_itl (h : Hv K M te σ H i) (s : i.tag = 7) : Hv K M (tOp (rIxT K) te (tC (.int 4))) σ H i.lab := hv_atX 4 h rfl (by cases i <;> first | rfl | (exfalso; simp [Itm.tag] at s))
theorem hv_neB {i j : Bool} (ha : Hv K M ta σ H i) (hb : Hv K M tb σ H j) : Hv K M (tOp rNe ta tb) σ H (!decide (i = j)) := fun H1 e m Q q =>
  ha H1 e m _ fun v H2 e2 d => hb H2 (e.trans e2) (m.ex e2) _ fun u H3 e3 d' => by
    rw [d.bool, d'.bool]
    exact ⟨rfl, q _ H3 (e2.trans e3) (by rw [show decide (V.bl i = V.bl j) = decide (i = j) from decide_eq_decide.mpr ⟨V.bl.inj, fun z => by rw [z]⟩]; exact Dt.ofBool _)⟩
/-- a tuple of texts of the module -/
theorem hv_gtup {a : Addr} {xs : List Str} (h : ∀ H, SqT K H a (xs.map V.str)) : Hv K M (tC (.ref a)) σ H (Tup.mk xs) := fun H1 e1 m Q q => by
  refine q _ H1 (Ex.refl _) (Dt.ofTupv (h _) ?_)
  have key : ∀ (ys : List Str) (H : Hp), Dts K H (ys.map V.str) ys := by
    intro ys
    induction ys with
    | nil => intro H; exact Dts.nil
    | cons y ys ih => intro H; exact Dts.cons (Dt.ofStr y) (ih H)
  exact key xs _
end
theorem of_or {a b : Bool} (h : (a || b) = true) : a = true ∨ b = true := by simpa using h
end Ly

namespace Ly
open PySem PySem.Spec PyProof.Rows L2 Evl
open PySem.W (Datum DatumOrd Tup T3 T4 minOf)
/-! ### loops as tables and searches -/
theorem foldl_seq {α S : Type} {f : S → α → S} (xs : List α) (st : Nat → S) (h : ∀ i x, xs[i]? = some x → f (st i) x = st (i + 1)) : xs.foldl f (st 0) = st xs.length := by
  induction xs generalizing st with
  | nil => rfl
  | cons x xs ih =>
    rw [List.foldl_cons, h 0 x rfl]
    rw [ih (fun i => st (i + 1)) (fun i y hy => h (i + 1) y (by simpa using hy))]
    rfl
theorem snoc_at {α : Type} {st : Nat → List α} {w : Nat → α} (h0 : st 0 = [w 0]) (h : ∀ i, st (i + 1) = st i ++ [w (i + 1)]) : ∀ n, st n = (List.range (n + 1)).map w
  | 0 => by rw [h0]; rfl
  | n + 1 => by rw [h, snoc_at h0 h n, List.range_succ (n := n + 1), List.map_append]; rfl
theorem tab_len {α : Type} (w : Nat → α) (n : Nat) : ((List.range n).map w).length = n := by rw [List.length_map, List.length_range]
theorem tab_at {α : Type} (w : Nat → α) {n j : Nat} (d : α) (h : j < n) : ((List.range n).map w).getD j d = w j := by
  rw [List.getD_eq_getElem?_getD, List.getElem?_map, List.getElem?_range h]; rfl
theorem tab_last {α : Type} (w : Nat → α) (n : Nat) (d : α) : ((List.range (n + 1)).map w).getD (((List.range (n + 1)).map w).length - 1) d = w n := by
  rw [tab_len, Nat.add_sub_cancel, tab_at w d (Nat.lt_succ_self n)]
theorem tab_snoc {α : Type} (w : Nat → α) (n : Nat) : (List.range (n + 1)).map w ++ [w (n + 1)] = (List.range (n + 1 + 1)).map w := by
  rw [List.range_succ (n := n + 1), List.map_append]; rfl
theorem tab_rev {α : Type} (w : Nat → α) {n j : Nat} (d : α) (h : j ≤ n) : (((List.range (n + 1)).map w).reverse).getD j d = w (n - j) := by
  rw [List.getD_eq_getElem?_getD, List.getElem?_reverse (by rw [tab_len]; omega), tab_len, ← List.getD_eq_getElem?_getD, tab_at w d (by omega), show n + 1 - 1 - j = n - j by omega]
theorem loopNR_all' {ρ S : Type} {f : S → Int → Lp ρ S} {s : S} : ∀ (n : Nat) (lo : Int), (∀ i : Nat, i < n → f s (lo + (i : Int)) = .nxt s) → loopNR f n lo s = .inr s
  | 0, lo, _ => rfl
  | n + 1, lo, h => by
    have h0 := h 0 (Nat.succ_pos n)
    rw [show lo + ((0 : Nat) : Int) = lo by omega] at h0
    rw [loopNR]
    rw [h0]
    exact loopNR_all' n (lo + 1) fun i hi => by rw [show lo + 1 + (i : Int) = lo + ((i + 1 : Nat) : Int) by omega]; exact h (i + 1) (by omega)
/-- a search over numbers: the first that ends it -/
theorem loopNR_any {ρ S : Type} {f : S → Int → Lp ρ S} {s : S} {r : ρ} : ∀ (n : Nat) (lo : Int), (∀ i : Nat, i < n → f s (lo + (i : Int)) = .nxt s ∨ f s (lo + (i : Int)) = .ret r) → (∃ i : Nat, i < n ∧ f s (lo + (i : Int)) = .ret r) → loopNR f n lo s = .inl r
  | 0, lo, _, ⟨i, hi, _⟩ => absurd hi (Nat.not_lt_zero i)
  | n + 1, lo, h, ⟨i, hi, e⟩ => by
    have h0 := h 0 (Nat.succ_pos n)
    rw [show lo + ((0 : Nat) : Int) = lo by omega] at h0
    rw [loopNR]
    rcases h0 with h0 | h0
    · rw [h0]
      cases i with
      | zero => rw [show lo + ((0 : Nat) : Int) = lo by omega, h0] at e; cases e
      | succ i =>
        exact loopNR_any n (lo + 1) (fun j hj => by rw [show lo + 1 + (j : Int) = lo + ((j + 1 : Nat) : Int) by omega]; exact h (j + 1) (by omega)) ⟨i, by omega, by rw [show lo + 1 + (i : Int) = lo + ((i + 1 : Nat) : Int) by omega]; exact e⟩
    · rw [h0]
theorem loopL_all' {α ρ S : Type} {f : S → α → Lp ρ S} {s : S} : ∀ (xs : List α), (∀ x ∈ xs, f s x = .nxt s) → loopL f xs s = .inr s
  | [], _ => rfl
  | x :: xs, h => by
    rw [loopL]
    rw [h x List.mem_cons_self]
    exact loopL_all' xs fun y hy => h y (List.mem_cons_of_mem _ hy)
theorem loopL_any {α ρ S : Type} {f : S → α → Lp ρ S} {s : S} {r : ρ} : ∀ (xs : List α), (∀ x ∈ xs, f s x = .nxt s ∨ f s x = .ret r) → (∃ x ∈ xs, f s x = .ret r) → loopL f xs s = .inl r
  | [], _, ⟨_, h, _⟩ => by cases h
  | x :: xs, h, ⟨y, hy, e⟩ => by
    rw [loopL]
    rcases h x List.mem_cons_self with h0 | h0
    · rw [h0]
      rcases List.mem_cons.mp hy with rfl | hy
      · rw [h0] at e; cases e
      · exact loopL_any xs (fun z hz => h z (List.mem_cons_of_mem _ hz)) ⟨y, hy, e⟩
    · rw [h0]
theorem getD_get {α : Type} {xs : List α} {i : Nat} (d : α) (h : i < xs.length) : xs[i]? = some (xs.getD i d) := by
  rw [List.getD_eq_getElem?_getD, List.getElem?_eq_getElem h]; rfl
theorem getD_map {α β : Type} {xs : List α} {i : Nat} (f : α → β) (d : α) (e : β) (h : i < xs.length) : (xs.map f).getD i e = f (xs.getD i d) := by
  rw [List.getD_eq_getElem?_getD, List.getElem?_map, getD_get d h]; rfl
theorem irng_getD {lo : Int} {n i : Nat} (d : Int) (h : i < n) : (irng lo n).getD i d = lo + (i : Int) := by
  rw [List.getD_eq_getElem?_getD, irng_get h]; rfl
/-- what a part of a list has -/
theorem cut_any {xs : List α} {P : α → Bool} {a b : Nat} (d : α) (h : a ≤ b) (hb : b ≤ xs.length) : (cutL xs (some (a : Int)) (some (b : Int))).any P = true ↔ ∃ i, a ≤ i ∧ i < b ∧ P (xs.getD i d) = true := by
  rw [cutL_in, Nat.min_eq_left (Nat.le_trans h hb), Nat.min_eq_left hb, List.any_eq_true]
  constructor
  · rintro ⟨x, hx, p⟩
    obtain ⟨k, hk⟩ := List.getElem?_of_mem hx
    rw [List.getElem?_take] at hk
    split at hk
    · rw [List.getElem?_drop] at hk
      refine ⟨a + k, by omega, by omega, ?_⟩
      rw [List.getD_eq_getElem?_getD, hk]
      exact p
    · cases hk
  · rintro ⟨i, h1, h2, p⟩
    refine ⟨xs.getD i d, ?_, p⟩
    refine List.mem_of_getElem? (i := i - a) ?_
    rw [List.getElem?_take, if_pos (by omega), List.getElem?_drop, show a + (i - a) = i by omega]
    exact getD_get d (by omega)
/-! ### the first from a place on -/
def wv (marks : List Bool) (b : Int) : Nat → Int
  | 0 => b
  | k + 1 => if marks.getD (marks.length - (k + 1)) false = true then ((marks.length - (k + 1) : Nat) : Int) else wv marks b k
/-- v is the first place from j on with a mark, or b -/
def First (marks : List Bool) (b : Int) (j : Nat) (v : Int) : Prop :=
  (v = b ∧ ∀ i, j ≤ i → i < marks.length → marks.getD i false = false) ∨ (∃ i : Nat, v = (i : Int) ∧ j ≤ i ∧ i < marks.length ∧ marks.getD i false = true ∧ ∀ i', j ≤ i' → i' < i → marks.getD i' false = false)
theorem wv_first (marks : List Bool) (b : Int) : ∀ k, k ≤ marks.length → First marks b (marks.length - k) (wv marks b k)
  | 0, _ => .inl ⟨rfl, fun i h1 h2 => by omega⟩
  | k + 1, h => by
    unfold wv
    by_cases q : marks.getD (marks.length - (k + 1)) false = true
    · rw [if_pos q]
      exact .inr ⟨_, rfl, Nat.le_refl _, by omega, q, fun i' h1 h2 => by omega⟩
    · rw [if_neg q]
      have q' : marks.getD (marks.length - (k + 1)) false = false := by simpa using q
      have step : ∀ i, marks.length - (k + 1) ≤ i → i = marks.length - (k + 1) ∨ marks.length - k ≤ i := fun i h => by omega
      rcases wv_first marks b k (by omega) with ⟨e, h1⟩ | ⟨i, e, h1, h2, h3, h4⟩
      · refine .inl ⟨e, fun i a c => ?_⟩
        rcases step i a with rfl | z
        · exact q'
        · exact h1 i z c
      · refine .inr ⟨i, e, by omega, h2, h3, fun i' a c => ?_⟩
        rcases step i' a with rfl | z
        · exact q'
        · exact h4 i' z c
/-- the place behind the last one before j with a mark, or 0 -/
def kb (marks : Nat → Bool) : Nat → Int
  | 0 => 0
  | j + 1 => if marks j = true then ((j : Nat) : Int) + 1 else kb marks j
def Last (marks : Nat → Bool) (j : Nat) (v : Int) : Prop :=
  (v = 0 ∧ ∀ i, i < j → marks i = false) ∨ (∃ i : Nat, v = (i : Int) + 1 ∧ i < j ∧ marks i = true ∧ ∀ i', i < i' → i' < j → marks i' = false)
theorem kb_last (marks : Nat → Bool) : ∀ j, Last marks j (kb marks j)
  | 0 => .inl ⟨rfl, fun i h => absurd h (Nat.not_lt_zero i)⟩
  | j + 1 => by
    unfold kb
    by_cases q : marks j = true
    · rw [if_pos q]
      exact .inr ⟨j, rfl, Nat.lt_succ_self j, q, fun i' h1 h2 => by omega⟩
    · rw [if_neg q]
      have q' : marks j = false := by simpa using q
      rcases kb_last marks j with ⟨e, h1⟩ | ⟨i, e, h1, h2, h3⟩
      · refine .inl ⟨e, fun i a => ?_⟩
        rcases Nat.lt_succ_iff_lt_or_eq.mp a with z | rfl
        · exact h1 i z
        · exact q'
      · refine .inr ⟨i, e, by omega, h2, fun i' a c => ?_⟩
        rcases Nat.lt_succ_iff_lt_or_eq.mp c with z | rfl
        · exact h3 i' a z
        · exact q'
end Ly

namespace Ly
open PySem PySem.Spec PyProof.Rows L2 Evl
open PySem.W (Datum DatumOrd Tup T3 T4 minOf)
/-! ### items are data: == -/
def Itm.d : Itm → List PyData
  | .box w n g => [.str (Str.ofString "box"), .int w, .int n, .tuple (g.map .int)]
  | .glue w s h b => [.str (Str.ofString "glue"), .int w, .int s, .int h, .bool b]
  | .pen c => [.str (Str.ofString "penalty"), .int c]
  | .hyp w n c => [.str (Str.ofString "hyphen"), .int w, .int n, .int c]
  | .forced => [.str (Str.ofString "forced")]
  | .note n => [.str (Str.ofString "note"), .int n]
  | .label s => [.str (Str.ofString "label"), .str s]
  | .page w n f s => [.str (Str.ofString "page"), .int w, .int n, .int f, .str s]
theorem Itm.d_kind (i : Itm) : ∃ r, i.d = .str i.kind :: r := by cases i <;> exact ⟨_, rfl⟩
theorem kind_tag {i j : Itm} (h : i.kind = j.kind) : i.tag = j.tag := by
  have k0 := kd_box i; have k1 := kd_glue i; have k2 := kd_pen i; have k3 := kd_hyp i; have k4 := kd_forced i; have k5 := kd_note i; have k6 := kd_label i; have k7 := kd_page i
  rw [h] at k0 k1 k2 k3 k4 k5 k6 k7
  rw [kd_box] at k0
  rw [kd_glue] at k1
  rw [kd_pen] at k2
  rw [kd_hyp] at k3
  rw [kd_forced] at k4
  rw [kd_note] at k5
  rw [kd_label] at k6
  rw [kd_page] at k7
  have t1 := Itm.tag_le i
  have t2 := Itm.tag_le j
  have e0 := k0.to_iff; have e1 := k1.to_iff; have e2 := k2.to_iff; have e3 := k3.to_iff; have e4 := k4.to_iff; have e5 := k5.to_iff; have e6 := k6.to_iff; have e7 := k7.to_iff
  omega
theorem eqvI (a b : Int) : PyData.eqv (.int a) (.int b) = decide (a = b) := Datum.eqv (α := Int) a b
theorem eqvS (a b : Str) : PyData.eqv (.str a) (.str b) = decide (a = b) := Datum.eqv (α := Str) a b
theorem eqvB (a b : Bool) : PyData.eqv (.bool a) (.bool b) = decide (a = b) := Datum.eqv (α := Bool) a b
theorem eqvG (a b : List Int) : PyData.eqv (.tuple (a.map .int)) (.tuple (b.map .int)) = decide (a = b) := by
  have := Datum.eqv (α := Tup Int) ⟨a⟩ ⟨b⟩
  refine Eq.trans this (decide_eq_decide.mpr ⟨fun e => by cases e; rfl, fun e => by rw [e]⟩)
theorem Itm.eqv (a b : Itm) : PyData.eqvAll a.d b.d = decide (a = b) := by
  by_cases h : a.kind = b.kind
  · have ht := kind_tag h
    cases a <;> cases b <;> first | (exfalso; simp [Itm.tag] at ht; done) | (simp only [Itm.d, PyData.eqvAll, eqvI, eqvS, eqvB, eqvG]; simp [Bool.and_assoc])
  · obtain ⟨r, e⟩ := a.d_kind
    obtain ⟨r', e'⟩ := b.d_kind
    rw [e, e', PyData.eqvAll, eqvS, decide_eq_false h, Bool.false_and]
    exact (decide_eq_false fun z => h (by rw [z])).symm
instance : Datum Itm where
  toD i := .tuple i.d
  plain i := by
    have hg : ∀ g : List Int, PyData.plain (.tuple (g.map .int)) = true := fun g => Datum.plain (α := Tup Int) ⟨g⟩
    cases i <;> simp only [Itm.d, PyData.plain, PyData.plainAll, Bool.and_self, Bool.and_true, Bool.true_and]
    rename_i w n g
    have := hg g
    simpa only [PyData.plain] using this
  eqv a b := by simp only [PyData.eqv]; exact Itm.eqv a b
  depth := 2
  depth_le i := by
    have hg : ∀ g : List Int, PyData.depth (.tuple (g.map .int)) ≤ 1 := fun g => Datum.depth_le (α := Tup Int) ⟨g⟩
    cases i <;> simp only [Itm.d, PyData.depth, PyData.depthAll] <;> try (first | decide | omega)
    rename_i w n g
    have := hg g
    simp only [PyData.depth] at this
    omega
theorem ints_link {K : PySem.W.Frag} {H : Hp} : ∀ {g : List Int} {vs : List V}, XpAll K H vs (g.map Xd.int) → DpAll K H vs (g.map PyData.int)
  | [], _, h => by cases h; exact .nil
  | x :: xs, _, h => by
    cases h with
    | cons a b => cases a; exact .cons (.int _) (ints_link b)
instance : DxD Itm := ⟨fun {K H v i} h => by
  cases h with
  | tup s a =>
    refine .tup s ?_
    cases i with
    | box w n g =>
      cases a with | cons a1 a => cases a with | cons a2 a => cases a with | cons a3 a => cases a with | cons a4 a =>
      cases a
      cases a1; cases a2; cases a3
      cases a4 with | tup s2 b => exact .cons (.str _) (.cons (.int _) (.cons (.int _) (.cons (.tup s2 (ints_link b)) .nil)))
    | glue w s h b =>
      cases a with | cons a1 a => cases a with | cons a2 a => cases a with | cons a3 a => cases a with | cons a4 a => cases a with | cons a5 a =>
      cases a
      cases a1; cases a2; cases a3; cases a4; cases a5
      exact .cons (.str _) (.cons (.int _) (.cons (.int _) (.cons (.int _) (.cons (.bl _) .nil))))
    | pen c =>
      cases a with | cons a1 a => cases a with | cons a2 a =>
      cases a
      cases a1; cases a2
      exact .cons (.str _) (.cons (.int _) .nil)
    | hyp w n c =>
      cases a with | cons a1 a => cases a with | cons a2 a => cases a with | cons a3 a => cases a with | cons a4 a =>
      cases a
      cases a1; cases a2; cases a3; cases a4
      exact .cons (.str _) (.cons (.int _) (.cons (.int _) (.cons (.int _) .nil)))
    | forced =>
      cases a with | cons a1 a =>
      cases a
      cases a1
      exact .cons (.str _) .nil
    | note n =>
      cases a with | cons a1 a => cases a with | cons a2 a =>
      cases a
      cases a1; cases a2
      exact .cons (.str _) (.cons (.int _) .nil)
    | label s =>
      cases a with | cons a1 a => cases a with | cons a2 a =>
      cases a
      cases a1; cases a2
      exact .cons (.str _) (.cons (.str _) .nil)
    | page w n f s =>
      cases a with | cons a1 a => cases a with | cons a2 a => cases a with | cons a3 a => cases a with | cons a4 a => cases a with | cons a5 a =>
      cases a
      cases a1; cases a2; cases a3; cases a4; cases a5
      exact .cons (.str _) (.cons (.int _) (.cons (.int _) (.cons (.int _) (.cons (.str _) .nil))))⟩
end Ly
namespace Ly
theorem loopN_ind {S : Type} {f : S → Int → S} (P : Nat → S → Prop) (lo : Int) (n : Nat) (s0 : S) (h0 : P 0 s0) (h : ∀ i s, i < n → P i s → P (i + 1) (f s (lo + (i : Int)))) : P n (loopN f n lo s0) := by
  have key : ∀ m i s, i + m = n → P i s → P n (loopN f m (lo + (i : Int)) s) := by
    intro m
    induction m with
    | zero => intro i s e p; have : i = n := by omega
              subst this; exact p
    | succ m ih =>
      intro i s e p
      rw [loopN, show lo + (i : Int) + 1 = lo + ((i + 1 : Nat) : Int) by omega]
      exact ih (i + 1) _ (by omega) (h i s (by omega) p)
  have := key n 0 s0 (by omega) h0
  rwa [show lo + ((0 : Nat) : Int) = lo by omega] at this
theorem sum_cut (xs : List Int) {a b : Nat} (h : a ≤ b) : (xs.take b).sum - (xs.take a).sum = ((xs.drop a).take (b - a)).sum := by
  have e : xs.take b = xs.take a ++ (xs.drop a).take (b - a) := by
    rw [show b = a + (b - a) by omega, List.take_add, show a + (b - a) - a = b - a by omega]
  rw [e, List.sum_append]
  omega
theorem cutL_dt {α : Type} {xs : List α} {a b : Nat} (h : a ≤ b) (hb : b ≤ xs.length) : cutL xs (some (a : Int)) (some (b : Int)) = (xs.drop a).take (b - a) := by
  rw [cutL_in, Nat.min_eq_left (Nat.le_trans h hb), Nat.min_eq_left hb]
end Ly

namespace Ly
open PySem PySem.Spec PyProof.Rows L2 Evl
open PySem.W (Datum DatumOrd Tup T3 T4 minOf)
section
variable {K : PySem.W.Frag} {Mc M : List Addr} {He H H1 : Hp} {is : Ims} {ms : Mus} {σ : L2.St} {te ta tb : TE} {tz : TS} {D : Ends}
variable {α β γ : Type} [DecidableEq α] [Dx α] [DecidableEq β] [Dx β]
/-- all parameters given by keywords -/
theorem kall {x qual : Str} {st : Stmt} {f : Addr} {fd : FuncData} {ps ks : List Str} (F : Fun K x qual st f fd) (n : Nat)
    (h : ∀ (kV doc pm : Value) (an : Option Addr) (cdv ct : Value) (us ws : List Value), us.length = n → ws.length = ks.length → bindArgs (PySem.W.fnOf x qual (defArgs st) (defBody st) (defScope st) .none kV doc pm an cdv ct) ⟨us, ks.zip ws⟩ = pure (ps.zip (us ++ ws))) :
    KBn K fd ps n ks (fun us ws => us ++ ws) (fun vs zs => vs ++ zs) := by
  obtain ⟨oc, od, kV, doc, pm, an, cdv, ct, osl, rfl, lk, hcd⟩ := F.ex
  exact ⟨fun s us ws _ l1 l2 => .of_eq (h kV doc pm an cdv ct us ws l1 l2), fun r1 r2 => r1.append r2⟩
/-- C(k = v, ..) -/
theorem hv_makeK {args : γ → List Xd} {pre : γ → Prop} {F : γ → β} {tr : TA} {E : XK} {cn : Str} {C : Addr} {n : Nat} (c : γ) (t : Ct K cn C) (h : HD K M tr σ H (args c)) (hn : (args c).length = n) (p : pre c) :
    Hv K M (tMakeK C 0 n (PrI K cn args pre F) (fun vs zs => vs ++ zs) E tNil tr) σ H (F c) := fun H1 e1 mk Q q =>
  h H1 e1 mk _ fun vs H2 e2 ds => ⟨rfl, by rw [dpa_len ds]; exact hn, fun x dx hx hdx ne => by
    have m2 := mk.ex e2
    have hx2 : upd H2 dx (.own x) x = none := by rw [upd_ne (fun z => ne z.symm)]; exact hx
    have ea : Ex H2 (upd H2 dx (.own x)) := Ex.new hdx
    have eb : Ex (upd H2 dx (.own x)) (upd (upd H2 dx (.own x)) x (.ins C dx [])) := Ex.new hx2
    have hxM : x ∉ M := fun z => m2 x z hx
    refine ⟨M, x, C, dx, vs, c, rfl, ?_, hxM, t.ns, upd_same, ?_, p, fun H' e' d => ⟨rfl, q _ _ ?_ d⟩⟩
    · intro l hl
      rcases List.mem_cons.mp hl with rfl | hl
      · rw [upd_same]; exact fun z => nomatch z
      · exact ((m2.ex ea).ex eb) l hl
    · exact dpa_mono ((msk_ex ea).trans (msk_new hx2)) ds
    · refine e2.trans fun a o ho => e' a o ?_
      have na : a ≠ x := fun z => by rw [z, hx] at ho; cases ho
      rw [msk_out (by simpa using na)]
      exact eb a o (ea a o ho)⟩
/-- lists of several kinds, written or read by place -/
theorem hv_lstX {ds : List Xd} {tr : TA} (y : α) (h : HD K M tr σ H ds) (hl : ds.length ≤ 100000) (e : Dx.toX y = .list ds) : Hv K M (tLst tr) σ H y := fun H1 e1 m Q q =>
  h H1 e1 m _ fun vs H2 e2 d => ⟨sz_of (by rw [dpa_len d]; exact hl), fun p hp => by
    have e3 : Ex H2 (upd H2 p (.lst vs)) := Ex.new hp
    refine q _ _ (e2.trans e3) ?_
    show Xp _ _ _ (Dx.toX y)
    rw [e]
    exact .lst (SqL.of (msk_at (m.ex e2) hp)) (dpa_mono (msk_ex e3) d)⟩
theorem hv_atL {x : α} {ds : List Xd} {i : Int} (y : β) (h : Hv K M te σ H x) (hb : Hv K M tb σ H i) (e : Dx.toX x = .list ds) (h0 : 0 ≤ i) (hd : ds[i.toNat]? = some (Dx.toX y)) : Hv K M (tOp (rIxL K) te tb) σ H y := fun H1 e1 m Q q =>
  h H1 e1 m _ fun v H2 e2 d => hb H2 (e1.trans e2) (m.ex e2) _ fun u H3 e3 d3 => by
    have d' : Xp K (msk M H2) v (.list ds) := by rw [← e]; exact d
    cases d' with
    | lst s a =>
      obtain ⟨w, h1, h2⟩ := dpa_at a hd
      exact ⟨_, _, i, w, rfl, d3.int, ex_l (msk_le.trans e3) s, at_of (Int.toNat_of_nonneg h0).symm h1, q w H3 (e2.trans e3) (Dt.mono (msk_ex e3) h2)⟩
/-- the numbers of a style: [width, first, rest, justify, tolerance, rag] -/
structure Lv where
  w : Int
  f : Int
  r : Int
  j : Bool
  t : Int
  g : Int
  deriving DecidableEq
instance : Dx Lv := ⟨fun v => .list [.int v.w, .int v.f, .int v.r, .bool v.j, .int v.t, .int v.g]⟩
theorem hv_intB {b : Bool} (ha : Hv K M ta σ H b) : Hv K M (tCB (fun xs H Q => (∃ i, xs = [.int i] ∧ Q (.int i) H) ∨ ∃ k, xs = [.bl k] ∧ Q (.int (if k then 1 else 0)) H) (tCons ta tNil)) σ H (if b = true then (1 : Int) else 0) := fun H1 e m Q q =>
  ha H1 e m _ fun v H2 e2 d => .inr ⟨b, by rw [d.bool], q _ H2 e2 (Dt.ofInt _)⟩
theorem hv_abs {i : Int} (ha : Hv K M ta σ H i) : Hv K M (tCB (fun xs H Q => ∃ i, xs = [.int i] ∧ Q (.int (if i < 0 then -i else i)) H) (tCons ta tNil)) σ H (if i < 0 then -i else i) := fun H1 e m Q q =>
  ha H1 e m _ fun v H2 e2 d => ⟨i, by rw [d.int], q _ H2 e2 (Dt.ofInt _)⟩
end
theorem cube_div {i m : Int} (h0 : 0 < m) (h1 : m ≤ 1000000000000) : CDivW i (m * m * m) := by
  have a : 0 < m * m := Int.mul_pos h0 h0
  have b : m * m ≤ 1000000000000 * 1000000000000 := Int.mul_le_mul h1 h1 (by omega) (by omega)
  have c : 0 < m * m * m := Int.mul_pos a h0
  have d : m * m * m ≤ 1000000000000 * 1000000000000 * 1000000000000 := Int.mul_le_mul b h1 (by omega) (by omega)
  refine wide_div (b := 128) c ?_ (by decide) (by decide)
  have e : (1000000000000 * 1000000000000 * 1000000000000 : Int) < 2 ^ 128 := by decide
  omega
end Ly

namespace Ly
open PySem PySem.Spec PyProof.Rows L2 Evl
open PySem.W (Datum DatumOrd Tup T3 T4 minOf)
/-! ### a new list of several kinds, handed out by a def, then changed -/
section
variable {K : PySem.W.Frag} {Mc M : List Addr} {He H H1 : Hp} {is : Ims} {ms : Mus} {σ : L2.St} {te ta tb : TE} {tz : TS} {D : Ends}
variable {α β γ : Type} [DecidableEq α] [Dx α] [DecidableEq β] [Dx β]
def HFx (K : PySem.W.Frag) (M : List Addr) (te : TE) (σ : L2.St) (H : Hp) (ds : List Xd) : Prop :=
  ∀ H1, Ex H H1 → MOk M H1 → ∀ Q : VK, (∀ p vs H3, H1 p = none → Ex H1 H3 → H3 p = some (.lst vs) → XpAll K (msk (p :: M) H3) vs ds → Q (.ref p) H3) → te σ H1 Q
def PrF (K : PySem.W.Frag) (args : γ → List Xd) (pre : γ → Prop) (F : γ → List Xd) : Sp := fun vs H Q _ => ∃ (Mc : List Addr) (c : γ), MOk Mc H ∧ XpAll K (msk Mc H) vs (args c) ∧ pre c ∧
  ∀ p us H', H p = none → Ex H H' → H' p = some (.lst us) → XpAll K (msk (p :: Mc) H') us (F c) → Q (.ref p) H'
theorem hf_callX {args : γ → List Xd} {pre : γ → Prop} {F : γ → List Xd} {tr : TA} {E : XK} (c : γ) (h : HD K M tr σ H (args c)) (p : pre c) : HFx K M (tCall (PrF K args pre F) [] E tr) σ H (F c) := fun H1 e m Q q =>
  h H1 e m _ fun vs H2 e2 ds => ⟨M, c, m.ex e2, by rw [List.append_nil]; exact ds, p, fun a us H3 n e3 h3 d => q a us H3 (fresh_back e2 n) (e2.trans e3) h3 d⟩
theorem hf_lstX {ds : List Xd} {tr : TA} (h : HD K M tr σ H ds) (hl : ds.length ≤ 100000) : HFx K M (tLst tr) σ H ds := fun H1 e1 m Q q =>
  h H1 e1 m _ fun vs H2 e2 d => ⟨sz_of (by rw [dpa_len d]; exact hl), fun p hp => q p vs _ (fresh_back e2 hp) (e2.trans (Ex.new hp)) upd_same (dpa_mono (msk_new hp) d)⟩
theorem Sg.newX (s : Sg K Mc He H is ms) {p : Addr} {vs : List V} {ds : List Xd} (n : H p = none) (e : Ex H H1) (h : H1 p = some (.lst vs)) (d : XpAll K (msk (p :: (muA ms ++ Mc)) H1) vs ds) : Sg K Mc He H1 is ((p, .lst ds) :: ms) := by
  have np : p ∉ muA ms := fun z => s.mok p (List.mem_append_left _ z) n
  have q : ∀ M : List Addr, Ex (msk M H) (msk (p :: M) H1) := fun M a o ho => by
    by_cases z : a ∈ M
    · rw [msk_in z] at ho; cases ho
    · rw [msk_out z] at ho
      have na : a ≠ p := ne_of_none ho n
      rw [msk_out (by simp only [List.mem_cons, not_or]; exact ⟨na, z⟩)]
      exact e a o ho
  exact ⟨s.ext.trans (q _), s.okc, List.nodup_cons.mpr ⟨np, s.nd⟩, s.im.mono (q _), ⟨⟨_, h, vs, rfl, d⟩, s.mu.mono (q _) e⟩⟩
theorem z_freshX {i : Nat} {x : α} {g : α → List Xd} (s : Sg K Mc He H is ms) (h : HFx K (muA ms ++ Mc) te σ H (g x)) (k : ∀ y, y = x → ∀ p H1, Sg K Mc He H1 is ((p, .lst (g y)) :: ms) → tz D (σ.set i (some (.ref p))) H1) : tSeq (tAsg te (gName i)) tz D σ H :=
  h H (Ex.refl H) s.mok _ fun p vs H3 n e3 h3 d => k x rfl p H3 (s.newX n e3 h3 d)
theorem zq_retX {ds : List Xd} (s : Sg K Mc He H is ms) (h : HFx K (muA ms ++ Mc) te σ H ds) (k : ∀ p us H1, He p = none → Ex He H1 → H1 p = some (.lst us) → XpAll K (msk (p :: Mc) H1) us ds → D.rt (.ref p) H1) : tSeq (tRet te) tz D σ H :=
  h H (Ex.refl H) s.mok _ fun p us H1 n e h1 d => k p us H1 (fresh_back s.all n) (s.all.trans e) h1 (dpa_mono (msk_sub fun a ha => by
    rcases List.mem_cons.mp ha with rfl | ha
    · exact List.mem_cons_self
    · exact List.mem_cons_of_mem _ (List.mem_append_right _ ha)) d)
theorem Sg.lstX (s : Sg K Mc He H is ms) {k : Nat} {l : Addr} {ds : List Xd} (e : ms[k]? = some (l, .lst ds)) : ∃ vs, H l = some (.lst vs) ∧ XpAll K (msk (muA ms ++ Mc) H) vs ds := by
  obtain ⟨o, h1, vs, e1, h2⟩ := s.mu.get e
  subst e1
  exact ⟨vs, h1, h2⟩
theorem hv_atM {k i : Nat} {l : Addr} {ds : List Xd} {j : Int} (y : β) (s : Sg K Mc He H is ms) (e : ms[k]? = some (l, .lst ds)) (h : σ[i]? = some (some (.ref l))) (hb : Hv K (muA ms ++ Mc) tb σ H j) (h0 : 0 ≤ j) (hd : ds[j.toNat]? = some (Dx.toX y)) :
    Hv K (muA ms ++ Mc) (tOp (rIxL K) (tVar i) tb) σ H y := fun H1 e1 m Q q => ⟨_, h, hb H1 e1 m _ fun u H2 e2 d2 => by
    obtain ⟨vs, h1, h2⟩ := ((s.ex e1).ex e2).lstX e
    obtain ⟨w, w1, w2⟩ := dpa_at h2 hd
    exact ⟨l, vs, j, w, rfl, d2.int, SqL.of h1, at_of (Int.toNat_of_nonneg h0).symm w1, q w H2 e2 w2⟩⟩
theorem z_setX {kk : Nat} {l : Addr} {ds : List Xd} {x : α} {y' : β} {i : Int} (s : Sg K Mc He H is ms) (e : ms[kk]? = some (l, .lst ds)) (h : Hv K (muA ms ++ Mc) te σ H x) (ho : Ev ta σ H (.ref l)) (hi : Hv K (muA ms ++ Mc) tb σ H i) (h0 : 0 ≤ i) (h1 : i.toNat < ds.length)
    (g : β → List Xd) (hg : ds.set i.toNat (Dx.toX x) = g y')
    (k : ∀ y, y = y' → ∀ H1, Sg K Mc He H1 is (ms.set kk (l, .lst (g y))) → tz D σ H1) : tSeq (tAsg te (gSub ta tb rSetL)) tz D σ H :=
  h H (Ex.refl H) s.mok _ fun v H2 e2 d => ho H2 e2 _ fun H3 e3 => hi H3 (e2.trans e3) (s.mok.ex (e2.trans e3)) _ fun u H4 e4 d' => by
    have s4 := ((s.ex e2).ex e3).ex e4
    obtain ⟨vs, h3, h4⟩ := s4.lstX e
    have hn : i.toNat < vs.length := by rw [dpa_len h4]; exact h1
    refine ⟨l, vs, i, i.toNat, rfl, d'.int, h3, ?_, k _ rfl _ (s4.set e ⟨_, rfl, ?_⟩)⟩
    · have := ixN_nat hn
      rwa [Int.toNat_of_nonneg h0] at this
    · rw [← hg]
      exact dpa_set h4 (dp_mono (msk_ex (e3.trans e4)) d)
theorem Sg.frzX {l : Addr} {ds : List Xd} (x : α) (hx : Dx.toX x = .list ds) (s : Sg K Mc He H is ((l, .lst ds) :: ms)) : Sg K Mc He H ((.ref l, Dx.toX x) :: is) ms := by
  have sub : Ex (msk (muA ((l, Mv.lst ds) :: ms) ++ Mc) H) (msk (muA ms ++ Mc) H) := msk_sub fun a ha => List.mem_cons_of_mem _ ha
  have nd := List.nodup_cons.mp s.nd
  obtain ⟨⟨o, h1, vs, e, h2⟩, h3⟩ := s.mu
  subst e
  have nl : l ∉ muA ms ++ Mc := fun z => (List.mem_append.mp z).elim nd.1 (s.notc List.mem_cons_self)
  refine ⟨s.ext.trans (msk_sub fun a ha => List.mem_cons_of_mem _ ha), s.okc, nd.2, ⟨?_, s.im.mono sub⟩, h3.mono sub (Ex.refl H)⟩
  show Xp K _ (.ref l) (Dx.toX x)
  rw [hx]
  exact .lst (SqL.of (by rw [msk_out nl]; exact h1)) (dpa_mono sub h2)
theorem cutL_len {ε : Type} (xs : List ε) (a b : Option Int) : (cutL xs a b).length ≤ xs.length := by
  unfold cutL; rw [List.length_take, List.length_drop]; omega
/-- what a list of a style's numbers holds -/
def Lv.ds (v : Lv) : List Xd := [.int v.w, .int v.f, .int v.r, .bool v.j, .int v.t, .int v.g]
end
end Ly

namespace Ly
open PySem PySem.Spec PyProof.Rows L2 Evl
open PySem.W (Datum DatumOrd Tup T3 T4 minOf)
/-! ### zip of a tuple and a list -/
def ItzM (K : PySem.W.Frag) (a b : Addr) : L2.It where
  go i H := ∃ (us vs : List V) (u v : V), (SqT K H a us ∧ us[i]? = some u) ∧ SqL K H b vs ∧ vs[i]? = some v
  yld i H r H' := ∃ (p : Addr) (u v : V), (r = .ref p ∧ H p = none ∧ H' = upd H p (.tup [u, v])) ∧ (∀ us, SqT K H a us → us[i]? = some u) ∧ (∀ vs, SqL K H b vs → vs[i]? = some v)
  stop i H := ∃ us vs : List V, SqT K H a us ∧ SqL K H b vs ∧ i ≤ us.length ∧ i ≤ vs.length ∧ (i = us.length ∨ i = vs.length)
section
variable {P : Program} {w : World} {K : PySem.W.Frag} {elts : List Expr} {kk : Nat} {tpos : Pos} {a b z TI TO i1 i2 : Addr}
abbrev stM (z TI TO i1 i2 a b : Addr) (i : Nat) (h : Heap) : Prop := (IsZip h z TI TO .none ∧ IsTupOf2 h TI (.ref i1) (.ref i2) ∧ ∃ x y, IsTupOf2 h TO x y) ∧ h.IsTupleIter i1 a i ∧ h.IsListIter i2 b i
theorem turn_zipM (S : ZipSep2 z TI TO i1 i2 [i1, a] [i2, b]) : Turn P w K (.Tuple elts kk tpos) (ItzM K a b) [z, TI, TO, i1, i2] z (stM z TI TO i1 i2 a b) := by
  have five : ∀ {c : Addr}, c ∈ [z, TI, TO, i1, i2] → c = z ∨ c = TI ∨ c = TO ∨ c = i1 ∨ c = i2 := fun h => by simpa using h
  have na : a ≠ i1 ∧ b ≠ i2 ∨ True := .inr trivial
  refine ⟨List.mem_cons_self, fun i h st c hc => ?_, fun i h h' st k => ?_, ?_, ?_, fun A i s Q E st q => wpAny_pyIter_zip st.1.1 q⟩
  · obtain ⟨⟨c1, c2, x, y, c3⟩, ⟨o4, e4, _, f4⟩, o5, e5, _, f5⟩ := st
    rcases five hc with rfl | rfl | rfl | rfl | rfl
    · exact ⟨_, c1, fun v q => nomatch q⟩
    · exact ⟨_, c2, fun v q => nomatch q⟩
    · exact ⟨_, c3, fun v q => nomatch q⟩
    · exact ⟨o4, e4, fun v q => by rw [f4] at q; cases q⟩
    · exact ⟨o5, e5, fun v q => by rw [f5] at q; cases q⟩
  · obtain ⟨⟨c1, c2, x, y, c3⟩, c4, c5⟩ := st
    exact ⟨⟨k _ (by simp) _ c1, k _ (by simp) _ c2, x, y, k _ (by simp) _ c3⟩, c4.at fun o q => k _ (by simp) o q, c5.at fun o q => k _ (by simp) o q⟩
  · intro X hP hw hK hc i pins s σ H E I hf st hg
    subst hP hw hK
    obtain ⟨us, vs, u, v, ⟨qa, ea⟩, qb, eb⟩ := hg
    obtain ⟨⟨c1, c2, x, y, c3⟩, c4, c5⟩ := st
    obtain ⟨la, ra, pa, _⟩ := I.tuple qa
    obtain ⟨lb, rb, pb, _⟩ := I.list qb
    obtain ⟨ua, ga, xa⟩ := ra.get ea
    obtain ⟨ub, gb, xb⟩ := rb.get eb
    have na : a ≠ i1 := fun q => by
      obtain ⟨oa, ha, ka, _⟩ := pa
      obtain ⟨ob, hb, kb, _⟩ := c4
      rw [q, hb] at ha
      cases ha
      rw [kb] at ka
      exact absurd (Value.type.inj ka) (by decide)
    have nb : b ≠ i2 := fun q => by
      obtain ⟨oa, ha, ka, _⟩ := pb.isList
      obtain ⟨ob, hb, kb, _⟩ := c5
      rw [q, hb] at ha
      cases ha
      rw [kb] at ka
      exact absurd (Value.type.inj ka) (by decide)
    have hh : X.A.in1.handled = none := I.ok.hd hc
    have DA := Draws.tuple (prog := X.prog) (w := X.w) hh i1 a na la.toArray
    have DB := Draws.list (prog := X.prog) (w := X.w) hh i2 b nb lb.toArray
    have za : i < la.toArray.size := by
      have := (List.getElem?_eq_some_iff.mp ga).1
      simpa using this
    have zb : i < lb.toArray.size := by
      have := (List.getElem?_eq_some_iff.mp gb).1
      simpa using this
    refine wpAny_pyNext_zipD2_item S DA DB c1 c2 c3 ⟨c4, pa⟩ ⟨c5, pb.isList⟩ za zb fun x1 x2 h1 tk y1 y2 d1 d2 d3 d4 d5 d6 d7 => ?_
    have e1 : x1 = ua := by
      have : la[i]? = some x1 := by simpa using y1
      exact Option.some.inj (this.symm.trans ga)
    have e2 : x2 = ub := by
      have : lb[i]? = some x2 := by simpa using y2
      exact Option.some.inj (this.symm.trans gb)
    subst e1 e2
    refine ⟨.ref s.heap.objs.size, rfl, wpAny_letOwnedTupleGo_zip (s := { s with heap := h1, toks := tk }) d1 fun h2 f1 f2 => ?_⟩
    have old : ∀ c o, c ∉ [z, TI, TO, i1, i2] → s.heap.get? c = some o → h2.get? c = some o := fun c o n q => by
      have m1 : c ≠ z := fun t => n (by rw [t]; simp)
      have m2 : c ≠ TO := fun t => n (by rw [t]; simp)
      have m3 : c ≠ i1 := fun t => n (by rw [t]; simp)
      have m4 : c ≠ i2 := fun t => n (by rw [t]; simp)
      exact (f2.2 c m1).trans (d7 c o m1 m2 m3 m4 q)
    have pz : s.heap.objs.size ≠ z := Nat.ne_of_gt (Heap.lt_size c1)
    have pn : h2.get? s.heap.objs.size = some { cls := .type "tuple", data := .seq #[x1, x2] } := (f2.2 _ pz).trans d5
    have ok : ObjOk X.prog X.w (upd H s.heap.objs.size (.tup [u, v])) h2 s.heap.objs.size (.tup [u, v]) := ⟨show 2 ≤ sizeLine by decide, [x1, x2], .cons xa (.cons xb .nil), _, pn, rfl, _, rfl⟩
    refine ⟨.ref s.heap.objs.size, upd H s.heap.objs.size (.tup [u, v]), I.turnedNew (t' := tk) (ch := [z, TI, TO, i1, i2]) old hf (Nat.le_refl _) ok, rfl, ?_, ?_, fun c m => ?_⟩
    · refine ⟨_, u, v, ⟨rfl, I.hok.fresh (Nat.le_refl _), rfl⟩, fun l t => ?_, fun l t => ?_⟩
      · rw [I.tuple_inj t qa]; exact ea
      · rw [I.list_inj t qb]; exact eb
    · refine ⟨⟨f1, (f2.2 _ S.TIz).trans (d7 _ _ S.TIz S.TITO S.TIi1 S.TIi2 c2), x1, x2, (f2.2 _ S.TOz).trans d2⟩, d3.1.at fun o q => (f2.2 _ S.zi1.symm).trans q, d4.1.at fun o q => (f2.2 _ S.zi2.symm).trans q⟩
    · have lt : c < s.heap.objs.size := by
        rcases five m with rfl | rfl | rfl | rfl | rfl
        · exact Heap.lt_size c1
        · exact Heap.lt_size c2
        · exact Heap.lt_size c3
        · obtain ⟨_, q, _⟩ := c4; exact Heap.lt_size q
        · obtain ⟨_, q, _⟩ := c5; exact Heap.lt_size q
      rw [upd_ne (Nat.ne_of_lt lt)]
      exact (hf c m).1
  · intro X hP hw hK hc i pins s σ H E I hf st hg
    subst hP hw hK
    obtain ⟨us, vs, qa, qb, l1, l2, l3⟩ := hg
    obtain ⟨⟨c1, c2, x, y, c3⟩, c4, c5⟩ := st
    obtain ⟨la, ra, pa, _⟩ := I.tuple qa
    obtain ⟨lb, rb, pb, _⟩ := I.list qb
    have na : a ≠ i1 := fun q => by
      obtain ⟨oa, ha, ka, _⟩ := pa
      obtain ⟨ob, hb, kb, _⟩ := c4
      rw [q, hb] at ha
      cases ha
      rw [kb] at ka
      exact absurd (Value.type.inj ka) (by decide)
    have nb : b ≠ i2 := fun q => by
      obtain ⟨oa, ha, ka, _⟩ := pb.isList
      obtain ⟨ob, hb, kb, _⟩ := c5
      rw [q, hb] at ha
      cases ha
      rw [kb] at ka
      exact absurd (Value.type.inj ka) (by decide)
    have hh : X.A.in1.handled = none := I.ok.hd hc
    have DA := Draws.tuple (prog := X.prog) (w := X.w) hh i1 a na la.toArray
    have DB := Draws.list (prog := X.prog) (w := X.w) hh i2 b nb lb.toArray
    have sa : us.length = la.toArray.size := by rw [List.size_toArray]; exact ra.length
    have sb : vs.length = lb.toArray.size := by rw [List.size_toArray]; exact rb.length
    refine wpAny_pyNext_zipD2_end S DA DB c1 c2 c3 ⟨c4, pa⟩ ⟨c5, pb.isList⟩ (by omega) (by omega) (by omega) fun h1 tk d => ⟨rfl, ?_⟩
    refine I.turnedL (t' := tk) (ch := [z, TI, TO, i1, i2]) (fun c o n q => ?_) hf
    exact d c o (fun t => n (by rw [t]; simp)) (fun t => n (by rw [t]; simp)) (fun t => n (by rw [t]; simp)) (fun t => n (by rw [t]; simp)) q
end
def iZipM (K : PySem.W.Frag) (tp : TA) : TI := fun σ H R => tp σ H fun zs H1 => ∃ a b us vs, zs = [.ref a, .ref b] ∧ SqT K H1 a us ∧ SqL K H1 b vs ∧ R (ItzM K a b) H1
theorem pi_zipM {X : Cx} {e f : Expr} {tp : TA} {p pos tpos : Pos} {elts : List Expr} {kk : Nat} (hg : Gl X "zip") (hm : X.mg "zip" = none) (hA : PA X [e, f] tp)
    (h1 : starEach [e, f] X.env = (false, eval e X.env) :: starEach [f] X.env := by rfl) (h2 : (backTo pos (starEach [f] X.env)).any (·.1) = false := by rfl) :
    PI X (.Tuple elts kk tpos) (.Call (.Name "zip" p) [e, f] [] pos) (iZipM X.K tp) := by
  constructor
  intro pins s σ H R I h
  have body := hA.run pos pins s σ H _ I h
  refine Call_ (ld_blt I hg hm PyProof.Rows.boot_zip ?_)
  refine PyProof.Rows.callWith_type1 (thn body ?_) h1 h2
  rintro ws s1 ⟨zs, H1, J, rz, a, b, us, vs, rfl, qa, qb, q⟩
  cases rz with
  | cons ra rz =>
    cases rz with
    | cons rb rz =>
      cases rz; cases ra; cases rb
      obtain ⟨la, _, pa, _⟩ := J.tuple qa
      obtain ⟨lb, _, pb, _⟩ := J.list qb
      have pa' : s1.heap.IsTuple a la.toArray := pa
      have lta : a < s1.heap.objs.size := by obtain ⟨_, g, _⟩ := pa'; exact Heap.lt_size g
      have sep : ZipSep2 (s1.heap.objs.size + 4) (s1.heap.objs.size + 2) (s1.heap.objs.size + 3) s1.heap.objs.size (s1.heap.objs.size + 1) [s1.heap.objs.size, a] [s1.heap.objs.size + 1, b] :=
        zip_sep2 (fp1 := [a]) (fp2 := [b]) (fun c m => by rw [List.mem_singleton.mp m]; exact lta) (fun c m => by rw [List.mem_singleton.mp m]; exact pb.lt)
      refine zip_begins2 (begins_tuple a la.toArray) (begins_list b lb.toArray) pa' pb.isList fun h' c1 c2 c3 c4 c5 _ kp => ?_
      refine wpAny_pyIter_zip c1 ?_
      refine ⟨s1.heap.objs.size + 4, [s1.heap.objs.size + 4, s1.heap.objs.size + 2, s1.heap.objs.size + 3, s1.heap.objs.size, s1.heap.objs.size + 1], _, _, H1, rfl, J.kept (t' := s1.toks) kp, turn_zipM sep, ⟨⟨c1, c2, _, _, c3⟩, ⟨_, c4, rfl, rfl⟩, ⟨_, c5, rfl, rfl⟩⟩, fun c m => ?_, q⟩
      have le : s1.heap.objs.size ≤ c := by
        rcases (by simpa using m : c = s1.heap.objs.size + 4 ∨ c = s1.heap.objs.size + 2 ∨ c = s1.heap.objs.size + 3 ∨ c = s1.heap.objs.size ∨ c = s1.heap.objs.size + 1) with rfl | rfl | rfl | rfl | rfl <;> first | exact Nat.le_add_right _ _ | exact Nat.le_refl _
      exact J.fpOk le (J.hok.fresh le)
theorem walk_zipM {K : PySem.W.Frag} {a b : Addr} {us vs : List V} {n : Nat} (hn : n = us.length) (hn2 : n = vs.length) : Walk (ItzM K a b) n (fun H => SqT K H a us ∧ SqL K H b vs) (YPair (fun i => us[i]?) (fun i => vs[i]?)) where
  goes i H hi q := by
    have l1 : i < us.length := by omega
    have l2 : i < vs.length := by omega
    exact ⟨us, vs, us[i], vs[i], ⟨q.1, List.getElem?_eq_getElem l1⟩, q.2, List.getElem?_eq_getElem l2⟩
  stops H q := ⟨us, vs, q.1, q.2, by omega, by omega, .inl hn⟩
  yields i H r H' _ q y := by
    obtain ⟨p, u, v, ⟨e1, e2, e3⟩, f1, f2⟩ := y
    exact ⟨p, u, v, e1, e2, e3, f1 us q.1, f2 vs q.2⟩
section
variable {K : PySem.W.Frag} {Mc M : List Addr} {He H H1 H2 : Hp} {is js : Ims} {ms : Mus} {σ : L2.St} {te ta tl tl2 : TE} {tlo thi : TO} {g : TG}
variable {α β γ : Type} [DecidableEq α] [Dx α] [DecidableEq β] [Dx β] [DecidableEq γ] [Dx γ]
/-- [.. for x in a tuple] -/
theorem hf_lcV0 {vs : List Nat} (s : Sg K Mc He H is ms) {xs : Tup α} (ef : α → β) (h : Hv K (muA ms ++ Mc) tl σ H xs) (hz : xs.items.length ≤ 40000)
    (hb : ∀ D src x w (ys : List β) H1, Sg K Mc He H1 ((w, Dx.toX x) :: (src, Dx.toX xs) :: is) ((D, .lst (ys.map Dx.toX)) :: ms) → x ∈ xs.items →
      ∀ Q : L2.St → Hp → Prop, (∀ σ2, wipe σ2 vs = wipe σ vs → Hv K (muA ((D, Mv.lst (ys.map Dx.toX)) :: ms) ++ Mc) te σ2 H1 (ef x) → Q σ2 H1) → g w (wipe σ vs) H1 Q) :
    HF K (muA ms ++ Mc) (tLc (iTup K tl) g tYes te vs) σ H (xs.items.map ef) := fun H1 e m Q q =>
  h H1 e m _ fun v H2 e2 d => by
    obtain ⟨a, us, rfl, s1, ds⟩ := d.tupv
    refine ⟨a, rfl, ⟨us, ex_t msk_le s1⟩, fun D hD => ?_⟩
    have sA : Sg K Mc He H2 ((.ref a, Dx.toX xs) :: is) ms := ((s.ex e).ex e2).put d
    have sB : Sg K Mc He (upd H2 D (.lst [])) ((.ref a, Dx.toX xs) :: is) ((D, .lst (([] : List β).map Dx.toX)) :: ms) := sA.new hD ⟨[], rfl, .nil⟩
    have hlu : us.length = xs.items.length := ds.len
    have s1' : SqT K H2 a us := ex_t msk_le s1
    refine lc_it (walk_tup (K := K) (a := a) (xs := us)) (fun i H' => Ex H2 H' ∧ Sg K Mc He H' ((.ref a, Dx.toX xs) :: is) ((D, .lst (((xs.items.take i).map ef).map Dx.toX)) :: ms)) ⟨Ex.new hD, sB⟩
      (fun i H' _ p => ex_t p.1 s1') (fun i x H' H'' hi p y => ?_) (fun H' p => ?_)
    · obtain ⟨rfl, y2⟩ := y
      have hix : i < xs.items.length := by rw [← hlu]; omega
      have gx : xs.items[i]? = some xs.items[i] := by simp [hix]
      have q2 : Ex (msk (muA ms ++ Mc) H2) (msk (D :: (muA ms ++ Mc)) H'') := fun c o hc => by
        by_cases z : c ∈ muA ms ++ Mc
        · rw [msk_in z] at hc; cases hc
        · rw [msk_out z] at hc
          have nc : c ≠ D := ne_of_none hc hD
          rw [msk_out (by simp only [List.mem_cons, not_or]; exact ⟨nc, z⟩)]
          exact p.1 c o hc
      obtain ⟨w, w1, w2⟩ := (Dts.mono q2 ds).at gx
      have : x = w := Option.some.inj (y2.symm.trans w1)
      subst this
      refine hb D (.ref a) xs.items[i] x _ _ (p.2.put w2) (List.mem_of_getElem? gx) _ fun σ2 hw he => ⟨hw, ?_⟩
      have hlen : ((xs.items.take i).map ef).length < 50000 := by
        rw [List.length_map, List.length_take]
        omega
      exact lc_turn (ms := ms) (tt := tYes) (b := true) (zs := (xs.items.take (i + 1)).map ef) p.2 hlen (fun H3 => Ex H2 H3 ∧ Sg K Mc He H3 ((.ref a, Dx.toX xs) :: is) ((D, .lst (((xs.items.take (i + 1)).map ef).map Dx.toX)) :: ms)) (fun H2 _ _ _ q => q H2 (Ex.refl H2)) (fun _ => he) (by rw [if_pos rfl, take_snoc gx, List.map_append]; rfl) (fun H3 h4 s3 => ⟨by
        obtain ⟨H4, e4, e5⟩ := h4
        rcases e5 with e5 | ⟨o, e5⟩
        · rw [e5]; exact p.1.trans e4
        · rw [e5]; exact Ex.mut (p.1.trans e4) hD, s3⟩)
    · have z := p.2
      rw [hlu, List.take_length] at z
      obtain ⟨us2, h3, h4⟩ := z.lst (k := 0) rfl
      exact q D us2 H' (fresh_back e2 hD) (e2.trans p.1) h3 h4
/-- [.. for x, y in zip(a tuple, a list)] -/
theorem hf_lcZM {vs : List Nat} (s : Sg K Mc He H is ms) {xs : Tup α} {zs : List γ} (ef : α × γ → β) (h : Hv K (muA ms ++ Mc) tl σ H xs) (h' : Hv K (muA ms ++ Mc) tl2 σ H zs) (hz : xs.items.length ≤ 40000) (hzs : zs.length = xs.items.length)
    (hb : ∀ D src (x : α × γ) w (ys : List β) H1, Sg K Mc He H1 ((w, Dx.toX x) :: (src, Dx.toX xs) :: is) ((D, .lst (ys.map Dx.toX)) :: ms) → x ∈ zipL xs.items zs →
      ∀ Q : L2.St → Hp → Prop, (∀ σ2, wipe σ2 vs = wipe σ vs → Hv K (muA ((D, Mv.lst (ys.map Dx.toX)) :: ms) ++ Mc) te σ2 H1 (ef x) → Q σ2 H1) → g w (wipe σ vs) H1 Q) :
    HF K (muA ms ++ Mc) (tLc (iZipM K (tCons tl (tCons tl2 tNil))) g tYes te vs) σ H ((zipL xs.items zs).map ef) := fun H1 e m Q q =>
  h H1 e m _ fun v H2 e2 d => h' H2 (e.trans e2) (m.ex e2) _ fun v' H2' e2' d' => by
    obtain ⟨a, us, rfl, s1, ds⟩ := d.tupv
    obtain ⟨a', us', rfl, t1, dt⟩ := d'.list
    have s1' : SqT K H2' a us := ex_t e2' (ex_t msk_le s1)
    have t1' : SqL K H2' a' us' := ex_l msk_le t1
    have dE : Dt K (msk (muA ms ++ Mc) H2') (.ref a) xs := d.mono (msk_ex e2')
    refine ⟨a, a', us, us', rfl, s1', t1', fun D hD => ?_⟩
    have sA : Sg K Mc He H2' ((.ref a, Dx.toX xs) :: is) ms := (((s.ex e).ex e2).ex e2').put dE
    have sB : Sg K Mc He (upd H2' D (.lst [])) ((.ref a, Dx.toX xs) :: is) ((D, .lst (([] : List β).map Dx.toX)) :: ms) := sA.new hD ⟨[], rfl, .nil⟩
    have hlu : us.length = xs.items.length := ds.len
    have hlw : us'.length = zs.length := dt.len
    have dsE : Dts K (msk (muA ms ++ Mc) H2') us xs.items := Dts.mono (msk_ex e2') ds
    refine lc_it (walk_zipM (K := K) (a := a) (b := a') (us := us) (vs := us') (n := us.length) rfl (by omega)) (fun i H' => Ex H2' H' ∧ Sg K Mc He H' ((.ref a, Dx.toX xs) :: is) ((D, .lst ((((zipL xs.items zs).take i).map ef).map Dx.toX)) :: ms)) ⟨Ex.new hD, sB⟩
      (fun i H' _ p => ⟨ex_t p.1 s1', ex_l p.1 t1'⟩) (fun i x H' H'' hi p y => ?_) (fun H' p => ?_)
    · obtain ⟨T, x0, x1, rfl, nT, rfl, f1, f2⟩ := y
      have hix : i < xs.items.length := by rw [← hlu]; omega
      have hiz : i < zs.length := by rw [← hlw]; omega
      have gx : xs.items[i]? = some xs.items[i] := by simp [hix]
      have gz : zs[i]? = some zs[i] := by simp [hiz]
      have gE := zipL_get gx gz
      have eT : Ex H' (upd H' T (.tup [x0, x1])) := Ex.new nT
      have sT := p.2.ex eT
      have q2 : Ex (msk (muA ms ++ Mc) H2') (msk (D :: (muA ms ++ Mc)) (upd H' T (.tup [x0, x1]))) := fun b o hb' => by
        by_cases z : b ∈ muA ms ++ Mc
        · rw [msk_in z] at hb'; cases hb'
        · rw [msk_out z] at hb'
          have nb : b ≠ D := ne_of_none hb' hD
          rw [msk_out (by simp only [List.mem_cons, not_or]; exact ⟨nb, z⟩)]
          exact eT b o (p.1 b o hb')
      have dm0 : Dt K (msk (D :: (muA ms ++ Mc)) (upd H' T (.tup [x0, x1]))) x0 xs.items[i] := by
        obtain ⟨w, w1, w2⟩ := (dsE.mono q2).at gx
        have : x0 = w := Option.some.inj (f1.symm.trans w1)
        subst this; exact w2
      have dm1 : Dt K (msk (D :: (muA ms ++ Mc)) (upd H' T (.tup [x0, x1]))) x1 zs[i] := by
        obtain ⟨w, w1, w2⟩ := (Dts.mono q2 dt).at gz
        have : x1 = w := Option.some.inj (f2.symm.trans w1)
        subst this; exact w2
      have nTD : T ∉ D :: (muA ms ++ Mc) := fun z => (p.2.mok T z) nT
      have dw : Dt K (msk (D :: (muA ms ++ Mc)) (upd H' T (.tup [x0, x1]))) (.ref T) (xs.items[i], zs[i]) := Dt.ofPair (SqT.of (by rw [msk_out nTD]; exact upd_same)) dm0 dm1
      refine hb D (.ref a) (xs.items[i], zs[i]) (.ref T) _ _ (sT.put dw) (List.mem_of_getElem? gE) _ fun σ2 hw he => ⟨hw, ?_⟩
      have hlen : (((zipL xs.items zs).take i).map ef).length < 50000 := by
        rw [List.length_map, List.length_take, zipL_len]
        omega
      exact lc_turn (ms := ms) (tt := tYes) (b := true) (zs := ((zipL xs.items zs).take (i + 1)).map ef) sT hlen (fun H3 => Ex H2' H3 ∧ Sg K Mc He H3 ((.ref a, Dx.toX xs) :: is) ((D, .lst ((((zipL xs.items zs).take (i + 1)).map ef).map Dx.toX)) :: ms)) (fun H2 _ _ _ q => q H2 (Ex.refl H2)) (fun _ => he) (by rw [if_pos rfl, take_snoc gE, List.map_append]; rfl) (fun H3 h4 s3 => ⟨by
        obtain ⟨H4, e4, e5⟩ := h4
        rcases e5 with e5 | ⟨o, e5⟩
        · rw [e5]; exact (p.1.trans eT).trans e4
        · rw [e5]; exact Ex.mut ((p.1.trans eT).trans e4) hD, s3⟩)
    · have z := p.2
      have et : (zipL xs.items zs).take us.length = zipL xs.items zs := List.take_of_length_le (by rw [zipL_len, hlu]; omega)
      rw [et] at z
      obtain ⟨us2, h3, h4⟩ := z.lst (k := 0) rfl
      exact q D us2 H' (fresh_back (e2.trans e2') hD) ((e2.trans e2').trans p.1) h3 h4
/-- a slice of a tuple -/
theorem hv_sliceV {xs : Tup α} {lo hi : Option Int} (h : Hv K M te σ H xs) (h1 : HO' M tlo σ H lo) (h2 : HO' M thi σ H hi) : Hv K M (tSl (rSlA K) te tlo thi) σ H (Tup.mk (cutL xs.items lo hi)) := fun H1 e m Q q =>
  h H1 e m _ fun v H2 e2 d => h1 H2 (e.trans e2) (m.ex e2) _ fun H3 e3 => h2 H3 ((e.trans e2).trans e3) ((m.ex e2).ex e3) _ fun H4 e4 => by
    obtain ⟨a, us, rfl, s1, ds⟩ := d.tupv
    have m4 := ((m.ex e2).ex e3).ex e4
    have el : us.length = xs.items.length := ds.len
    refine ⟨a, us, rfl, ex_t (e3.trans e4) (ex_t msk_le s1), fun hw => ?_, fun _ p hp => ?_⟩
    · rw [el] at hw
      have ew : cutL xs.items lo hi = xs.items := by
        unfold cutL
        rw [hw.1, hw.2]
        simp
      rw [ew] at q
      exact q _ _ ((e2.trans e3).trans e4) (d.mono (msk_ex (e3.trans e4)))
    · have e5 : Ex H4 (upd H4 p (.tup (cutV us lo hi))) := Ex.new hp
      exact q _ _ (((e2.trans e3).trans e4).trans e5) (Dt.ofTupv (SqT.of (msk_at m4 hp)) ((ds.mono (msk_ex ((e3.trans e4).trans e5))).cut))
end
end Ly

namespace Ly
open PySem PySem.Spec PyProof.Rows L2 Evl
open PySem.W (Datum DatumOrd Tup T3 T4 minOf)
/-! ### loops that may be broken off -/
def loopB {S : Type} (f : S → Int → Lp Unit S) : Nat → Int → S → S
  | 0, _, s => s
  | n + 1, k, s => match f s k with
    | .ret _ => s
    | .brk u => u
    | .nxt u => loopB f n (k + 1) u
theorem loopB_succ {S : Type} {f : S → Int → Lp Unit S} {n i : Nat} {lo : Int} {s : S} (h : i < n) :
    loopB f (n - i) (lo + (i : Int)) s = (match f s (lo + (i : Int)) with | .ret _ => s | .brk u => u | .nxt u => loopB f (n - (i + 1)) (lo + ((i + 1 : Nat) : Int)) u) := by
  have e : n - i = (n - (i + 1)) + 1 := by omega
  have e2 : lo + (i : Int) + 1 = lo + ((i + 1 : Nat) : Int) := by omega
  rw [e, loopB, e2]
theorem loopB_nxt {S : Type} {f : S → Int → Lp Unit S} {n i : Nat} {lo : Int} {s u : S} (h : i < n) (e : f s (lo + (i : Int)) = .nxt u) : loopB f (n - i) (lo + (i : Int)) s = loopB f (n - (i + 1)) (lo + ((i + 1 : Nat) : Int)) u := by
  rw [loopB_succ h, e]
theorem loopB_brk {S : Type} {f : S → Int → Lp Unit S} {n i : Nat} {lo : Int} {s u : S} (h : i < n) (e : f s (lo + (i : Int)) = .brk u) : loopB f (n - i) (lo + (i : Int)) s = u := by
  rw [loopB_succ h, e]
theorem loopB_end {S : Type} {f : S → Int → Lp Unit S} {n : Nat} {lo : Int} {s : S} : loopB f (n - n) lo s = s := by rw [Nat.sub_self]; rfl
section
variable {K : PySem.W.Frag} {Mc M : List Addr} {He H H1 H2 : Hp} {is js : Ims} {ms : Mus} {σ : L2.St} {te ta tb tc : TE} {D : Ends}
/-- what may be none, where it is not -/
theorem hv_unopt {o : Option Int} (h : Hv K M te σ H o) (hn : o ≠ none) : Hv K M te σ H (o.getD 0) := by
  cases o with
  | none => exact absurd rfl hn
  | some x => exact h
/-- for x in range(lo, hi, -1) -/
theorem z_forRC {tu : TS} {j : Nat} {lo hi c : Int} (s : Sg K Mc He H is ms) (h1 : Hv K (muA ms ++ Mc) ta σ H lo) (h2 : Hv K (muA ms ++ Mc) tb σ H hi) (h3 : Hv K (muA ms ++ Mc) tc σ H c) (hc : c = -1) (hn : -100000 ≤ lo ∧ lo ≤ 100000 ∧ -100000 ≤ hi ∧ hi ≤ 100000)
    (Pv : Nat → L2.St → Hp → Prop) (h0 : ∀ H1, Sg K Mc He H1 is ms → Pv 0 σ H1)
    (hs : ∀ (i : Nat) (x : Int) σ' H', x = lo - ((0 : Int) + (i : Int)) → i < (lo - hi).toNat → Pv i σ' H' → tu { D with nx := Pv (i + 1), ct := Pv (i + 1), bk := D.nx } (σ'.set j (some (.int x))) H')
    (hd : ∀ σ' H', Pv (lo - hi).toNat σ' H' → D.nx σ' H') : tFor (iRng3 (tCons ta (tCons tb (tCons tc tNil)))) (gName j) tu D σ H := by
  subst hc
  exact h1 H (Ex.refl H) s.mok _ fun v H1 e d => h2 H1 e (s.mok.ex e) _ fun v' H2 e2 d' => h3 H2 (e.trans e2) ((s.mok.ex e).ex e2) _ fun v'' H3 e3 d'' => by
    refine ⟨lo, hi, -1, (lo - hi).toNat, by rw [d.int, d'.int, d''.int], RgC.neg (by omega) (by omega) (by omega) (by omega), L2.for_rangeC Pv (h0 H3 (((s.ex e).ex e2).ex e3)) (fun i σ' H' hi' p => ?_) hd⟩
    have e0 : lo + (i : Int) * -1 = lo - ((0 : Int) + (i : Int)) := by omega
    show tu { D with nx := Pv (i + 1), ct := Pv (i + 1), bk := D.nx } (σ'.set j (some (.int (lo + (i : Int) * -1)))) H'
    rw [e0]
    exact hs i _ σ' H' rfl hi' p
end
end Ly

namespace Ly
open PySem PySem.Spec PyProof.Rows L2 Evl
open PySem.W (Datum DatumOrd Tup T3 T4 minOf)
/-! ### the items of pages -/
inductive Pgi where
  | line (b l h n d : Int)
  | space (h : Int) (f : Bool)
  | pen (c : Int)
  | fin
  | flt (b h : Int)
  deriving DecidableEq
def Pgi.kind : Pgi → Str
  | .line _ _ _ _ _ => Str.ofString "line"
  | .space _ _ => Str.ofString "space"
  | .pen _ => Str.ofString "penalty"
  | .fin => Str.ofString "end"
  | .flt _ _ => Str.ofString "float"
def Pgi.tag : Pgi → Nat
  | .line _ _ _ _ _ => 0
  | .space _ _ => 1
  | .pen _ => 2
  | .fin => 3
  | .flt _ _ => 4
def Pgi.at1 : Pgi → Int
  | .line b _ _ _ _ => b | .space h _ => h | .pen c => c | .flt b _ => b | _ => 0
def Pgi.at2 : Pgi → Int
  | .line _ l _ _ _ => l | .flt _ h => h | _ => 0
def Pgi.at3 : Pgi → Int
  | .line _ _ h _ _ => h | _ => 0
def Pgi.at4 : Pgi → Int
  | .line _ _ _ n _ => n | _ => 0
def Pgi.at5 : Pgi → Int
  | .line _ _ _ _ d => d | _ => 0
def Pgi.fr : Pgi → Bool
  | .space _ f => f | _ => false
def Pgi.x : Pgi → List Xd
  | .line b l h n d => [.str (Str.ofString "line"), .int b, .int l, .int h, .int n, .int d]
  | .space h f => [.str (Str.ofString "space"), .int h, .bool f]
  | .pen c => [.str (Str.ofString "penalty"), .int c]
  | .fin => [.str (Str.ofString "end")]
  | .flt b h => [.str (Str.ofString "float"), .int b, .int h]
instance : Dx Pgi := ⟨fun i => .tuple i.x⟩
instance : SomeX Pgi := ⟨fun _ e => by cases e⟩
theorem Pgi.tag_le (i : Pgi) : i.tag ≤ 4 := by cases i <;> simp only [Pgi.tag] <;> decide
theorem pd_line (i : Pgi) : (i.kind = Str.ofString "line") = (i.tag = 0) := by
  cases i <;> simp only [Pgi.kind, Pgi.tag] <;> exact propext ⟨fun h => by first | rfl | (revert h; decide +kernel), fun h => by first | rfl | (revert h; decide)⟩
theorem pd_space (i : Pgi) : (i.kind = Str.ofString "space") = (i.tag = 1) := by
  cases i <;> simp only [Pgi.kind, Pgi.tag] <;> exact propext ⟨fun h => by first | rfl | (revert h; decide +kernel), fun h => by first | rfl | (revert h; decide)⟩
theorem pd_pen (i : Pgi) : (i.kind = Str.ofString "penalty") = (i.tag = 2) := by
  cases i <;> simp only [Pgi.kind, Pgi.tag] <;> exact propext ⟨fun h => by first | rfl | (revert h; decide +kernel), fun h => by first | rfl | (revert h; decide)⟩
theorem pd_fin (i : Pgi) : (i.kind = Str.ofString "end") = (i.tag = 3) := by
  cases i <;> simp only [Pgi.kind, Pgi.tag] <;> exact propext ⟨fun h => by first | rfl | (revert h; decide +kernel), fun h => by first | rfl | (revert h; decide)⟩
theorem pd_flt (i : Pgi) : (i.kind = Str.ofString "float") = (i.tag = 4) := by
  cases i <;> simp only [Pgi.kind, Pgi.tag] <;> exact propext ⟨fun h => by first | rfl | (revert h; decide +kernel), fun h => by first | rfl | (revert h; decide)⟩
section
variable {K : PySem.W.Frag} {M : List Addr} {H : Hp} {σ : L2.St} {te : TE} {i : Pgi}
theorem hv_py0 (h : Hv K M te σ H i) : Hv K M (tOp (rIxT K) te (tC (.int 0))) σ H i.kind := hv_atX 0 h rfl (by cases i <;> rfl)
theorem hv_py1 (h : Hv K M te σ H i) (s : i.tag ≠ 3) : Hv K M (tOp (rIxT K) te (tC (.int 1))) σ H i.at1 := hv_atX 1 h rfl (by cases i <;> first | rfl | (exfalso; simp [Pgi.tag] at s))
theorem hv_py2 (h : Hv K M te σ H i) (s : i.tag = 0 ∨ i.tag = 4) : Hv K M (tOp (rIxT K) te (tC (.int 2))) σ H i.at2 := hv_atX 2 h rfl (by cases i <;> first | rfl | (exfalso; simp [Pgi.tag] at s))
theorem hv_pyf (h : Hv K M te σ H i) (s : i.tag = 1) : Hv K M (tOp (rIxT K) te (tC (.int 2))) σ H i.fr := hv_atX 2 h rfl (by cases i <;> first | rfl | (exfalso; simp [Pgi.tag] at s))
theorem hv_py3 (h : Hv K M te σ H i) (s : i.tag = 0) : Hv K M (tOp (rIxT K) te (tC (.int 3))) σ H i.at3 := hv_atX 3 h rfl (by cases i <;> first | rfl | (exfalso; simp [Pgi.tag] at s))
theorem hv_py4 (h : Hv K M te σ H i) (s : i.tag = 0) : Hv K M (tOp (rIxT K) te (tC (.int 4))) σ H i.at4 := hv_atX 4 h rfl (by cases i <;> first | rfl | (exfalso; simp [Pgi.tag] at s))
theorem hv_py5 (h : Hv K M te σ H i) (s : i.tag = 0) : Hv K M (tOp (rIxT K) te (tC (.int 5))) σ H i.at5 := hv_atX 5 h rfl (by cases i <;> first | rfl | (exfalso; simp [Pgi.tag] at s))
end
section
variable {K : PySem.W.Frag} {Mc M : List Addr} {He H : Hp} {is : Ims} {ms : Mus} {σ : L2.St} {ta tb tc : TE} {tz : TS} {D : Ends}
theorem zq_forRC {tu : TS} {j : Nat} {lo hi c : Int} (s : Sg K Mc He H is ms) (h1 : Hv K (muA ms ++ Mc) ta σ H lo) (h2 : Hv K (muA ms ++ Mc) tb σ H hi) (h3 : Hv K (muA ms ++ Mc) tc σ H c) (hc : c = -1) (hn : -100000 ≤ lo ∧ lo ≤ 100000 ∧ -100000 ≤ hi ∧ hi ≤ 100000)
    (Pv : Nat → L2.St → Hp → Prop) (h0 : ∀ H1, Sg K Mc He H1 is ms → Pv 0 σ H1)
    (hs : ∀ (i : Nat) (x : Int) σ' H', x = lo - ((0 : Int) + (i : Int)) → i < (lo - hi).toNat → Pv i σ' H' → tu { D with nx := Pv (i + 1), ct := Pv (i + 1), bk := tz D } (σ'.set j (some (.int x))) H')
    (hd : ∀ σ' H', Pv (lo - hi).toNat σ' H' → tz D σ' H') : tSeq (tFor (iRng3 (tCons ta (tCons tb (tCons tc tNil)))) (gName j) tu) tz D σ H :=
  z_forRC (D := { D with nx := tz D }) s h1 h2 h3 hc hn Pv h0 hs hd
end
/-! ### items of pages are data: == -/
def Pgi.d : Pgi → List PyData
  | .line b l h n d => [.str (Str.ofString "line"), .int b, .int l, .int h, .int n, .int d]
  | .space h f => [.str (Str.ofString "space"), .int h, .bool f]
  | .pen c => [.str (Str.ofString "penalty"), .int c]
  | .fin => [.str (Str.ofString "end")]
  | .flt b h => [.str (Str.ofString "float"), .int b, .int h]
theorem Pgi.d_kind (i : Pgi) : ∃ r, i.d = .str i.kind :: r := by cases i <;> exact ⟨_, rfl⟩
theorem pgkind_tag {i j : Pgi} (h : i.kind = j.kind) : i.tag = j.tag := by
  have k0 := pd_line i; have k1 := pd_space i; have k2 := pd_pen i; have k3 := pd_fin i; have k4 := pd_flt i
  rw [h] at k0 k1 k2 k3 k4
  rw [pd_line] at k0
  rw [pd_space] at k1
  rw [pd_pen] at k2
  rw [pd_fin] at k3
  rw [pd_flt] at k4
  have t1 := Pgi.tag_le i
  have t2 := Pgi.tag_le j
  have e0 := k0.to_iff; have e1 := k1.to_iff; have e2 := k2.to_iff; have e3 := k3.to_iff; have e4 := k4.to_iff
  omega
theorem Pgi.eqv (a b : Pgi) : PyData.eqvAll a.d b.d = decide (a = b) := by
  by_cases h : a.kind = b.kind
  · have ht := pgkind_tag h
    cases a <;> cases b <;> first | (exfalso; simp [Pgi.tag] at ht; done) | (simp only [Pgi.d, PyData.eqvAll, eqvI, eqvS, eqvB]; simp [Bool.and_assoc])
  · obtain ⟨r, e⟩ := a.d_kind
    obtain ⟨r', e'⟩ := b.d_kind
    rw [e, e', PyData.eqvAll, eqvS, decide_eq_false h, Bool.false_and]
    exact (decide_eq_false fun z => h (by rw [z])).symm
instance : Datum Pgi where
  toD i := .tuple i.d
  plain i := by cases i <;> simp only [Pgi.d, PyData.plain, PyData.plainAll, Bool.and_self, Bool.and_true, Bool.true_and]
  eqv a b := by simp only [PyData.eqv]; exact Pgi.eqv a b
  depth := 2
  depth_le i := by cases i <;> simp only [Pgi.d, PyData.depth, PyData.depthAll] <;> (first | decide | omega)
instance : DxD Pgi := ⟨fun {K H v i} h => by
  cases h with
  | tup s a =>
    refine .tup s ?_
    cases i with
    | line b l h n d =>
      cases a with | cons a1 a => cases a with | cons a2 a => cases a with | cons a3 a => cases a with | cons a4 a => cases a with | cons a5 a => cases a with | cons a6 a =>
      cases a
      cases a1; cases a2; cases a3; cases a4; cases a5; cases a6
      exact .cons (.str _) (.cons (.int _) (.cons (.int _) (.cons (.int _) (.cons (.int _) (.cons (.int _) .nil)))))
    | space h f =>
      cases a with | cons a1 a => cases a with | cons a2 a => cases a with | cons a3 a =>
      cases a
      cases a1; cases a2; cases a3
      exact .cons (.str _) (.cons (.int _) (.cons (.bl _) .nil))
    | pen c =>
      cases a with | cons a1 a => cases a with | cons a2 a =>
      cases a
      cases a1; cases a2
      exact .cons (.str _) (.cons (.int _) .nil)
    | fin =>
      cases a with | cons a1 a =>
      cases a
      cases a1
      exact .cons (.str _) .nil
    | flt b h =>
      cases a with | cons a1 a => cases a with | cons a2 a => cases a with | cons a3 a =>
      cases a
      cases a1; cases a2; cases a3
      exact .cons (.str _) (.cons (.int _) (.cons (.int _) .nil))⟩
end Ly
namespace Ly
theorem ne_len {α : Type} {xs : List α} (h : (!xs.isEmpty) = true) : 0 < xs.length := by
  cases xs with
  | nil => cases h
  | cons x r => exact Nat.succ_pos _
end Ly
namespace Ly
theorem cutL_le {α : Type} {xs : List α} {a b : Option Int} : (cutL xs a b).length ≤ xs.length := by
  unfold cutL
  rw [List.length_take, List.length_drop]
  omega
end Ly

namespace Ly
open PySem PySem.Spec PyProof.Rows L2 Evl
open PySem.W (Datum DatumOrd Tup T3 T4 minOf)
/-! ### what is never reached; own things lent; defaults -/
def tFls : TE := fun _ _ _ => False
theorem pe_never {X : Cx} {e : Expr} : PE X e tFls := ⟨fun _ _ _ _ _ _ h => h.elim⟩
section
variable {K : PySem.W.Frag} {Mc M M' : List Addr} {He H H1 : Hp} {is : Ims} {ms : Mus} {σ : L2.St} {te ta tl : TE} {tu tz : TS} {g : TG} {D : Ends}
variable {α β γ : Type} [DecidableEq α] [Dx α] [DecidableEq β] [Dx β] [DecidableEq γ] [Dx γ]
/-- a number reckoned from own things that are only read: the mask may be less -/
theorem hv_lendI {i : Int} (h : Hv K M' te σ H i) (hm : ∀ a ∈ M', a ∈ M) : Hv K M te σ H i := fun H1 e1 m Q q =>
  h H1 e1 (fun a ha => m a (hm a ha)) Q fun v H2 e2 d => q v H2 e2 (by rw [d.int]; exact Dt.ofInt _)
theorem hv_lendB {b : Bool} (h : Hv K M' te σ H b) (hm : ∀ a ∈ M', a ∈ M) : Hv K M te σ H b := fun H1 e1 m Q q =>
  h H1 e1 (fun a ha => m a (hm a ha)) Q fun v H2 e2 d => q v H2 e2 (by rw [d.bool]; exact Dt.ofBool _)
/-- for over nothing -/
theorem zq_forNil {xs : List α} (s : Sg K Mc He H is ms) (h : Hv K (muA ms ++ Mc) tl σ H xs) (hx : xs = []) (q : ∀ H1, Sg K Mc He H1 is ms → tz D σ H1) : tSeq (tFor (iList K tl) g tu) tz D σ H :=
  zq_for s h (fun v i σ' H' => σ' = σ ∧ Sg K Mc He H' ((v, Dx.toX xs) :: is) ms) (fun v H1 s1 => ⟨rfl, s1⟩) (fun v i σ' H' hP => hP.2.im.1) (fun v i x w σ' H' hi _ _ => by rw [hx] at hi; cases hi)
    (fun v σ' H' hP => by obtain ⟨rfl, s1⟩ := hP; exact q H' (s1.keep fun _ h => h.2))
theorem zq_forNilV {xs : Tup α} (s : Sg K Mc He H is ms) (h : Hv K (muA ms ++ Mc) tl σ H xs) (hx : xs.items = []) (q : ∀ H1, Sg K Mc He H1 is ms → tz D σ H1) : tSeq (tFor (iTup K tl) g tu) tz D σ H :=
  h H (Ex.refl H) s.mok _ fun v H1 e d => by
    obtain ⟨a, us, rfl, s1, ds⟩ := d.tupv
    have hl := ds.len
    rw [hx] at hl
    have s1' : SqT K H1 a us := ex_t msk_le s1
    refine ⟨a, rfl, ⟨us, s1'⟩, fun i m σ' H' => i = 0 ∧ σ' = σ ∧ H' = H1, ⟨0, rfl, rfl, rfl⟩, ?_⟩
    rintro i m σ' H' ⟨rfl, rfl, rfl⟩
    exact .inl ⟨⟨us, s1', Nat.le_of_eq hl⟩, q _ (s.ex e)⟩
/-- for over nothing, counted -/
theorem zq_forNilE {xs : List α} (s : Sg K Mc He H is ms) (h : Hv K (muA ms ++ Mc) tl σ H xs) (hx : xs = []) (q : ∀ H1, Sg K Mc He H1 is ms → tz D σ H1) : tSeq (tFor (iEnum K (tCons tl tNil)) g tu) tz D σ H :=
  zq_forE s h (fun v i σ' H' => σ' = σ ∧ Sg K Mc He H' ((v, Dx.toX xs) :: is) ms) (fun v H1 s1 => ⟨rfl, s1⟩) (fun v i σ' H' hP => ⟨hP.2.im.1, hP.2.mok⟩) (fun v i x w σ' H' H'' hi _ _ _ => by rw [hx] at hi; cases hi)
    (fun v σ' H' hP => by obtain ⟨rfl, s1⟩ := hP; exact q H' (s1.keep fun _ h => h.2))
/-- tuple(a tuple) -/
theorem hv_tupleOfV {xs : Tup α} (h : Hv K M te σ H xs) : Hv K M (tCB (fun xs H Q => ∃ p ys, xs = [.ref p] ∧ ((SqL K H p ys ∧ ∀ l, H l = none → Q (.ref l) (upd H l (.tup ys))) ∨ (SqT K H p ys ∧ Q (.ref p) H))) (tCons te tNil)) σ H xs := fun H1 e m Q q =>
  h H1 e m _ fun v H2 e2 d => by
    obtain ⟨a, us, rfl, s1, ds⟩ := d.tupv
    exact ⟨a, us, rfl, .inr ⟨ex_t msk_le s1, q _ H2 e2 (Dt.ofTupv s1 ds)⟩⟩
end
/-! ### loops over lists that may be broken off -/
def loopBL {α S : Type} (f : S → α → Lp Unit S) : List α → S → S
  | [], s => s
  | x :: xs, s => match f s x with
    | .ret _ => s
    | .brk u => u
    | .nxt u => loopBL f xs u
theorem loopBL_nxt {α S : Type} {f : S → α → Lp Unit S} {xs : List α} {i : Nat} {x : α} {s u : S} (h : xs[i]? = some x) (e : f s x = .nxt u) : loopBL f (xs.drop i) s = loopBL f (xs.drop (i + 1)) u := by
  rw [drop_at h, loopBL, e]
theorem loopBL_brk {α S : Type} {f : S → α → Lp Unit S} {xs : List α} {i : Nat} {x : α} {s u : S} (h : xs[i]? = some x) (e : f s x = .brk u) : loopBL f (xs.drop i) s = u := by
  rw [drop_at h, loopBL, e]
theorem loopBL_end {α S : Type} {f : S → α → Lp Unit S} {xs : List α} {s : S} : loopBL f (xs.drop xs.length) s = s := by rw [List.drop_length]; rfl
end Ly
namespace Ly
open PySem PySem.Spec PyProof.Rows L2 Evl
open PySem.W (Datum DatumOrd Tup T3 T4 minOf)
section
variable {K : PySem.W.Frag} {Mc M M' : List Addr} {He H H1 : Hp} {is : Ims} {ms : Mus} {σ : L2.St} {te ta tl : TE} {tu tz : TS} {g : TG} {D : Ends}
variable {α β γ : Type} [DecidableEq α] [Dx α] [DecidableEq β] [Dx β] [DecidableEq γ] [Dx γ]
theorem zq_expr {x : α} (s : Sg K Mc He H is ms) (h : Hv K (muA ms ++ Mc) te σ H x) (q : ∀ H1, Sg K Mc He H1 is ms → tz D σ H1) : tSeq (tDrop te) tz D σ H :=
  h H (Ex.refl H) s.mok _ fun v H1 e d => q H1 (s.ex e)
theorem z_forG {xs : List α} {j : Nat} (s : Sg K Mc He H is ms) (h : Hv K (muA ms ++ Mc) tl σ H xs) (Pv : V → Nat → L2.St → Hp → Prop) (h0 : ∀ v H1, Sg K Mc He H1 ((v, Dx.toX xs) :: is) ms → Pv v 0 σ H1)
    (hl : ∀ v i σ' H', Pv v i σ' H' → Dt K (msk (muA ms ++ Mc) H') v xs)
    (hs : ∀ v i x w σ' H', xs[i]? = some x → Pv v i σ' H' → Dt K (msk (muA ms ++ Mc) H') w x → tu { D with nx := Pv v (i + 1), ct := Pv v (i + 1), bk := D.nx } (σ'.set j (some w)) H')
    (hd : ∀ v σ' H', Pv v xs.length σ' H' → D.nx σ' H') : tFor (iList K tl) (gName j) tu D σ H := z_for s h Pv h0 hl hs hd
theorem hf_lcNil {vs : List Nat} (s : Sg K Mc He H is ms) {xs : List α} (d : β) (h : Hv K (muA ms ++ Mc) tl σ H xs) (hx : xs = []) : HF K (muA ms ++ Mc) (tLc (iList K tl) g tYes te vs) σ H ([] : List β) := by
  have z := hf_lcL0 (te := te) (g := g) (vs := vs) s (fun _ => d) h (by rw [hx]; exact Nat.zero_le _) (fun _ _ x _ _ _ _ hm => by rw [hx] at hm; cases hm)
  rw [hx] at z
  exact z
theorem hf_lcNilV {vs : List Nat} (s : Sg K Mc He H is ms) {xs : Tup α} (d : β) (h : Hv K (muA ms ++ Mc) tl σ H xs) (hx : xs.items = []) : HF K (muA ms ++ Mc) (tLc (iTup K tl) g tYes te vs) σ H ([] : List β) := by
  have z := hf_lcV0 (te := te) (g := g) (vs := vs) s (fun _ => d) h (by rw [hx]; exact Nat.zero_le _) (fun _ _ x _ _ _ _ hm => by rw [hx] at hm; cases hm)
  rw [hx] at z
  exact z
theorem Dt.ofNon {H : Hp} : Dt K H .non () := .non
end
end Ly
namespace Ly
open PySem PySem.Spec PyProof.Rows L2 Evl
section
variable {K : PySem.W.Frag} {M : List Addr} {H : Hp} {σ : L2.St} {β : Type} [DecidableEq β] [Dx β] {γ : Type}
/-- C(k = v, ..), where defaults stand for the rest -/
theorem hv_makeKD {args : γ → List Xd} {pre : γ → Prop} {F : γ → β} {tr : TA} {E : XK} {cn : Str} {C : Addr} {n : Nat} {ds : List Xd} {gV : List V → List V → List V} (c : γ) (t : Ct K cn C) (h : HD K M tr σ H ds) (hn : ds.length = n) (p : pre c)
    (hg : ∀ (x : V) (vs : List V) (H2 : Hp), XpAll K H2 vs ds → ∃ ws, gV [x] vs = x :: ws ∧ XpAll K H2 ws (args c)) :
    Hv K M (tMakeK C 0 n (PrI K cn args pre F) gV E tNil tr) σ H (F c) := fun H1 e1 mk Q q =>
  h H1 e1 mk _ fun vs H2 e2 dd => ⟨rfl, by rw [dpa_len dd]; exact hn, fun x dx hx hdx ne => by
    have m2 := mk.ex e2
    have hx2 : upd H2 dx (.own x) x = none := by rw [upd_ne (fun z => ne z.symm)]; exact hx
    have ea : Ex H2 (upd H2 dx (.own x)) := Ex.new hdx
    have eb : Ex (upd H2 dx (.own x)) (upd (upd H2 dx (.own x)) x (.ins C dx [])) := Ex.new hx2
    have hxM : x ∉ M := fun z => m2 x z hx
    obtain ⟨ws, ew, dw⟩ := hg (.ref x) vs _ (dpa_mono ((msk_ex ea).trans (msk_new hx2)) dd)
    refine ⟨M, x, C, dx, ws, c, ew, ?_, hxM, t.ns, upd_same, dw, p, fun H' e' d => ⟨rfl, q _ _ ?_ d⟩⟩
    · intro l hl
      rcases List.mem_cons.mp hl with rfl | hl
      · rw [upd_same]; exact fun z => nomatch z
      · exact ((m2.ex ea).ex eb) l hl
    · refine e2.trans fun a o ho => e' a o ?_
      have na : a ≠ x := fun z => by rw [z, hx] at ho; cases ho
      rw [msk_out (by simpa using na)]
      exact eb a o (ea a o ho)⟩
end
end Ly

namespace Ly
open PySem PySem.Spec PyProof.Rows L2 Evl
theorem looks_forIn {α β : Type} {M : Model} {h : Heap} {f : α → β → Sem (ForInStep β)} : ∀ (xs : List α) (st : Nat → β), (∀ i x, xs[i]? = some x → PySem.W.Looks M h (f x (st i)) (.yield (st (i + 1)))) → PySem.W.Looks M h (forIn xs (st 0) f) (st xs.length)
  | [], st, _ => .of_pure rfl
  | x :: xs, st, hs => by
    rw [List.forIn_cons]
    refine (hs 0 x rfl).andThen ?_
    exact looks_forIn xs (fun i => st (i + 1)) fun i y hy => hs (i + 1) y (by simpa using hy)
theorem lk_none {α : Type} : ∀ {l : List (Str × α)} {n : Str}, n ∉ l.map (·.1) → l.lookup n = none
  | [], _, _ => rfl
  | (g, v) :: r, n, h => by
    have h' : ¬ (n = g ∨ n ∈ r.map (·.1)) := by simpa using h
    rw [List.lookup_cons, show (n == g) = false by simpa using fun z => h' (.inl z)]
    exact lk_none fun z => h' (.inr z)
theorem lk_app {α : Type} : ∀ {l r : List (Str × α)} {n : Str}, (l ++ r).lookup n = (l.lookup n).or (r.lookup n)
  | [], r, n => rfl
  | (g, v) :: l, r, n => by
    rw [List.cons_append, List.lookup_cons, List.lookup_cons]
    cases n == g with
    | true => rfl
    | false => exact lk_app
theorem fm_some {α β : Type} {f : α → Option β} {g : α → β} : ∀ xs : List α, (∀ x ∈ xs, f x = some (g x)) → xs.filterMap f = xs.map g
  | [], _ => rfl
  | x :: xs, h => by
    rw [List.filterMap_cons, h x (List.mem_cons_self ..), List.map_cons, fm_some xs fun y hy => h y (List.mem_cons_of_mem _ hy)]
/-- the slots behind i of the keyword-only names -/
def kwSlots (dv : Str → Value) (sl : List (Str × Value)) : List Str → List (Str × Value)
  | [] => sl
  | n :: r => kwSlots dv (if (sl.lookup n).isNone then sl ++ [(n, dv n)] else sl) r
theorem kwSlots_snoc (dv : Str → Value) : ∀ (ns : List Str) (sl : List (Str × Value)) (n : Str), kwSlots dv sl (ns ++ [n]) = (if ((kwSlots dv sl ns).lookup n).isNone then kwSlots dv sl ns ++ [(n, dv n)] else kwSlots dv sl ns)
  | [], sl, n => rfl
  | m :: ns, sl, n => kwSlots_snoc dv ns _ n
theorem kwSlots_lk (dv : Str → Value) : ∀ (ns : List Str) (sl : List (Str × Value)) (n : Str), (kwSlots dv sl ns).lookup n = if n ∈ ns then some ((sl.lookup n).getD (dv n)) else sl.lookup n
  | [], sl, n => by simp [kwSlots]
  | m :: ns, sl, n => by
    rw [kwSlots, kwSlots_lk dv ns]
    by_cases e : n = m
    · subst e
      cases q : sl.lookup n with
      | none =>
        have e1 : (if (none : Option Value).isNone = true then sl ++ [(n, dv n)] else sl).lookup n = some (dv n) := by
          simp only [Option.isNone_none, if_true, lk_app, q, List.lookup_cons, beq_self_eq_true]; rfl
        rw [e1]
        simp
      | some z =>
        have e1 : (if (some z : Option Value).isNone = true then sl ++ [(n, dv n)] else sl).lookup n = some z := by
          rw [if_neg (by simp)]; exact q
        rw [e1]
        simp
    · have e1 : (if (sl.lookup m).isNone = true then sl ++ [(m, dv m)] else sl).lookup n = sl.lookup n := by
        split
        · rw [lk_app, List.lookup_cons, show (n == m) = false by simpa using e]; simp [List.lookup]
        · rfl
      rw [e1]
      simp [e]
theorem bind_kw1 {K : PySem.W.Frag} {fd : FuncData} {D : Addr} {sp : Str} {kn : List Str} (h1 : fd.params.posonlyargs = []) (h2 : fd.params.args.map (·.arg) = [sp]) (h3 : fd.params.kwonlyargs.map (·.arg) = kn) (h4 : fd.params.vararg = none) (h5 : fd.params.kwarg = none) (h6 : fd.defaults = .none) (h7 : fd.kwdefaults = .ref D) (nd : (sp :: kn).Nodup)
    {h : Heap} (X : K.In h) (v : Value) (kws : List (Str × Value)) (hk : ∀ q ∈ kws, q.1 ∈ kn) (ndk : (kws.map (·.1)).Nodup) (dv : Str → Value) (hd : ∀ n ∈ kn, kws.lookup n = none → PySem.W.nsIn K D n = some (some (dv n))) (M : Model) :
    PySem.W.Looks M h (bindArgs fd ⟨[v], kws⟩) ((sp, v) :: kn.map fun n => (n, (kws.lookup n).getD (dv n))) := by
  have nsp : sp ∉ kn := (List.nodup_cons.mp nd).1
  unfold bindArgs
  simp only [h1, h2, h3, h4, h5, h6, h7]
  refine PySem.W.Looks.andThen (looks_forIn kws (fun i => ([(sp, v)] ++ kws.take i, ([] : List (Str × Value)))) fun i x hx => ?_) ?_
  · have hm := hk x (List.mem_of_getElem? hx)
    have hc : ([sp].contains x.fst || kn.contains x.fst) = true := by simp [hm]
    have hl : (List.lookup x.fst ([(sp, v)] ++ kws.take i)) = none := lk_none (by
      intro z
      rw [List.map_append, List.mem_append] at z
      rcases z with z | z
      · have : x.fst = sp := by simpa using z
        exact nsp (this ▸ hm)
      · rw [List.map_take] at z
        have hi := (List.getElem?_eq_some_iff.mp hx)
        obtain ⟨hi1, hi2⟩ := hi
        have h2 : (kws.map (·.1))[i]? = some x.1 := by rw [List.getElem?_map, hx]; rfl
        obtain ⟨j, hj, hj2⟩ := List.getElem_of_mem z
        rw [List.length_take] at hj
        rw [List.getElem_take] at hj2
        obtain ⟨hb, h3⟩ := List.getElem?_eq_some_iff.mp h2
        exact (List.pairwise_iff_getElem.mp ndk j i (by omega) hb (by omega)) (hj2.trans h3.symm))
    dsimp only
    rw [if_pos hc, hl, if_neg (by simp)]
    refine .of_pure ?_
    rw [List.take_succ, hx, List.append_assoc]; rfl
  · dsimp only
    rw [List.take_length]
    refine PySem.W.Looks.andThen (a := none) (.of_pure rfl) ?_
    rw [if_neg (by simp), if_neg (by simp [List.lookup])]
    refine PySem.W.Looks.andThen (a := [(sp, v)] ++ kws) (.of_pure rfl) ?_
    have nk := (List.nodup_cons.mp nd).2
    have lks : ∀ n ∈ kn, ([(sp, v)] ++ kws).lookup n = kws.lookup n := fun n hn => by
      rw [List.cons_append, List.lookup_cons, show (n == sp) = false by simpa using fun (z : n = sp) => nsp (z ▸ hn)]; rfl
    refine PySem.W.Looks.andThen (looks_forIn kn (fun i => (kwSlots dv ([(sp, v)] ++ kws) (kn.take i), ([] : List Str))) fun i n hn => ?_) ?_
    · have hm := List.mem_of_getElem? hn
      have nt : n ∉ kn.take i := fun z => by
        obtain ⟨j, hj, hj2⟩ := List.getElem_of_mem z
        rw [List.length_take] at hj
        rw [List.getElem_take] at hj2
        obtain ⟨hb, h3⟩ := List.getElem?_eq_some_iff.mp hn
        exact (List.pairwise_iff_getElem.mp nk j i (by omega) hb (by omega)) (hj2.trans h3.symm)
      have hl : (kwSlots dv ([(sp, v)] ++ kws) (kn.take i)).lookup n = kws.lookup n := by
        rw [kwSlots_lk, if_neg nt, lks n hm]
      have hs : kwSlots dv ([(sp, v)] ++ kws) (kn.take (i + 1)) = if (kws.lookup n).isNone then kwSlots dv ([(sp, v)] ++ kws) (kn.take i) ++ [(n, dv n)] else kwSlots dv ([(sp, v)] ++ kws) (kn.take i) := by
        rw [List.take_succ, hn]
        show kwSlots dv _ (kn.take i ++ [n]) = _
        rw [kwSlots_snoc, hl]
      dsimp only
      rw [hl, hs]
      cases q : kws.lookup n with
      | none =>
        simp only [Option.isNone_none, if_true]
        refine (PySem.W.looks_nsIn X (hd n hm q)).andThen ?_
        exact .of_pure rfl
      | some z =>
        simp only [Option.isNone_some, Bool.false_eq_true, if_false]
        exact .of_pure rfl
    · rw [List.take_length]
      refine .of_pure ?_
      dsimp only
      rw [if_neg (by simp)]
      congr 1
      show List.filterMap _ (sp :: kn) = _
      have e0 : (kwSlots dv ([(sp, v)] ++ kws) kn).lookup sp = some v := by
        rw [kwSlots_lk, if_neg nsp, List.cons_append, List.lookup_cons, beq_self_eq_true]
      rw [List.filterMap_cons, e0]
      show (sp, v) :: _ = _
      congr 1
      refine fm_some _ fun n hn => ?_
      rw [kwSlots_lk, if_pos hn, lks n hn]
      rfl
/-- the place of a name -/
def nix (n : Str) : List Str → Option Nat
  | [] => none
  | m :: r => if n = m then some 0 else (nix n r).map (· + 1)
theorem nix_zip {n : Str} : ∀ {ns : List Str} {ws : List Value}, ws.length = ns.length → (ns.zip ws).lookup n = (nix n ns).map fun i => ws.getD i .none
  | [], _, _ => rfl
  | m :: r, w :: ws, h => by
    rw [List.zip_cons_cons, List.lookup_cons, nix]
    by_cases e : n = m
    · rw [if_pos e, show (n == m) = true by simpa using e]; rfl
    · rw [if_neg e, show (n == m) = false by simpa using e]
      dsimp only
      rw [nix_zip (by simpa using h), Option.map_map]
      rfl
theorem nix_some {n : Str} : ∀ {ns : List Str}, n ∈ ns → ∃ i, nix n ns = some i ∧ ns[i]? = some n
  | m :: r, h => by
    by_cases e : n = m
    · exact ⟨0, by rw [nix, if_pos e], by rw [e]; rfl⟩
    · obtain ⟨i, h1, h2⟩ := nix_some ((List.mem_cons.mp h).resolve_left e)
      exact ⟨i + 1, by rw [nix, if_neg e, h1]; rfl, by simpa using h2⟩
def kcode (given mn : List Str) (n : Str) : Bool × Nat := match nix n given with
  | some i => (true, i)
  | none => (false, (nix n mn).getD 0)
def pickU (mv ws : List Value) (c : Bool × Nat) : Value := if c.1 = true then ws.getD c.2 .none else mv.getD c.2 .none
def pickW (mz zs : List V) (c : Bool × Nat) : V := if c.1 = true then zs.getD c.2 .non else mz.getD c.2 .non
theorem vals_getD : ∀ {zs : List V} {ws : List Value} (i : Nat), Vals zs ws → RelV (zs.getD i .non) (ws.getD i .none)
  | _, _, _, .nil => by simp only [List.getD_nil]; rfl
  | _, _, 0, .cons r _ => r
  | _, _, i + 1, .cons _ rr => by simpa using vals_getD i rr
theorem vals_map {zs mz : List V} {ws mv : List Value} (r : Vals zs ws) (rm : Vals mz mv) : ∀ cs : List (Bool × Nat), Vals (cs.map (pickW mz zs)) (cs.map (pickU mv ws))
  | [] => .nil
  | c :: cs => .cons (by unfold pickW pickU; split; exact vals_getD _ r; exact vals_getD _ rm) (vals_map r rm cs)
theorem kbn_kw {K : PySem.W.Frag} {x qual : Str} {params : Arguments} {body : List Stmt} {scope : Scope} {D : Addr} {doc pm cdv ct : Value} {an : Option Addr} {sp : Str} {kn : List Str} (given mn : List Str) (codes : List (Bool × Nat)) (mz : List V) (mv : List Value)
    (h1 : params.posonlyargs = []) (h2 : params.args.map (·.arg) = [sp]) (h3 : params.kwonlyargs.map (·.arg) = kn) (h4 : params.vararg = none) (h5 : params.kwarg = none) (nd : (sp :: kn).Nodup)
    (hg : ∀ n ∈ given, n ∈ kn) (gd : given.Nodup) (hm : ∀ n ∈ kn, n ∈ given ∨ n ∈ mn) (hc : kn.map (kcode given mn) = codes) (hmv : ∀ i n, mn[i]? = some n → PySem.W.nsIn K D n = some (some (mv.getD i .none))) (rm : Vals mz mv) :
    KBn K (PySem.W.fnOf x qual params body scope .none (.ref D) doc pm an cdv ct) (sp :: kn) 1 given (fun us ws => us ++ codes.map (pickU mv ws)) (fun vs zs => vs ++ codes.map (pickW mz zs)) := by
  refine ⟨fun s us ws X l1 l2 => ?_, fun r1 r2 => r1.append (vals_map r2 rm codes)⟩
  match us, l1 with
  | [v], _ =>
    have fst_zip : (given.zip ws).map (·.1) = given := by
      rw [List.map_fst_zip]; omega
    refine BindsTo.of_looks fun M => ?_
    have key := bind_kw1 (fd := PySem.W.fnOf x qual params body scope .none (.ref D) doc pm an cdv ct) h1 h2 h3 h4 h5 rfl rfl nd X v (given.zip ws) (fun q hq => hg _ (by rw [← fst_zip]; exact List.mem_map_of_mem hq)) (by rw [fst_zip]; exact gd)
      (fun n => mv.getD ((nix n mn).getD 0) .none) (fun n hn hl => by
        have ng : n ∉ given := fun z => by
          obtain ⟨i, e1, e2⟩ := nix_some z
          rw [nix_zip l2, e1] at hl
          cases hl
        obtain ⟨i, e1, e2⟩ := nix_some ((hm n hn).resolve_left ng)
        rw [e1]
        exact hmv i n e2) M
    have e : (sp, v) :: kn.map (fun n => (n, ((given.zip ws).lookup n).getD (mv.getD ((nix n mn).getD 0) .none))) = (sp :: kn).zip ([v] ++ codes.map (pickU mv ws)) := by
      rw [← hc, List.map_map, List.singleton_append, List.zip_cons_cons]
      congr 1
      have z : ∀ l : List Str, l.map (fun n => (n, ((given.zip ws).lookup n).getD (mv.getD ((nix n mn).getD 0) .none))) = l.zip (l.map (pickU mv ws ∘ kcode given mn)) := by
        intro l
        induction l with
        | nil => rfl
        | cons n l ih =>
          rw [List.map_cons, List.map_cons, List.zip_cons_cons, ih, nix_zip l2]
          congr 2
          show _ = pickU mv ws (kcode given mn n)
          unfold kcode
          split <;> rename_i q <;> rw [q] <;> rfl
      exact z kn
    rw [← e]
    exact key
end Ly
namespace Ly
open PySem PySem.Spec PyProof.Rows L2 Evl
theorem xp_at {K : PySem.W.Frag} {H : Hp} : ∀ {vs : List V} {ds : List Xd} {d : Xd} (i : Nat), XpAll K H vs ds → ds[i]? = some d → Xp K H (vs.getD i .non) d
  | _, _, _, _, .nil, h => by simp at h
  | _, _, _, 0, .cons a _, h => by cases h; exact a
  | _, _, _, i + 1, .cons _ b, h => by simpa using xp_at i b (by simpa using h)
end Ly
namespace Ly
open PySem PySem.Spec PyProof.Rows L2 Evl
/-! ### enumerate(an empty tuple) -/
theorem enumV_new {v : Value} {o : Obj} {S : Heap → Prop} (B : Begins v o S) :
    Meets (Builtin.«enumerate.__new__» ⟨[.type "enumerate", v], []⟩) (fun _ R s => S s.heap ∧ R (.ok (.ret (.ref (s.heap.push o).objs.size))) { s with heap := (s.heap.push o).push { cls := .type "enumerate", data := .fields #[.none, .bool false, .ref s.heap.objs.size, rawInt 0, .none, .none] } }) :=
  .of_wp fun pr wo Ar R sh hh => by
    obtain ⟨ph, pg, pd, pt, po⟩ := sh; obtain ⟨b1, b2⟩ := hh; have su := sub_enumerate
    have q1 : ∀ {A' : Around} {E : Value → Shared → Prop} {Q : Value → Shared → Prop}, Q (.ref ph.objs.size) ⟨ph.push o, pg, pd, pt, po⟩ → wpAny (model pr wo) A' (pyIter v) Q E ⟨ph, pg, pd, pt, po⟩ := fun q => B.iter pr wo _ _ ⟨ph, pg, pd, pt, po⟩ _ b1 q
    wp_walk using q1
    refine wpAny_stack_any fun zz => wpAny_pure ?_; split
    · rename_i cc _ _ _ _ _
      cases (cc == Value.type "enumerate") <;> (wp_walk using q1; exact ⟨_, rfl, b2⟩)
    · wp_walk using q1; exact ⟨_, rfl, b2⟩
theorem enumV_begins {prog : Program} {w : World} {A : Around} {E : Value → Shared → Prop} {s : Shared} {v : Value} {o : Obj} {S : Heap → Prop} {Q : Value → Shared → Prop} (B : Begins v o S) (h1 : S s.heap)
    (h : ∀ h', IsEnum h' (s.heap.objs.size + 1) s.heap.objs.size 0 .none → h'.get? s.heap.objs.size = some o → h'.objs.size = s.heap.objs.size + 2 → (∀ b o, s.heap.get? b = some o → h'.get? b = some o) → Q (.ref (s.heap.objs.size + 1)) { s with heap := h' }) :
    wpAny (model prog w) A (call (.type "enumerate") [v]) Q E s := by
  refine callType_new F.called_enumerate (by decide) (F.typeCall_enumerate_1 _) (F.newCall_enumerate_1 _) (fun y => F.args_object_init_2 y _) F.entry_enumerate_new (enumV_new B) ⟨h1, ?_⟩
  have z1 : (s.heap.push o).objs.size = s.heap.objs.size + 1 := Heap.size_push ..
  show _ ∧ _
  rw [z1]
  have z2 : IsEnum ((s.heap.push o).push { cls := .type "enumerate", data := .fields #[.none, .bool false, .ref s.heap.objs.size, rawInt 0, .none, .none] }) (s.heap.objs.size + 1) s.heap.objs.size 0 .none := by
    have z3 := Heap.get?_push_size (s.heap.push o) (o := { cls := .type "enumerate", data := .fields #[.none, .bool false, .ref s.heap.objs.size, rawInt 0, .none, .none] }) rfl
    rw [z1] at z3; exact z3
  exact ⟨⟨_, z2, rfl⟩, h _ z2 (Heap.get?_push_of_some _ (Heap.get?_push_size _ B.free)) (by rw [Heap.size_push, z1]) fun b o x => Heap.get?_push_of_some _ (Heap.get?_push_of_some _ x)⟩
/-- enumerate of an empty tuple: it only stops -/
def IteV (K : PySem.W.Frag) (a : Addr) : It := ⟨fun i H => False, fun i H v H' => False, fun i H => i = 0 ∧ SqT K H a []⟩
theorem turn_enumV {P : Program} {w : World} {K : PySem.W.Frag} {elts : List Expr} {kk : Nat} {tpos : Pos} (a e it : Addr) (hne : e ≠ it) :
    Turn P w K (.Tuple elts kk tpos) (IteV K a) [e, it] e (fun i h => (∃ old, IsEnum h e it ((i : Nat) : Int) old) ∧ h.IsTupleIter it a i) where
  mem := by simp
  obj := fun i h st b hb => by
    obtain ⟨⟨old, he⟩, ⟨o, ho, hc, hd⟩⟩ := st
    have z : b = e ∨ b = it := by simpa using hb
    rcases z with z | z
    · rw [z]; exact ⟨_, he, fun v q => nomatch q⟩
    · rw [z]; exact ⟨o, ho, fun v q => by rw [hd] at q; cases q⟩
  keep := fun i h h' st k => by
    obtain ⟨⟨old, he⟩, hi⟩ := st
    exact ⟨⟨old, k e (by simp) _ he⟩, hi.at fun o q => k it (by simp) o q⟩
  item := by
    intro X hP hw hK hc i pins s σ H E I hf st hg
    exact hg.elim
  done := by
    intro X hP hw hK hc i pins s σ H E I hf st hg
    subst hP hw hK
    obtain ⟨rfl, hq⟩ := hg
    obtain ⟨⟨old, he⟩, hit⟩ := st
    obtain ⟨la, ra, pa, _⟩ := I.tuple hq
    cases ra
    have na : a ≠ it := fun q => by
      obtain ⟨oa, ha, ka, _⟩ := pa
      obtain ⟨ob, hb, kb, _⟩ := hit
      rw [q, hb] at ha
      cases ha
      rw [kb] at ka
      exact absurd (Value.type.inj ka) (by decide)
    have dr := Draws.tuple (prog := X.prog) (w := X.w) (show X.A.in1.handled = none from I.ok.hd hc) it a na #[]
    refine wpAny_pyNext_enum_endD dr he ⟨hit, pa⟩ fun h1 d => ⟨rfl, ?_⟩
    refine I.turnedL (t' := s.toks) (ch := [e, it]) (fun c o n q => ?_) hf
    exact d c o (fun t => n (by rw [t]; simp)) q
  self := fun A i s Q E st h => by
    obtain ⟨⟨_, he⟩, _⟩ := st
    exact wpAny_pyIter_enum he h
def iEnumV (K : PySem.W.Frag) (ta : TA) : TI := fun σ H R => ta σ H fun vs H1 => ∃ a, vs = [.ref a] ∧ SqT K H1 a [] ∧ R (IteV K a) H1
theorem pi_enumV {X : Cx} {e : Expr} {ta : TA} {p pos tpos : Pos} {elts : List Expr} {kk : Nat} (hg : Gl X "enumerate") (hm : X.mg "enumerate" = none) (ha : PA X [e] ta) (hs : starEach [e] X.env = [(false, eval e X.env)] := by rfl) :
    PI X (.Tuple elts kk tpos) (.Call (.Name "enumerate" p) [e] [] pos) (iEnumV X.K ta) := by
  constructor
  intro pins s σ H R I h
  refine Call_ (ld_blt I hg hm boot_enumerate (PyProof.Rows.callWith_type1 (thn (ha.run pos pins s σ H _ I h) ?_) hs rfl))
  rintro us s1 ⟨vs, H1, J, rz, a, rfl, hq, q⟩
  cases rz with
  | cons r rr =>
    cases rr; cases r
    obtain ⟨la, ra, pa, _⟩ := J.tuple hq
    cases ra
    refine enumV_begins (begins_tuple a #[]) pa fun h' he hit hsz hk => wpAny_pyIter_enum he ?_
    refine ⟨s1.heap.objs.size + 1, [s1.heap.objs.size + 1, s1.heap.objs.size], _, _, H1, rfl, J.kept (t' := s1.toks) hk, turn_enumV a (s1.heap.objs.size + 1) s1.heap.objs.size (Nat.succ_ne_self _), ⟨⟨.none, he⟩, ⟨_, hit, rfl, rfl⟩⟩, fun b hb => ?_, q⟩
    have le : s1.heap.objs.size ≤ b := by
      rcases (by simpa using hb : b = s1.heap.objs.size + 1 ∨ b = s1.heap.objs.size) with rfl | rfl <;> omega
    exact J.fpOk le (J.hok.fresh le)
section
variable {K : PySem.W.Frag} {Mc M : List Addr} {He H : Hp} {is : Ims} {ms : Mus} {σ : L2.St} {tl : TE} {tu tz : TS} {g : TG} {D : Ends} {α : Type} [DecidableEq α] [Dx α]
theorem zq_forNilEV {xs : PySem.W.Tup α} (s : Sg K Mc He H is ms) (h : Hv K (muA ms ++ Mc) tl σ H xs) (hx : xs.items = []) (q : ∀ H1, Sg K Mc He H1 is ms → tz D σ H1) : tSeq (tFor (iEnumV K (tCons tl tNil)) g tu) tz D σ H :=
  h H (Ex.refl H) s.mok _ fun v H1 e d => by
    obtain ⟨a, us, rfl, s1, ds⟩ := d.tupv
    have hl := ds.len
    rw [hx] at hl
    have hu : us = [] := List.length_eq_zero_iff.mp hl
    subst hu
    have s1' : SqT K H1 a [] := ex_t msk_le s1
    refine ⟨a, rfl, s1', fun i m σ' H' => i = 0 ∧ σ' = σ ∧ H' = H1, ⟨0, rfl, rfl, rfl⟩, ?_⟩
    rintro i m σ' H' ⟨rfl, rfl, rfl⟩
    exact .inl ⟨⟨rfl, s1'⟩, q _ (s.ex e)⟩
end
end Ly
namespace Ly
open PySem PySem.Spec PyProof.Rows L2 Evl
/-! ### a op1 b op2 c op3 d, as a test -/
section
variable {X : Cx} {a b c d : Expr} {ta tb tc td : TE} {pos : Pos}
def tChain3 (r1 r2 r3 : R2) (ta tb tc td : TE) : TE := fun σ H Q => ta σ H fun x H1 => tb σ H1 fun y H2 => r1 x y H2 fun z H3 => ∃ k, z = .bl k ∧
  (if k = true then tc σ H3 fun w' H4 => r2 y w' H4 fun z2 H5 => ∃ k2, z2 = .bl k2 ∧ (if k2 = true then td σ H5 fun v' H6 => r3 w' v' H6 Q else Q (.bl false) H5) else Q (.bl false) H3)
theorem pt_chain3 {o1 o2 o3 : CmpOp} {r1 r2 r3 : R2} (h1 : OpR X (compareOp o1) r1) (h2 : OpR X (compareOp o2) r2) (h3 : OpR X (compareOp o3) r3) (ha : PE X a ta) (hb : PE X b tb) (hc : PE X c tc) (hd : PE X d td)
    (hm : lastMarks [o1, o2, o3] [b, c, d] = false := by with_unfolding_all rfl) : PT X (.Compare a [o1, o2, o3] [b, c, d] pos) (tTest (tChain3 r1 r2 r3 ta tb tc td)) := by
  constructor
  intro pins s σ H Q I h
  refine isTrue_chain (thn (ha.run pins s σ H _ I h) fun v s1 ⟨x, H1, I1, rx, q1⟩ => test_link (thn (hb.run pins s1 σ H1 _ I1 q1) fun u s2 ⟨y, H2, I2, ry, q2⟩ => thn (h1 pins s2 σ H2 x y v u _ I2 rx ry q2) fun _ s3 ⟨z, H3, I3, rz, k, e, q3⟩ => ?_)) hm
  subst e; cases rz; apply wpAny_truthy_bool
  cases k with
  | false => obtain ⟨k', e', q'⟩ := q3; cases e'; exact ite_ff ⟨H3, I3, q'⟩
  | true =>
    refine ite_tt (test_link (thn (hc.run pins s3 σ H3 _ I3 q3) fun w' s4 ⟨z', H4, I4, r4, q4⟩ => thn (h2 pins s4 σ H4 y z' u w' _ I4 ry r4 q4) fun _ s5 ⟨z2, H5, I5, r5, k2, e2, q5⟩ => ?_))
    subst e2; cases r5; apply wpAny_truthy_bool
    cases k2 with
    | false => obtain ⟨k', e', q'⟩ := q5; cases e'; exact ite_ff ⟨H5, I5, q'⟩
    | true =>
      refine ite_tt (test_last (thn (hd.run pins s5 σ H5 _ I5 q5) fun p' s6 ⟨y', H6, I6, r6, q6⟩ => thn (h3 pins s6 σ H6 z' y' w' p' _ I6 r4 r6 q6) fun _ s7 ⟨z3, H7, I7, r7, k3, e3, q7⟩ => ?_))
      subst e3; cases r7; apply wpAny_truthy_bool
      exact ⟨H7, I7, q7⟩
end
section
variable {K : PySem.W.Frag} {M : List Addr} {σ : L2.St} {H : Hp} {ta tb tc td : TE}
theorem hv_chain3 {g1 g2 g3 : Int → Int → Bool} {i j k l : Int} (ha : Hv K M ta σ H i) (hb : Hv K M tb σ H j) (hc : Hv K M tc σ H k) (hd : Hv K M td σ H l) :
    Hv K M (tChain3 (rI0 fun i j => .bl (g1 i j)) (rI0 fun i j => .bl (g2 i j)) (rI0 fun i j => .bl (g3 i j)) ta tb tc td) σ H (g1 i j && (g2 j k && g3 k l)) := fun H1 e m Q q =>
  ha H1 e m _ fun v H2 e2 d => hb H2 (e.trans e2) (m.ex e2) _ fun u H3 e3 d' => ⟨i, j, d.int, d'.int, g1 i j, rfl, by
    cases hg : g1 i j with
    | false => rw [if_neg Bool.false_ne_true]; exact q _ H3 (e2.trans e3) (by rw [hg]; exact Dt.ofBool _)
    | true =>
      rw [if_pos rfl]
      refine hc H3 ((e.trans e2).trans e3) ((m.ex e2).ex e3) _ fun z H4 e4 d'' => ⟨j, k, d'.int, d''.int, g2 j k, rfl, ?_⟩
      cases hg2 : g2 j k with
      | false => rw [if_neg Bool.false_ne_true]; exact q _ H4 ((e2.trans e3).trans e4) (by rw [hg, hg2]; exact Dt.ofBool _)
      | true =>
        rw [if_pos rfl]
        refine hd H4 (((e.trans e2).trans e3).trans e4) (((m.ex e2).ex e3).ex e4) _ fun y H5 e5 d3 => ⟨k, l, d''.int, d3.int, q _ H5 (((e2.trans e3).trans e4).trans e5) ?_⟩
        show Dt K _ (V.bl (g3 k l)) _
        rw [hg, hg2]
        exact Dt.ofBool _⟩
end
end Ly
namespace Ly
open PySem PySem.Spec PyProof.Rows L2 Evl
section
variable {K : PySem.W.Frag} {M : List Addr} {σ : L2.St} {H : Hp} {te : TE}
theorem bls_of {H : Hp} : ∀ {vs : List V} {xs : List Bool}, Dts K H vs xs → vs = xs.map V.bl
  | [], [], _ => rfl
  | v :: vs, x :: xs, h => by
    cases h with
    | cons a b => rw [List.map_cons, ← bls_of b, (show Dt K H v x from a).bool]
theorem hv_allL {bs : List Bool} (h : HS K M te σ H bs) : Hv K M (tCB (rAll K) (tCons te tNil)) σ H (bs.all id) := fun H1 e m Q q =>
  h H1 e m _ fun a vs H2 e2 s ds => ⟨a, bs, rfl, by rw [← bls_of ds]; exact s, q _ H2 e2 (Dt.ofBool _)⟩
theorem hv_anyL {bs : List Bool} (h : HS K M te σ H bs) : Hv K M (tCB (rAny K) (tCons te tNil)) σ H (bs.any id) := fun H1 e m Q q =>
  h H1 e m _ fun a vs H2 e2 s ds => ⟨a, bs, rfl, by rw [← bls_of ds]; exact s, q _ H2 e2 (Dt.ofBool _)⟩
end
end Ly

namespace Ly
open PySem PySem.Spec PyProof.Rows L2 Evl
open PySem.W (Datum DatumOrd Tup T3 T4 minOf)
/-! ### set blocks: tuples of five -/
abbrev Ln := T4 Int (Tup Int) (Tup (Int × Tup Int)) (Tup Int)
structure Sbk where
  ls : Tup Ln
  hd : Int
  fl : Bool
  en : Bool
  kn : Bool
  deriving DecidableEq
instance : Dx Sbk := ⟨fun b => .tuple [Dx.toX b.ls, .int b.hd, .bool b.fl, .bool b.en, .bool b.kn]⟩
instance : SomeX Sbk := ⟨fun _ e => by cases e⟩
section
variable {K : PySem.W.Frag} {Mc M : List Addr} {He H H1 : Hp} {is : Ims} {ms : Mus} {σ : L2.St} {te tl : TE} {tz tu : TS} {D : Ends} {b : Sbk} {g : TG}
theorem hv_u0 (h : Hv K M te σ H b) : Hv K M (tOp (rIxT K) te (tC (.int 0))) σ H b.ls := hv_atX 0 h rfl rfl
theorem hv_u1 (h : Hv K M te σ H b) : Hv K M (tOp (rIxT K) te (tC (.int 1))) σ H b.hd := hv_atX 1 h rfl rfl
theorem hv_u2 (h : Hv K M te σ H b) : Hv K M (tOp (rIxT K) te (tC (.int 2))) σ H b.fl := hv_atX 2 h rfl rfl
theorem hv_u3 (h : Hv K M te σ H b) : Hv K M (tOp (rIxT K) te (tC (.int 3))) σ H b.en := hv_atX 3 h rfl rfl
theorem hv_u4 (h : Hv K M te σ H b) : Hv K M (tOp (rIxT K) te (tC (.int 4))) σ H b.kn := hv_atX 4 h rfl rfl
theorem z_unp5U {i j l m o : Nat} (s : Sg K Mc He H is ms) (h : Hv K (muA ms ++ Mc) te σ H b)
    (k : ∀ ls hd fl en kn, ls = b.ls → hd = b.hd → fl = b.fl → en = b.en → kn = b.kn → ∀ v H1, Sg K Mc He H1 ((v, Dx.toX ls) :: is) ms → tz D (((((σ.set i (some v)).set j (some (.int hd))).set l (some (.bl fl))).set m (some (.bl en))).set o (some (.bl kn))) H1) :
    tSeq (tAsg te (gTup K 5 (gCons (gName i) (gCons (gName j) (gCons (gName l) (gCons (gName m) (gCons (gName o) gNil))))))) tz D σ H :=
  h H (Ex.refl H) s.mok _ fun v H1 e dd => by
    have d' : Xp K (msk (muA ms ++ Mc) H1) v (.tuple [Dx.toX b.ls, .int b.hd, .bool b.fl, .bool b.en, .bool b.kn]) := dd
    cases d' with
    | tup st a =>
      cases a with | cons a1 a => cases a with | cons a2 a => cases a with | cons a3 a => cases a with | cons a4 a => cases a with | cons a5 a =>
      cases a
      cases a2; cases a3; cases a4; cases a5
      exact ⟨_, [_, .int b.hd, .bl b.fl, .bl b.en, .bl b.kn], rfl, ex_t msk_le st, rfl, _, [.int b.hd, .bl b.fl, .bl b.en, .bl b.kn], rfl, .int b.hd, [.bl b.fl, .bl b.en, .bl b.kn], rfl, .bl b.fl, [.bl b.en, .bl b.kn], rfl, .bl b.en, [.bl b.kn], rfl, .bl b.kn, [], rfl, rfl, k b.ls b.hd b.fl b.en b.kn rfl rfl rfl rfl rfl _ H1 ((s.ex e).put a1)⟩
end
instance : Datum Sbk where
  toD b := .tuple [Datum.toD b.ls, .int b.hd, .bool b.fl, .bool b.en, .bool b.kn]
  plain b := by
    have := Datum.plain b.ls
    simp only [PyData.plain, PyData.plainAll, this, Bool.and_self]
  eqv a b := by
    have e1 : PyData.eqv (Datum.toD a.ls) (Datum.toD b.ls) = decide (a.ls = b.ls) := Datum.eqv a.ls b.ls
    cases a; cases b
    simp only [PyData.eqv, PyData.eqvAll, e1, eqvI, eqvB]
    rw [Bool.eq_iff_iff]
    simp
  depth := Datum.depth (Tup Ln) + 1
  depth_le b := by
    have := Datum.depth_le b.ls
    simp only [PyData.depth, PyData.depthAll]
    omega
instance : DxD Sbk := ⟨fun {K H v b} h => by
  cases h with
  | tup s a =>
    refine .tup s ?_
    cases a with | cons a1 a => cases a with | cons a2 a => cases a with | cons a3 a => cases a with | cons a4 a => cases a with | cons a5 a =>
    cases a
    cases a2; cases a3; cases a4; cases a5
    exact .cons (DxD.link a1) (.cons (.int _) (.cons (.bl _) (.cons (.bl _) (.cons (.bl _) .nil))))⟩
end Ly
namespace Ly
open PySem PySem.Spec PyProof.Rows L2 Evl
open PySem.W (Datum DatumOrd Tup T3 T4 minOf)
/-! ### enumerate(a tuple) -/
def IteT (K : PySem.W.Frag) (a : Addr) : It :=
  ⟨fun i H => ∃ us v, SqT K H a us ∧ us[i]? = some v, fun i H r H' => ∃ c v, r = .ref c ∧ H c = none ∧ H' = upd H c (.tup [.int (i : Nat), v]) ∧ ∀ us, SqT K H a us → us[i]? = some v, fun i H => ∃ us : List V, SqT K H a us ∧ us.length = i⟩
theorem tup_not_it {a it : Addr} {n : Nat} {h : Heap} {l : Array Value} (pa : h.IsTuple a l) (c : h.IsTupleIter it a n) : a ≠ it := fun q => by
  obtain ⟨oa, ha, ka, _⟩ := pa
  obtain ⟨ob, hb, kb, _⟩ := c
  rw [q, hb] at ha; cases ha
  rw [kb] at ka
  exact absurd (Value.type.inj ka) (by decide)
theorem tup_not_en {a e it : Addr} {k : Int} {old : Value} {h : Heap} {l : Array Value} (pa : h.IsTuple a l) (he : IsEnum h e it k old) : a ≠ e := fun q => by
  obtain ⟨oa, ha, ka, _⟩ := pa
  have hb : h.get? e = some _ := he
  rw [← q, ha] at hb
  cases hb
  exact absurd (Value.type.inj ka) (by decide)
theorem turn_enumT {P : Program} {w : World} {K : PySem.W.Frag} {elts : List Expr} {kk : Nat} {tpos : Pos} (a e it : Addr) (hne : e ≠ it) :
    Turn P w K (.Tuple elts kk tpos) (IteT K a) [e, it] e (fun i h => (∃ old, IsEnum h e it ((i : Nat) : Int) old) ∧ h.IsTupleIter it a i) where
  mem := by simp
  obj := fun i h st b hb => by
    obtain ⟨⟨old, he⟩, ⟨o, ho, hc, hd⟩⟩ := st
    have z : b = e ∨ b = it := by simpa using hb
    rcases z with z | z
    · rw [z]; exact ⟨_, he, fun v q => nomatch q⟩
    · rw [z]; exact ⟨o, ho, fun v q => by rw [hd] at q; cases q⟩
  keep := fun i h h' st k => by
    obtain ⟨⟨old, he⟩, hi⟩ := st
    exact ⟨⟨old, k e (by simp) _ he⟩, hi.at fun o q => k it (by simp) o q⟩
  item := by
    intro X hP hw hK hc i pins s σ H E I hf st hg
    subst hP hw hK
    obtain ⟨us, v, hq, hx⟩ := hg
    obtain ⟨⟨old, he⟩, hit⟩ := st
    obtain ⟨la, ra, pa, _⟩ := I.tuple hq
    obtain ⟨ua, ga, xa⟩ := ra.get hx
    have na := tup_not_it pa hit
    have ne := tup_not_en pa he
    have dr := Draws.tuple (prog := X.prog) (w := X.w) (show X.A.in1.handled = none from I.ok.hd hc) it a na la.toArray
    have lt : i < la.toArray.size := by
      have := (List.getElem?_eq_some_iff.mp ga).1
      simpa using this
    refine wpAny_pyNext_enum_itemC dr he ⟨hit, pa⟩ lt hne (by simp only [List.mem_cons, List.not_mem_nil, or_false, not_or]; exact ⟨hne, fun z => ne z.symm⟩) fun x1 h1 tk y1 y2 y3 y4 y5 y6 => ?_
    have e1 : x1 = ua := by
      have : la[i]? = some x1 := by simpa using y1
      exact Option.some.inj (this.symm.trans ga)
    subst e1
    refine ⟨_, rfl, wpAny_letOwnedTupleGo_enum (s := { s with heap := h1, toks := tk + 1 }) y2 fun h2 f1 f2 => ?_⟩
    have pe : s.heap.objs.size ≠ e := Nat.ne_of_gt (Heap.lt_size he)
    have pn : h2.get? s.heap.objs.size = some { cls := .type "tuple", data := .seq #[.int (i : Int) tk, x1] } := (f2.2 _ pe).trans y4
    have ok : ObjOk X.prog X.w (upd H s.heap.objs.size (.tup [.int (i : Nat), v])) h2 s.heap.objs.size (.tup [.int (i : Nat), v]) := ⟨show 2 ≤ sizeLine by decide, [.int (i : Int) tk, x1], .cons ⟨_, rfl⟩ (.cons xa .nil), _, pn, rfl, _, rfl⟩
    have old' : ∀ c o, c ∉ [e, it] → s.heap.get? c = some o → h2.get? c = some o := fun c o n q => by
      have m1 : c ≠ e := fun t => n (by rw [t]; simp)
      have m2 : c ≠ it := fun t => n (by rw [t]; simp)
      exact (f2.2 c m1).trans (y6 c o m1 m2 q)
    refine ⟨.ref s.heap.objs.size, upd H s.heap.objs.size (.tup [.int (i : Nat), v]), I.turnedNew (t' := tk + 1) (ch := [e, it]) old' hf (Nat.le_refl _) ok, rfl, ⟨_, v, rfl, I.hok.fresh (Nat.le_refl _), rfl, fun l t => ?_⟩, ⟨⟨x1, ?_⟩, ?_⟩, fun c m => ?_⟩
    · rw [I.tuple_inj t hq]; exact hx
    · have e2 : ((i + 1 : Nat) : Int) = (i : Int) + 1 := by omega
      rw [e2]; exact f1
    · exact y3.1.at fun o q => (f2.2 it (Ne.symm hne)).trans q
    · have lc : c < s.heap.objs.size := by
        rcases (by simpa using m : c = e ∨ c = it) with rfl | rfl
        · exact Heap.lt_size he
        · obtain ⟨_, q, _⟩ := hit; exact Heap.lt_size q
      rw [upd_ne (Nat.ne_of_lt lc)]
      exact (hf c m).1
  done := by
    intro X hP hw hK hc i pins s σ H E I hf st hg
    subst hP hw hK
    obtain ⟨us, hq, rfl⟩ := hg
    obtain ⟨⟨old, he⟩, hit⟩ := st
    obtain ⟨la, ra, pa, _⟩ := I.tuple hq
    have na := tup_not_it pa hit
    have dr := Draws.tuple (prog := X.prog) (w := X.w) (show X.A.in1.handled = none from I.ok.hd hc) it a na la.toArray
    have sz : us.length = la.toArray.size := by rw [List.size_toArray]; exact ra.length
    rw [sz] at hit he
    refine wpAny_pyNext_enum_endD dr he ⟨hit, pa⟩ fun h1 d => ⟨rfl, ?_⟩
    refine I.turnedL (t' := s.toks) (ch := [e, it]) (fun c o n q => ?_) hf
    exact d c o (fun t => n (by rw [t]; simp)) q
  self := fun A i s Q E st h => by
    obtain ⟨⟨_, he⟩, _⟩ := st
    exact wpAny_pyIter_enum he h
def iEnumT (K : PySem.W.Frag) (ta : TA) : TI := fun σ H R => ta σ H fun vs H1 => ∃ a us, vs = [.ref a] ∧ SqT K H1 a us ∧ R (IteT K a) H1
theorem pi_enumT {X : Cx} {e : Expr} {ta : TA} {p pos tpos : Pos} {elts : List Expr} {kk : Nat} (hg : Gl X "enumerate") (hm : X.mg "enumerate" = none) (ha : PA X [e] ta) (hs : starEach [e] X.env = [(false, eval e X.env)] := by rfl) :
    PI X (.Tuple elts kk tpos) (.Call (.Name "enumerate" p) [e] [] pos) (iEnumT X.K ta) := by
  constructor
  intro pins s σ H R I h
  refine Call_ (ld_blt I hg hm boot_enumerate (PyProof.Rows.callWith_type1 (thn (ha.run pos pins s σ H _ I h) ?_) hs rfl))
  rintro us s1 ⟨vs, H1, J, rz, a, ws, rfl, hq, q⟩
  cases rz with
  | cons r rr =>
    cases rr; cases r
    obtain ⟨la, ra, pa, _⟩ := J.tuple hq
    refine enumV_begins (begins_tuple a la.toArray) pa fun h' he hit hsz hk => wpAny_pyIter_enum he ?_
    refine ⟨s1.heap.objs.size + 1, [s1.heap.objs.size + 1, s1.heap.objs.size], _, _, H1, rfl, J.kept (t' := s1.toks) hk, turn_enumT a (s1.heap.objs.size + 1) s1.heap.objs.size (Nat.succ_ne_self _), ⟨⟨.none, he⟩, ⟨_, hit, rfl, rfl⟩⟩, fun b hb => ?_, q⟩
    have le : s1.heap.objs.size ≤ b := by
      rcases (by simpa using hb : b = s1.heap.objs.size + 1 ∨ b = s1.heap.objs.size) with rfl | rfl <;> omega
    exact J.fpOk le (J.hok.fresh le)
section
variable {K : PySem.W.Frag} {Mc M : List Addr} {He H : Hp} {is : Ims} {ms : Mus} {σ : L2.St} {tl te ta : TE} {tu tz : TS} {g : TG} {D : Ends} {α : Type} [DecidableEq α] [Dx α]
theorem zq_forET {xs : Tup α} (s : Sg K Mc He H is ms) (h : Hv K (muA ms ++ Mc) tl σ H xs) (Pv : V → Nat → L2.St → Hp → Prop) (h0 : ∀ v H1, Sg K Mc He H1 ((v, Dx.toX xs) :: is) ms → Pv v 0 σ H1)
    (hl : ∀ v i σ' H', Pv v i σ' H' → Dt K (msk (muA ms ++ Mc) H') v xs ∧ MOk (muA ms ++ Mc) H')
    (hs : ∀ v i x w σ' H' H'', (enumL xs.items)[i]? = some x → Pv v i σ' H' → Ex H' H'' → Dt K (msk (muA ms ++ Mc) H'') w x → g w σ' H'' fun σ2 H2 => tu { D with nx := Pv v (i + 1), ct := Pv v (i + 1), bk := tz D } σ2 H2)
    (hd : ∀ v σ' H', Pv v (enumL xs.items).length σ' H' → tz D σ' H') : tSeq (tFor (iEnumT K (tCons tl tNil)) g tu) tz D σ H :=
  h H (Ex.refl H) s.mok _ fun v H1 e d => by
    obtain ⟨a, vs, rfl, s1, ds⟩ := d.tupv
    refine ⟨a, vs, rfl, ex_t msk_le s1, fun i m σ' H' => m = xs.items.length - i ∧ i ≤ xs.items.length ∧ Pv (.ref a) i σ' H', ⟨xs.items.length, by simp, Nat.zero_le _, h0 _ H1 ((s.ex e).put d)⟩, ?_⟩
    rintro i m σ' H' ⟨rfl, hi, p⟩
    obtain ⟨dd, mk⟩ := hl _ i σ' H' p
    obtain ⟨a', us, e', q1, du⟩ := dd.tupv
    cases e'
    have q : SqT K H' a us := ex_t msk_le q1
    have el := du.len
    by_cases hlt : i < xs.items.length
    · refine .inr ⟨⟨us, us[i]'(by omega), q, by simp [show i < us.length by omega]⟩, Pv (.ref a) (i + 1), fun σ2 H2 p' => ⟨xs.items.length - (i + 1), by omega, rfl, hlt, p'⟩, fun x H2 y => ?_⟩
      obtain ⟨T, x1, rfl, nT, rfl, f2⟩ := y
      have gx : xs.items[i]? = some xs.items[i] := by simp [hlt]
      have eT : Ex H' (upd H' T (.tup [.int (i : Int), x1])) := Ex.new nT
      have nTD : T ∉ muA ms ++ Mc := fun z => (mk T z) nT
      have dm : Dt K (msk (muA ms ++ Mc) (upd H' T (.tup [.int (i : Int), x1]))) x1 xs.items[i] := by
        obtain ⟨w, w1, w2⟩ := (Dts.mono (msk_ex eT) du).at gx
        have : x1 = w := Option.some.inj ((f2 us q).symm.trans w1)
        subst this; exact w2
      exact hs _ i ((i : Int), xs.items[i]) (.ref T) σ' H' _ (enumL_get gx) p eT (Dt.ofPair (SqT.of (by rw [msk_out nTD]; exact upd_same)) (Dt.ofInt _) dm)
    · have e : i = xs.items.length := by omega
      subst e
      exact .inl ⟨⟨us, q, by omega⟩, hd _ σ' H' (by rw [enumL_len]; exact p)⟩
end
section
variable {K : PySem.W.Frag} {Mc M : List Addr} {He H : Hp} {is : Ims} {σ : L2.St} {te : TE} {tz : TS} {D : Ends} {α : Type} [DecidableEq α] [Dx α]
/-- a list made by a def that gives it away -/
theorem hf_ofx {xs : List α} (h : HFx K M te σ H (xs.map Dx.toX)) : HF K M te σ H xs := h
theorem zq_retM {xs : List α} {p : Addr} {ta : TE} (s : Sg K Mc He H is [(p, .lst (xs.map Dx.toX))]) (hi : Ev ta σ H (.ref p)) (k : ∀ us H1, He p = none → Ex He H1 → H1 p = some (.lst us) → XpAll K (msk (p :: Mc) H1) us (xs.map Dx.toX) → D.rt (.ref p) H1) : tSeq (tRet ta) tz D σ H :=
  hi H (Ex.refl H) _ fun H1 e1 => by
    have s2 := s.ex e1
    obtain ⟨us, h1, h2⟩ := s2.lst (k := 0) rfl
    refine k us H1 ?_ s2.all h1 h2
    cases q : He p with
    | none => rfl
    | some o =>
      have := s2.ext p o q
      rw [msk_in (by simp [muA])] at this
      cases this
theorem ht_truV {xs : Tup α} (h : Hv K M te σ H xs) : HT M (fun σ H Q => te σ H fun x H' => ∃ k, TruV K x H' k ∧ Q k H') σ H (!xs.items.isEmpty) := fun H1 e m Q q =>
  h H1 e m _ fun v H2 e2 d => by
    obtain ⟨a, us, rfl, s1, ds⟩ := d.tupv
    have hl := ds.len
    refine ⟨!us.isEmpty, .inr (.inl ⟨us, ex_t msk_le s1, rfl⟩), ?_⟩
    have : us.isEmpty = xs.items.isEmpty := by
      cases us <;> cases hx : xs.items <;> simp_all
    rw [this]
    exact q H2 e2
end
/-- a tuple of which only the first number is told -/
structure Hd1 where
  n : Int
  r : List Xd
noncomputable instance : DecidableEq Hd1 := fun _ _ => Classical.propDecidable _
instance : Dx Hd1 := ⟨fun h => .tuple (.int h.n :: h.r)⟩
def hdL (l : Ln) : Hd1 := ⟨l.a, [Dx.toX l.b, Dx.toX l.c, Dx.toX l.d]⟩
def hdN (p : Int × Tup Int) : Hd1 := ⟨p.1, [Dx.toX p.2]⟩
section
variable {K : PySem.W.Frag} {M : List Addr} {H : Hp} {σ : L2.St} {te : TE}
theorem hv_hd1 {h : Hd1} (hh : Hv K M te σ H h) : Hv K M (tOp (rIxT K) te (tC (.int 0))) σ H h.n := hv_atX 0 hh rfl rfl
end
end Ly
namespace Ly
open PySem PySem.Spec PyProof.Rows L2 Evl
instance : TyNm Pgi := ⟨"tuple", fun {K H v x} d => by
  have d' : Xp K H v (.tuple x.x) := d
  cases d' with | tup s a => exact tyx_T s⟩
theorem getD_memG {α : Type} {xs : List α} {i : Nat} {d : α} (h : i < xs.length) : xs.getD i d ∈ xs := List.mem_of_getElem? (getD_get d h)
end Ly

namespace Ly
open PySem PySem.Spec PyProof.Rows L2 Evl
open PySem.W (Datum DatumOrd Tup T3 T4 minOf)
/-! ### atoms (but runs) -/
inductive Atm where
  | sp (n : Int)
  | tie (n : Int)
  | line
  | note (n : Int)
  | label (s : Str)
  | page (n f : Int) (s : Str)
  deriving DecidableEq
def Atm.kind : Atm → Str
  | .sp _ => Str.ofString "space"
  | .tie _ => Str.ofString "tie"
  | .line => Str.ofString "line"
  | .note _ => Str.ofString "note"
  | .label _ => Str.ofString "label"
  | .page _ _ _ => Str.ofString "page"
def Atm.tag : Atm → Nat
  | .sp _ => 0 | .tie _ => 1 | .line => 2 | .note _ => 3 | .label _ => 4 | .page _ _ _ => 5
def Atm.at1 : Atm → Int
  | .sp n => n | .tie n => n | .note n => n | .page n _ _ => n | _ => 0
def Atm.at2 : Atm → Int
  | .page _ f _ => f | _ => 0
def Atm.at3 : Atm → Str
  | .page _ _ s => s | _ => Str.ofString ""
def Atm.itm : Atm → Itm
  | .note n => .note n | .label s => .label s | _ => .forced
def Atm.x : Atm → List Xd
  | .sp n => [.str (Str.ofString "space"), .int n]
  | .tie n => [.str (Str.ofString "tie"), .int n]
  | .line => [.str (Str.ofString "line")]
  | .note n => [.str (Str.ofString "note"), .int n]
  | .label s => [.str (Str.ofString "label"), .str s]
  | .page n f s => [.str (Str.ofString "page"), .int n, .int f, .str s]
instance : Dx Atm := ⟨fun i => .tuple i.x⟩
instance : SomeX Atm := ⟨fun _ e => by cases e⟩
theorem Atm.tag_le (i : Atm) : i.tag ≤ 5 := by cases i <;> simp only [Atm.tag] <;> decide
theorem ad_sp (i : Atm) : (i.kind = Str.ofString "space") = (i.tag = 0) := by
  cases i <;> simp only [Atm.kind, Atm.tag] <;> exact propext ⟨fun h => by first | rfl | (revert h; decide +kernel), fun h => by first | rfl | (revert h; decide)⟩
theorem ad_tie (i : Atm) : (i.kind = Str.ofString "tie") = (i.tag = 1) := by
  cases i <;> simp only [Atm.kind, Atm.tag] <;> exact propext ⟨fun h => by first | rfl | (revert h; decide +kernel), fun h => by first | rfl | (revert h; decide)⟩
theorem ad_line (i : Atm) : (i.kind = Str.ofString "line") = (i.tag = 2) := by
  cases i <;> simp only [Atm.kind, Atm.tag] <;> exact propext ⟨fun h => by first | rfl | (revert h; decide +kernel), fun h => by first | rfl | (revert h; decide)⟩
theorem ad_note (i : Atm) : (i.kind = Str.ofString "note") = (i.tag = 3) := by
  cases i <;> simp only [Atm.kind, Atm.tag] <;> exact propext ⟨fun h => by first | rfl | (revert h; decide +kernel), fun h => by first | rfl | (revert h; decide)⟩
theorem ad_label (i : Atm) : (i.kind = Str.ofString "label") = (i.tag = 4) := by
  cases i <;> simp only [Atm.kind, Atm.tag] <;> exact propext ⟨fun h => by first | rfl | (revert h; decide +kernel), fun h => by first | rfl | (revert h; decide)⟩
theorem ad_page (i : Atm) : (i.kind = Str.ofString "page") = (i.tag = 5) := by
  cases i <;> simp only [Atm.kind, Atm.tag] <;> exact propext ⟨fun h => by first | rfl | (revert h; decide +kernel), fun h => by first | rfl | (revert h; decide)⟩
theorem ad_run (i : Atm) : ¬ i.kind = Str.ofString "run" := by
  cases i <;> simp only [Atm.kind] <;> decide +kernel
section
variable {K : PySem.W.Frag} {Mc M : List Addr} {He H : Hp} {is : Ims} {ms : Mus} {σ : L2.St} {te : TE} {tz : TS} {D : Ends} {i : Atm}
theorem hv_a0 (h : Hv K M te σ H i) : Hv K M (tOp (rIxT K) te (tC (.int 0))) σ H i.kind := hv_atX 0 h rfl (by cases i <;> rfl)
theorem hv_a1 (h : Hv K M te σ H i) (s : i.tag ≠ 2 ∧ i.tag ≠ 4) : Hv K M (tOp (rIxT K) te (tC (.int 1))) σ H i.at1 := hv_atX 1 h rfl (by cases i <;> first | rfl | (exfalso; simp [Atm.tag] at s))
theorem hv_a2 (h : Hv K M te σ H i) (s : i.tag = 5) : Hv K M (tOp (rIxT K) te (tC (.int 2))) σ H i.at2 := hv_atX 2 h rfl (by cases i <;> first | rfl | (exfalso; simp [Atm.tag] at s))
theorem hv_a3 (h : Hv K M te σ H i) (s : i.tag = 5) : Hv K M (tOp (rIxT K) te (tC (.int 3))) σ H i.at3 := hv_atX 3 h rfl (by cases i <;> first | rfl | (exfalso; simp [Atm.tag] at s))
theorem itm_x (s : i.tag = 3 ∨ i.tag = 4) : Dx.toX i = Dx.toX i.itm := by cases i <;> first | rfl | (exfalso; simp [Atm.tag] at s)
theorem hv_aitm (h : Hv K M te σ H i) (s : i.tag = 3 ∨ i.tag = 4) : Hv K M te σ H i.itm := hv_co h (itm_x s)
theorem hv_tupA (h : Hv K M te σ H i) (s : i.tag = 3 ∨ i.tag = 4) : Hv K M (tCB (fun xs H Q => ∃ p ys, xs = [.ref p] ∧ ((SqL K H p ys ∧ ∀ l, H l = none → Q (.ref l) (upd H l (.tup ys))) ∨ (SqT K H p ys ∧ Q (.ref p) H))) (tCons te tNil)) σ H i.itm := fun H1 e m Q q =>
  h H1 e m _ fun v H2 e2 d => by
    have d' : Xp K (msk M H2) v (.tuple i.x) := d
    have d2 : Dt K (msk M H2) v i.itm := by show Xp _ _ _ (Dx.toX i.itm); rw [← itm_x s]; exact d
    cases d' with
    | tup st a => exact ⟨_, _, rfl, .inr ⟨ex_t msk_le st, q _ H2 e2 d2⟩⟩
theorem z_unp4A {a b c d : Nat} (s : Sg K Mc He H is ms) (h : Hv K (muA ms ++ Mc) te σ H i) (ht : i.tag = 5)
    (k : ∀ kd n f l, kd = i.kind → n = i.at1 → f = i.at2 → l = i.at3 → ∀ H1, Sg K Mc He H1 is ms → tz D ((((σ.set a (some (.str kd))).set b (some (.int n))).set c (some (.int f))).set d (some (.str l))) H1) :
    tSeq (tAsg te (gTup K 4 (gCons (gName a) (gCons (gName b) (gCons (gName c) (gCons (gName d) gNil)))))) tz D σ H :=
  h H (Ex.refl H) s.mok _ fun v H1 e dd => by
    cases i with
    | page n f l =>
      have d' : Xp K (msk (muA ms ++ Mc) H1) v (.tuple [.str (Str.ofString "page"), .int n, .int f, .str l]) := dd
      cases d' with
      | tup st x =>
        cases x with | cons a1 x => cases x with | cons a2 x => cases x with | cons a3 x => cases x with | cons a4 x =>
        cases x
        cases a1; cases a2; cases a3; cases a4
        exact ⟨_, [.str (Str.ofString "page"), .int n, .int f, .str l], rfl, ex_t msk_le st, rfl, _, [.int n, .int f, .str l], rfl, _, [.int f, .str l], rfl, _, [.str l], rfl, _, [], rfl, rfl, k _ n f l rfl rfl rfl rfl H1 (s.ex e)⟩
    | _ => simp [Atm.tag] at ht
end
def Atm.d : Atm → List PyData
  | .sp n => [.str (Str.ofString "space"), .int n]
  | .tie n => [.str (Str.ofString "tie"), .int n]
  | .line => [.str (Str.ofString "line")]
  | .note n => [.str (Str.ofString "note"), .int n]
  | .label s => [.str (Str.ofString "label"), .str s]
  | .page n f s => [.str (Str.ofString "page"), .int n, .int f, .str s]
theorem Atm.d_kind (i : Atm) : ∃ r, i.d = .str i.kind :: r := by cases i <;> exact ⟨_, rfl⟩
theorem atkind_tag {i j : Atm} (h : i.kind = j.kind) : i.tag = j.tag := by
  have k0 := ad_sp i; have k1 := ad_tie i; have k2 := ad_line i; have k3 := ad_note i; have k4 := ad_label i; have k5 := ad_page i
  rw [h] at k0 k1 k2 k3 k4 k5
  rw [ad_sp] at k0
  rw [ad_tie] at k1
  rw [ad_line] at k2
  rw [ad_note] at k3
  rw [ad_label] at k4
  rw [ad_page] at k5
  have t1 := Atm.tag_le i
  have t2 := Atm.tag_le j
  have e0 := k0.to_iff; have e1 := k1.to_iff; have e2 := k2.to_iff; have e3 := k3.to_iff; have e4 := k4.to_iff; have e5 := k5.to_iff
  omega
theorem Atm.eqv (a b : Atm) : PyData.eqvAll a.d b.d = decide (a = b) := by
  by_cases h : a.kind = b.kind
  · have ht := atkind_tag h
    cases a <;> cases b <;> first | (exfalso; simp [Atm.tag] at ht; done) | (simp only [Atm.d, PyData.eqvAll, eqvI, eqvS]; simp [Bool.and_assoc])
  · obtain ⟨r, e⟩ := a.d_kind
    obtain ⟨r', e'⟩ := b.d_kind
    rw [e, e', PyData.eqvAll, eqvS, decide_eq_false h, Bool.false_and]
    exact (decide_eq_false fun z => h (by rw [z])).symm
instance : Datum Atm where
  toD i := .tuple i.d
  plain i := by cases i <;> simp only [Atm.d, PyData.plain, PyData.plainAll, Bool.and_self, Bool.and_true, Bool.true_and]
  eqv a b := by simp only [PyData.eqv]; exact Atm.eqv a b
  depth := 2
  depth_le i := by cases i <;> simp only [Atm.d, PyData.depth, PyData.depthAll] <;> (first | decide | omega)
instance : DxD Atm := ⟨fun {K H v i} h => by
  cases h with
  | tup s a =>
    refine .tup s ?_
    cases i with
    | sp n => cases a with | cons a1 a => cases a with | cons a2 a => cases a; cases a1; cases a2; exact .cons (.str _) (.cons (.int _) .nil)
    | tie n => cases a with | cons a1 a => cases a with | cons a2 a => cases a; cases a1; cases a2; exact .cons (.str _) (.cons (.int _) .nil)
    | line => cases a with | cons a1 a => cases a; cases a1; exact .cons (.str _) .nil
    | note n => cases a with | cons a1 a => cases a with | cons a2 a => cases a; cases a1; cases a2; exact .cons (.str _) (.cons (.int _) .nil)
    | label s => cases a with | cons a1 a => cases a with | cons a2 a => cases a; cases a1; cases a2; exact .cons (.str _) (.cons (.str _) .nil)
    | page n f s => cases a with | cons a1 a => cases a with | cons a2 a => cases a with | cons a3 a => cases a with | cons a4 a => cases a; cases a1; cases a2; cases a3; cases a4; exact .cons (.str _) (.cons (.int _) (.cons (.int _) (.cons (.str _) .nil)))⟩
instance : TyNm Itm := ⟨"tuple", fun {K H v x} d => by
  have d' : Xp K H v (.tuple x.x) := d
  cases d' with | tup s a => exact tyx_T s⟩
end Ly

namespace Ly
open PySem PySem.Spec PyProof.Rows L2 Evl
open PySem.W (kxs_mw kxs_ValueError)
/-! ### super().__init__(e) of an own exception over ValueError -/
/-- what is written down of an own class over ValueError whose __init__ (at f) closes over the class's cell -/
structure SupC (K : PySem.W.Frag) (C f cda cc : Addr) (fd : FuncData) (sn file : Str) : Prop where
  fn : ∃ oc od osl, K.lookup f = some ⟨oc, od, .func fd, osl⟩
  head : ∃ ar, (fd.params.posonlyargs ++ fd.params.args).head? = some ar ∧ ar.arg = sn
  code : ∃ oc od vs osl tf, K.lookup cda = some ⟨oc, od, .fields vs, osl⟩ ∧ vs[2]? = some (.str file tf)
  cell : ∃ oc od osl, K.lookup cc = some ⟨oc, od, .cell (some (.ref C)), osl⟩
  sub : PySem.W.mroIn K C (.ref C) = some true
  any : PySem.W.nsIn K cStatics "thirdparty.any" = some none
  sup : PySem.W.ks_superIn K C C "__init__" = some (some (.builtin "ValueError.__init__"))
  ve : PySem.W.subIn K (.ref C) (.type "ValueError") = some true
theorem boot_super : bootBuiltins "super" = some (.type "super") := by decide +kernel
theorem lookup_one {k : Str} {v : Addr} {x : Str} : List.lookup x [(k, v)] = if x = k then some v else none := by
  by_cases h : x = k
  · subst h; simp [List.lookup]
  · have e : (x == k) = false := by simpa using h
    simp [List.lookup, e, h]
section
variable {X : Cx} {pins : List (Addr × Obj)} {σ : L2.St} {H : Hp} {s : Shared}
theorem sup_call {a C u : Addr} {us : List Value} {Q : Value → Shared → Prop} {A : Around} {E : Value → Shared → Prop} (T : OexC X.K C) (I : Inv X pins σ H s) (e : H a = some (exo a C none)) (hu : s.heap.get? u = some (kxs_mw "ValueError.__init__" a)) (hl : us.length ≤ sizeLine)
    (h : ∀ s', Inv X pins σ H s' → Q .none s') : wpAny (model X.prog X.w) A (call (.ref u) us) Q E s := by
  obtain ⟨nm, q, N, bs, bm, sn, sub, ab, col, dd, k0, k1, k2, k3, k5, hC, hbm⟩ := T.cls
  obtain ⟨t1, ho⟩ := exo_at I.hok e
  obtain ⟨hp, g, d, tk, os⟩ := s
  have FB := PySem.F.excBase_ValueError
  refine wpAny_call (codeAny_of_tree ?_)
  show wpAny _ A.in1 (callAny (.ref u) ⟨us, []⟩) _ _ _
  simp only [callAny]
  refine wpAny_bind (wpAny_load hu ?_)
  simp only [kxs_mw, show (Value.type "method-wrapper" == Value.type "method" || Value.type "method-wrapper" == Value.type "builtin_function_or_method" || Value.type "method-wrapper" == Value.type "method-wrapper") = true by decide, if_true]
  refine PySem.W.KFB.if_so (by decide) ?_
  refine wpAny_bind (PySem.W.check_bound_init FB.toExcCallFacts (I.kIn _ _ hC) ho rfl ?_)
  refine wpAny_bind (wpAny_pure (wpAny_pure ?_))
  refine ⟨plainId_quiet FB.init.plain _, codeAny_builtin FB.initEntry ?_⟩
  refine PySem.W.exc_init_tree (cls := .ref C) (t0 := t1) (dv := none) (c2 := .none) (c3 := .none) (b4 := .bool false) ho hl fun h' k hx _ => ?_
  have J := I.write (t' := tk) (x := a) (e := a) (o := exo a C none) (by rw [e]; exact True.intro) (.inl rfl) k ⟨_, hx⟩ (exo_ok hx)
  have eu : upd H a (exo a C none) = H := by
    funext b
    by_cases hb : b = a
    · rw [hb, upd_same, e]
    · rw [upd_ne hb]
  rw [eu] at J
  exact h _ J
theorem sup_init {body : List Stmt} {p0 p1 p2 pos : Pos} {ex : Expr} {te : TE} {a C f cda cc : Addr} {fd : FuncData} {sn file : Str} {i : Nat} {Q : Value → Shared → Prop}
    (T : OexC X.K C) (Z : SupC X.K C f cda cc fd sn file) (hfile : ((X.prog.main.file : Str) == file) = true) (htop : (X.prog.main.scope.names.lookup ("super" : Str)).isSome = false)
    (hks : X.env.kindOf "super" = some .globalImplicit) (hkc : X.env.kindOf "__class__" = some .free) (hka : X.env.kindOf sn = some .local)
    (hfu : X.env.func = some f) (hco : X.env.code = .ref cda) (hce : X.env.cells.lookup ("__class__" : Str) = some cc) (hm : X.mg "super" = none)
    (hi : X.N[i]? = some sn) (hσ : σ[i]? = some (some (.ref a))) (he : PE X ex te) (I : Inv X pins σ H s) (ea : H a = some (exo a C none))
    (h : tCons te tNil σ H fun vs H1 => vs.length ≤ 1000 ∧ H1 a = some (exo a C none) ∧ ∀ s', Inv X pins σ H1 s' → Q .none s')
    {pl : Sem Bool} (hc : eval (.Call (.Attribute (.Call (.Name "super" p0) [] [] p1) "__init__" p2) [ex] [] pos) X.env = (do
      let ov ← attributeBase (.Call (.Name "super" p0) [] [] p1) "__init__" X.env (eval (.Call (.Name "super" p0) [] [] p1) X.env)
      standAt p2.atName
      let (f, first) ← holding [ov] (getMethod ov "__init__" pl)
      callWith pos f first (backTo pos (starEach [ex] X.env)) []) := by rfl)
    (hst : starEach [ex] X.env = (false, eval ex X.env) :: starEach [] X.env := by rfl) :
    PySem.wpAt (model X.prog X.w) X.A (.func body X.env) (eval (.Call (.Attribute (.Call (.Name "super" p0) [] [] p1) "__init__" p2) [ex] [] pos) X.env) Q X.xe s := by
  obtain ⟨oc1, od1, osl1, lf⟩ := Z.fn
  obtain ⟨ar, har, rfl⟩ := Z.head
  obtain ⟨oc2, od2, vs2, osl2, tf, lc, hvs⟩ := Z.code
  obtain ⟨oc3, od3, osl3, lcc⟩ := Z.cell
  obtain ⟨nm, q, N, bs, bm, sn, sub, ab, col, dd, k0, k1, k2, k3, k5, hC, hbm⟩ := T.cls
  have hcl : PySem.W.clsIn X.K C = some { name := nm, bases := bs, mro := .ref C :: bm, ns := N, qualname := q, hasDict := true, slotNames := sn, subclasses := sub, abstract := ab, collection := col, hasDel := false } := by unfold PySem.W.clsIn; rw [hC] <;> rfl
  have X0 := I.kIn
  obtain ⟨hp, g, d, t, os⟩ := s
  refine PySem.ks_wpAt_MethodCall ?_ hc
  refine PySem.ks_wpAt_super_base hks hkc (by decide) hfu (X0 _ _ lf) rfl har hco (X0 _ _ lc) rfl hvs hfile htop ?_
  obtain ⟨mb, b1, b2⟩ := I.mod.blt
  refine PySem.W.ks_loadName_global I.ok.kind hks (Calls.loadGlobal_builtin (env := X.env) (by rw [I.ok.glob]; exact I.mod.glob.keeps I.bk) hm (by rw [I.ok.blt]; exact b1.keeps I.bk) ((b2 _ (by decide)).trans boot_super) ⟨rfl, ?_⟩)
  refine PySem.wpAny_loadName_free I.ok.kind hkc hce ⟨_, X0 _ _ lcc, rfl⟩ ?_
  obtain ⟨m, hn, hl⟩ := I.loc
  obtain ⟨u, ru, lk⟩ := hl i _ (.ref a) hi hσ (.inl hka)
  obtain rfl : u = .ref a := ru
  have hv : m ar.arg = some (.ref a) := by
    rcases lk with ⟨_, z⟩ | ⟨z, _⟩
    · exact z
    · rcases z with z | z <;> (rw [hka] at z; cases z)
  refine PySem.wpAny_loadName_local I.ok.kind hka hn hv ?_
  refine PySem.ks_wpAny_isType_cls (X0 _ _ hC) rfl ⟨rfl, ?_⟩
  obtain ⟨t1, ho⟩ := exo_at I.hok ea
  refine PySem.ks_wpAny_call_super (X0 _ _ hC) rfl ho rfl (fun c z => by cases z) (PySem.W.looks_mroIn X0 Z.sub) (fun h' e k => ?_)
  have I1 : Inv X pins σ H ⟨h', g, d, t, os⟩ := I.kept (t' := t) k
  have I2 : Inv X pins σ H ⟨h'.push (kxs_mw "ValueError.__init__" a), g, d, t + 1, os⟩ := I1.kept (t' := t + 1) (fun b o e => Heap.get?_push_of_some _ e)
  have sup' := Z.sup
  unfold PySem.W.ks_superIn at sup'
  rw [hcl] at sup'
  have hxC : a ≠ C := fun z => by
    rw [z] at ho
    rw [X0 _ _ hC] at ho
    cases ho
  have IA : PySem.W.InstAt h' a { cls := .ref C, dict := none, data := .fields #[.ref t1, .none, .none, .none, .bool false, .none] } C none := ⟨k _ _ ho, rfl, rfl, trivial⟩
  refine PySem.W.kxs_getMethod kxs_ValueError e (PySem.W.looks_opaque I1.kIn Z.any) (l₀ := .ref C :: bm) (fun A Q E s k q => wpAny_bind ((PySem.W.looks_clsIn I1.kIn hcl) A _ E s k (wpAny_pure q))) rfl I1.kIn sup' (IA.type.andThen (PySem.W.looks_subIn I1.kIn Z.ve)) hxC (by decide) ?_
  have hus : h'.objs.size = h'.objs.size := rfl
  have gu : (h'.push (kxs_mw "ValueError.__init__" a)).get? h'.objs.size = some (kxs_mw "ValueError.__init__" a) := Heap.get?_push_at rfl rfl
  have I3 : Inv X (pins ++ [(h'.objs.size, kxs_mw "ValueError.__init__" a)]) σ H ⟨h'.push (kxs_mw "ValueError.__init__" a), g, d, t + 1, os⟩ := I2.pins_of fun p hp => by
    rcases List.mem_append.mp hp with hp | hp
    · exact I2.pin p (List.mem_append_right _ hp)
    · obtain rfl := List.mem_singleton.mp hp
      refine ⟨gu, I1.hok.fresh (Nat.le_refl _), fun z => ?_, I1.nofs (Nat.le_refl _), fun v z => by cases z⟩
      have := I1.lt
      rw [← z] at this
      exact absurd this (Nat.lt_irrefl _)
  have pa : PA X [ex] (tCons te tNil) := pa_cons he pa_nil hst
  show wpAny _ _ (callWith pos (.ref h'.objs.size) [] (backTo pos (starEach [ex] X.env)) []) _ _ _
  have pr := pa.run pos _ _ σ H _ I3 h
  rw [hst] at pr ⊢
  refine PySem.W.kxs_callWith (i := "ValueError.__init__") (x := a) rfl (Calls.evalArgs_plain (thn pr fun us s1 ⟨vs, H1, J, rv, hlen, ea1, q1⟩ => ?_))
  refine ⟨(J.pin _ (List.mem_append_right _ (List.mem_append_right _ (List.mem_singleton.mpr rfl)))).1, ?_⟩
  refine sup_call T J.unpinned ea1 (J.pin _ (List.mem_append_right _ (List.mem_append_right _ (List.mem_singleton.mpr rfl)))).1 ?_ q1
  show us.length ≤ sizeLine
  rw [← Paired.length rv, sizeLine_eq]
  omega
end
/-! ### such an __init__ as a def that keeps its promise -/
section
open NdefX
variable {CX : CXT} {P : Program} {w : World} {K : PySem.W.Frag} {mg : Str → Option Value} {base : Heap}
abbrev nfOf (name qual : Str) (params : Arguments) (body : List Stmt) (scope : Scope) (cc cda : Addr) : NF := ⟨name, qual, params, body, scope, [("__class__", cc)], cda⟩
theorem fn_sup {name qual : Str} {params : Arguments} {rest : List Stmt} {scope : Scope} {cc cda f C : Addr} {N ps : List Str} {dV kV doc pm ct oc : Value} {an od : Option Addr} {osl : Array (Option Value)} {k : Nat} {sp : Sp} {sn file : Str} {ex : Expr} {p0 p1 p2 p3 pos : Pos}
    (lk : K.lookup f = some ⟨oc, od, .func (PySem.W.fnX name qual params (.Expr (.Call (.Attribute (.Call (.Name "super" p0) [] [] p1) "__init__" p2) [ex] [] pos) p3 :: rest) scope [("__class__", cc)] dV kV doc pm an (.ref cda) ct), osl⟩)
    (hcd : PySem.W.codeIn K (.ref cda) qual = true) (S : NScope N ps ["__class__"] scope) (len : ∀ vs H Q E, sp vs H Q E → vs.length = ps.length)
    (T : OexC K C) (Z : SupC K C f cda cc (PySem.W.fnX name qual params (.Expr (.Call (.Attribute (.Call (.Name "super" p0) [] [] p1) "__init__" p2) [ex] [] pos) p3 :: rest) scope [("__class__", cc)] dV kV doc pm an (.ref cda) ct) sn file)
    (hfile : ((P.main.file : Str) == file) = true) (htop : (P.main.scope.names.lookup ("super" : Str)).isSome = false) (hks : scope.names.lookup ("super" : Str) = some .globalImplicit) (hm : mg "super" = none) (h0 : ps[0]? = some sn)
    (hbody : ∀ (A : Around) (outer : List Env) (s : Shared) (H : Hp) (vs : List V) (Q : VK) (E : XK), Room k (A.deeper (envF (nfOf name qual params (.Expr (.Call (.Attribute (.Call (.Name "super" p0) [] [] p1) "__init__" p2) [ex] [] pos) p3 :: rest) scope cc cda) f s.heap.objs.size)) → sp vs H Q E →
      ∃ te t a, PE (ncx CX P w K mg base N (nfOf name qual params (.Expr (.Call (.Attribute (.Call (.Name "super" p0) [] [] p1) "__init__" p2) [ex] [] pos) p3 :: rest) scope cc cda) f A outer s H E) ex te ∧
        PSs (ncx CX P w K mg base N (nfOf name qual params (.Expr (.Call (.Attribute (.Call (.Name "super" p0) [] [] p1) "__init__" p2) [ex] [] pos) p3 :: rest) scope cc cda) f A outer s H E) rest t ∧ vs[0]? = some (.ref a) ∧ H a = some (exo a C none) ∧
        ∀ Q' : List V → Hp → Prop, (∀ us H1, us.length ≤ 1000 → H1 a = some (exo a C none) → t { nx := fun _ H' => Q .non H', rt := Q } (startF N vs [none]) H1 → Q' us H1) → tCons te tNil (startF N vs [none]) H Q')
    {pl : Sem Bool} (hc : ∀ env : Env, eval (.Call (.Attribute (.Call (.Name "super" p0) [] [] p1) "__init__" p2) [ex] [] pos) env = (do
      let ov ← attributeBase (.Call (.Name "super" p0) [] [] p1) "__init__" env (eval (.Call (.Name "super" p0) [] [] p1) env)
      standAt p2.atName
      let (f, first) ← holding [ov] (getMethod ov "__init__" pl)
      callWith pos f first (backTo pos (starEach [ex] env)) []) := by intro _; rfl)
    (hst : ∀ env : Env, starEach [ex] env = (false, eval ex env) :: starEach [] env := by intro _; rfl)
    (hin : ∀ L : Addr, interactive (envF (nfOf name qual params (.Expr (.Call (.Attribute (.Call (.Name "super" p0) [] [] p1) "__init__" p2) [ex] [] pos) p3 :: rest) scope cc cda) f L) = false := by intro _; rfl)
    (hsw : ∀ env : Env, swapsWith (.Call (.Attribute (.Call (.Name "super" p0) [] [] p1) "__init__" p2) [ex] [] pos) none p3.line env = pure false := by intro _; rfl) :
    FnOk P w K mg base CX (k + 1) f (PySem.W.fnX name qual params (.Expr (.Call (.Attribute (.Call (.Name "super" p0) [] [] p1) "__init__" p2) [ex] [] pos) p3 :: rest) scope [("__class__", cc)] dV kV doc pm an (.ref cda) ct) ps sp := by
  refine ⟨len, fun A outer s H args us vs Q E hr e0 hb r hsp => ?_⟩
  have hl := len _ _ _ _ hsp
  have KX : K.In s.heap := e0.mod.kin.keeps fun b o e => (e0.bs b o e).1
  have lim : s.heap.NoLimit := e0.mod.nolimit.keeps fun b o e => (e0.bs b o e).1
  obtain ⟨oc3, od3, osl3, lcc⟩ := Z.cell
  have hcc : H cc = none ∧ ∃ v, s.heap.IsCell cc v := ⟨(e0.bs _ _ (e0.mod.kin _ _ lcc)).2, _, _, (e0.bs _ _ (e0.mod.kin _ _ lcc)).1, rfl⟩
  have c1 : ∀ y c, List.lookup y [(("__class__" : Str), cc)] = some c → H c = none ∧ ∃ v, s.heap.IsCell c v := by
    intro y c e
    rw [lookup_one] at e
    split at e
    · cases e; exact hcc
    · cases e
  have c2 : ∀ x y c, List.lookup x [(("__class__" : Str), cc)] = some c → List.lookup y [(("__class__" : Str), cc)] = some c → x = y := by
    intro x y c e1 e2
    rw [lookup_one] at e1 e2
    split at e1
    · split at e2
      · rename_i z1 z2; rw [z1, z2]
      · cases e2
    · cases e1
  have c3 : ∀ (i : Nat) (y : Str), ([("__class__" : Str)])[i]? = some y → ∃ c, List.lookup y [(("__class__" : Str), cc)] = some c ∧ ∀ v, ([none] : List (Option V))[i]? = some (some v) → ∃ u, L2.RelV v u ∧ s.heap.IsCell c (some u) := by
    intro i y hy
    cases i with
    | zero =>
      obtain rfl : ("__class__" : Str) = y := Option.some.inj hy
      exact ⟨cc, by rw [lookup_one, if_pos rfl], fun v hv => by cases hv⟩
    | succ i => cases hy
  have C1 : CellsAt [(("__class__" : Str), cc)] ["__class__"] [none] s.heap H := ⟨rfl, c1, c2, c3⟩
  refine codeAny_call_function hr.depth (KX _ _ lk) rfl S.co S.gen rfl (PySem.W.codeRec_of KX hcd) (hb _ _ _ _ ?_)
  refine wpAny_newFunctionEnv S.nocell (fun ⟨n, _⟩ hy => S.par n (List.of_mem_zip hy).1) (fun h₁ hns hsb => ⟨lim.fresh _ hsb, ?_⟩) S.kind
  refine PySem.ks_codeAny_funcAt ?_
  have kp : ∀ b o, s.heap.get? b = some o → h₁.get? b = some o := fun b o e => hsb.extBut b o (Nat.ne_of_lt (Heap.lt_size e)) (Heap.get?_push_of_some _ e)
  obtain ⟨te, t, a, pe, pss, hv0, ea, hq⟩ := hbody A outer s H vs Q E (hr.deeper _) hsp
  have I : Inv (ncx CX P w K mg base N (nfOf name qual params (.Expr (.Call (.Attribute (.Call (.Name "super" p0) [] [] p1) "__init__" p2) [ex] [] pos) p3 :: rest) scope cc cda) f A outer s H E) [] (startF N vs [none]) H { s with heap := h₁, toks := s.toks + (ps.zip us).length } := inv_startN S hr.hd e0 hl r C1 hns kp
  have hN0 : N[0]? = some sn := by
    have e := S.pre
    have lt : 0 < ps.length := (List.getElem?_eq_some_iff.mp h0).1
    have e2 : (N.take (ps.length + 1))[0]? = (ps ++ [("__class__" : Str)])[0]? := congrArg (·[0]?) e
    rw [List.getElem?_take_of_lt (by omega), List.getElem?_append_left lt, h0] at e2
    exact e2
  have hs0 : (startF N vs [none])[0]? = some (some (.ref a)) := by
    unfold startF
    rw [List.getElem?_append_left (by rw [List.length_map]; exact (List.getElem?_eq_some_iff.mp hv0).1), List.getElem?_map, hv0]
    rfl
  have fin : ∀ {σ' : L2.St} {H' : Hp} {v : V} {u : Value} {s' : Shared}, Inv (ncx CX P w K mg base N (nfOf name qual params (.Expr (.Call (.Attribute (.Call (.Name "super" p0) [] [] p1) "__init__" p2) [ex] [] pos) p3 :: rest) scope cc cda) f A outer s H E) [] σ' H' s' → L2.RelV v u → Q v H' → CE outer P w H s Q u s' :=
    fun {σ' H' v u s'} J rv q => ⟨v, H', J.os, J.bare, J.base, J.hok, rv, q⟩
  refine PySem.ks_wpAt_execs_cons (PySem.ks_wpAt_Expr_any ?_ (hin _) (hsw _))
  refine sup_init (X := ncx CX P w K mg base N (nfOf name qual params (.Expr (.Call (.Attribute (.Call (.Name "super" p0) [] [] p1) "__init__" p2) [ex] [] pos) p3 :: rest) scope cc cda) f A outer s H E) T Z hfile htop hks (S.frk _ (by simp)) (S.par _ (List.mem_of_getElem? h0)) rfl rfl ((lookup_one (k := "__class__") (v := cc) (x := "__class__")).trans (if_pos rfl)) hm hN0 hs0 pe I ea ?_ (hc _) (hst _)
  refine hq _ fun us1 H1 h1 h2 h3 => ⟨h1, h2, fun s' J => ?_⟩
  refine PySem.wpAt_of_wpAny (wpAny_mono (pss.run [] s' (startF N vs [none]) H1 _ J h3) (fun fl s' hs => ?_) fun e s' hs => hs)
  cases fl with
  | ret u =>
    obtain ⟨v, σ', H', J, rv, q⟩ := hs
    exact fin J rv q
  | next =>
    obtain ⟨σ', H', J, q⟩ := hs
    exact fin (v := V.non) (u := Value.none) J rfl q
  | brk =>
    obtain ⟨_, _, _, q⟩ := hs
    exact False.elim q
  | cont =>
    obtain ⟨_, _, _, q⟩ := hs
    exact False.elim q
end
/-! ### own exceptions of one field -/
def spOne (C : Addr) (fld : Str) (p : V → Prop) : Sp := fun vs H Q _ => ∃ a y, vs = [.ref a, y] ∧ p y ∧ H a = some (exo a C none) ∧ ∀ d, H d = none → d ≠ a → Q .non (upd (upd H d (exd d [(fld, y)])) a (exo a C (some d)))
theorem spOne_len {C : Addr} {fld : Str} {p : V → Prop} {n1 n2 : Str} : ∀ (vs : List V) (H : Hp) (Q : VK) (E : XK), spOne C fld p vs H Q E → vs.length = [n1, n2].length := fun vs H Q E ⟨a, y, e, _⟩ => by rw [e]; rfl
section
open NdefX
variable {N : List Str} {σ : L2.St} {H : Hp} {K : PySem.W.Frag} {C : Addr} {fld : Str} {p : V → Prop}
theorem startF_two {a : Addr} {y : V} (hN : N.length = 3) : startF N [.ref a, y] [none] = [some (.ref a), some y, none] := by
  unfold startF
  rw [hN]
  rfl
/-- the two statements' reading -/
theorem one_body {te : TE} {a : Addr} {y : V} {Q : VK} (hN : N.length = 3) (T : OexC K C) (hno : PySem.W.findIn K (.ref C) fld = some none) (hte : ∀ Q' : VK, (∀ x, Q' x H) → te (startF N [.ref a, y] [none]) H Q') (ea : H a = some (exo a C none))
    (q : ∀ d, H d = none → d ≠ a → Q .non (upd (upd H d (exd d [(fld, y)])) a (exo a C (some d)))) :
    ∀ Q' : List V → Hp → Prop, (∀ us H1, us.length ≤ 1000 → H1 a = some (exo a C none) → tSeq (tOst K fld (tVar 0) (tVar 1)) tNext { nx := fun _ H' => Q .non H', rt := Q } (startF N [.ref a, y] [none]) H1 → Q' us H1) → tCons te tNil (startF N [.ref a, y] [none]) H Q' := fun Q' k => by
  refine hte _ fun x => ?_
  refine k [x] H (by simp) ea ?_
  rw [startF_two hN]
  exact ⟨y, rfl, .ref a, rfl, a, C, rfl, T, hno, .inl ⟨ea, q⟩⟩
end
/-- such an exception is made: what there is behind it -/
theorem make_one {K : PySem.W.Frag} {M : List Addr} {te : TE} {σ : L2.St} {H : Hp} {C : Addr} {fld : Str} {p : V → Prop} {i : Int} {Q : XK} (m : MOk M H) (h : Hv K M te σ H i) (hp : p (.int i))
    (q : ∀ H1 d, Ex H H1 → H1 d = none → Q (.ref C) (some d) (upd H1 d (.xd [(fld, .int i)]))) : tMkO C (spOne C fld p) [] (tCons te tNil) σ H Q := by
  refine h H (Ex.refl H) m _ fun v H1 e d => ?_
  have d' : Xp K (msk M H1) v (.int i) := d
  cases d'
  refine ⟨by simp, fun a ha => ⟨a, .int i, rfl, hp, upd_same, fun d hd hda => ⟨rfl, d, [(fld, .int i)], upd_same, ?_, ?_, ?_⟩⟩⟩
  · rw [upd_ne hda, upd_same]
  · rw [upd_ne hda] at hd; exact hd
  · have hd1 : H1 d = none := by rw [upd_ne hda] at hd; exact hd
    have e1 : upd (del (upd (upd (upd H1 a (exo a C none)) d (exd d [(fld, V.int i)])) a (exo a C (some d))) a) d (.xd [(fld, .int i)]) = upd H1 d (.xd [(fld, .int i)]) := by
      funext b
      by_cases hb : b = d
      · rw [hb, upd_same, upd_same]
      · rw [upd_ne hb, upd_ne hb]
        by_cases hba : b = a
        · rw [hba, del_same, ha]
        · rw [del_ne hba, upd_ne hba, upd_ne hb, upd_ne hba]
    rw [e1]
    exact q H1 d e hd1
/-- a text around one number, as an exception's message -/
theorem fs_int {s1 s2 : Str} {j : Nat} {σ : L2.St} {H : Hp} {i : Int} (hσ : σ[j]? = some (some (.int i))) (hi : i.natAbs.log2 < 1920) (hl : s1.length + 1921 + s2.length ≤ sizeLine) {Q' : VK} (k : ∀ x, Q' x H) :
    tJs [tC (.str s1), tFmt (tVar j), tC (.str s2)] Str.empty σ H fun out H1 => Q' (.str out) H1 := by
  have h1 : (Str.ofString (toString i)).length ≤ 1921 := by rw [PySem.ofString_length]; exact PySem.int_text_length_le (k := 1920) (by decide) hi
  refine ⟨s1, rfl, ?_, .int i, hσ, .inr ⟨i, rfl, hi, _, rfl, ?_, s2, rfl, ?_, k _⟩⟩
  · rw [PySem.Str.length_append]; show 0 + _ ≤ _; omega
  · rw [PySem.Str.length_append, PySem.Str.length_append]; show 0 + _ + _ ≤ _; omega
  · rw [PySem.Str.length_append, PySem.Str.length_append, PySem.Str.length_append]; show 0 + _ + _ + _ ≤ _; omega
theorem log2_few {i : Int} (h0 : 0 ≤ i) (h : i ≤ 1000000) : i.natAbs.log2 < 1920 := by
  have h1 : i.natAbs < 2 ^ 1920 := Nat.lt_of_le_of_lt (show i.natAbs ≤ 1000000 by omega) (by decide +kernel)
  by_cases h2 : i.natAbs = 0
  · rw [h2]; decide
  · exact (Nat.log2_lt h2).mpr h1
/-! ### defs that may raise such an exception: Except Int -/
/-- args, what is asked, what it answers (.ok) or with which number it raises C (.error) -/
def PrX {γ β : Type} [DecidableEq β] [Dx β] (K : PySem.W.Frag) (args : γ → List Xd) (pre : γ → Prop) (F : γ → Except Int β) (C : Addr) (fld : Str) : Sp := fun vs H Q E => ∃ (Mc : List Addr) (c : γ), MOk Mc H ∧ XpAll K (msk Mc H) vs (args c) ∧ pre c ∧
  (∀ b, F c = .ok b → ∀ w H', Ex H H' → Dt K (msk Mc H') w b → Q w H') ∧ ∀ i, F c = .error i → ∀ d H', Ex H H' → H' d = some (.xd [(fld, .int i)]) → E (.ref C) (some d) H'
section
variable {K : PySem.W.Frag} {Mc : List Addr} {He H : Hp} {is : Ims} {ms : Mus} {σ : L2.St} {te : TE} {tr : TA} {tz : TS} {D : Ends} {C : Addr} {fld : Str} {p : V → Prop} {W : WX}
/-- raise C(e) -/
theorem zq_raise {i : Int} (s : Sg K Mc He H is ms) (h : Hv K (muA ms ++ Mc) te σ H i) (hp : p (.int i)) (q : ∀ d H1, Ex He H1 → H1 d = some (.xd [(fld, .int i)]) → W (.ref C) (some d) σ H1) :
    tSeq (fun _ σ H => tMkO C (spOne C fld p) [] (tCons te tNil) σ H fun cls d H' => W cls d σ H') tz D σ H :=
  show tMkO C (spOne C fld p) [] (tCons te tNil) σ H (fun cls d H' => W cls d σ H') from
  make_one s.mok h hp fun H1 d e hd => q d _ (s.ex (e.trans (Ex.new hd))).all upd_same
/-- f(..) as a statement, f may raise C -/
theorem zq_callX {γ β : Type} [DecidableEq β] [Dx β] {args : γ → List Xd} {pre : γ → Prop} {F : γ → Except Int β} (c : γ) (s : Sg K Mc He H is ms) (h : HD K (muA ms ++ Mc) tr σ H (args c)) (hp : pre c) (ok : ∀ b, F c = .ok b → ∀ H1, Sg K Mc He H1 is ms → tz D σ H1)
    (er : ∀ i, F c = .error i → ∀ d H1, Sg K Mc He H1 is ms → H1 d = some (.xd [(fld, .int i)]) → W (.ref C) (some d) σ H1) : tSeq (tDrop (tCallS (PrX K args pre F C fld) (WE W) tr)) tz D σ H :=
  h H (Ex.refl H) s.mok _ fun vs H1 e d => ⟨muA ms ++ Mc, c, s.mok.ex e, d, hp, fun b hb w H' e' _ => ok b hb H' (s.ex (e.trans e')), fun i hi d H' e' hd => er i hi d H' (s.ex (e.trans e')) hd⟩
end
/-! ### promises put together -/
section
variable {P : Program} {w : World} {K : PySem.W.Frag} {mg : Str → Option Value} {base : Heap} {CX : CXT} {k : Nat} {f : Addr} {fd : FuncData} {ps : List Str} {sp sp1 sp2 : Sp}
/-- a def that never raises keeps its promise also where exceptions are told -/
theorem fnok_lift (F : FnOk P w K mg base CX0 k f fd ps sp) : FnOk P w K mg base CX k f fd ps sp := ⟨F.len, fun A outer s H args us vs Q E hr e0 hb r h => codeAny_mono (F.run A outer s H args us vs Q E hr e0 hb r h) fun r s' h' => by
  cases r with
  | error e => exact False.elim h'
  | ok fl => cases fl <;> exact h'⟩
/-- two promises of one def -/
theorem fnok_or (F1 : FnOk P w K mg base CX k f fd ps sp1) (F2 : FnOk P w K mg base CX k f fd ps sp2) : FnOk P w K mg base CX k f fd ps (fun vs H Q E => sp1 vs H Q E ∨ sp2 vs H Q E) :=
  ⟨fun vs H Q E h => h.elim (F1.len vs H Q E) (F2.len vs H Q E), fun A outer s H args us vs Q E hr e0 hb r h => h.elim (F1.run A outer s H args us vs Q E hr e0 hb r) (F2.run A outer s H args us vs Q E hr e0 hb r)⟩
end
/-- isinstance(e, c), e the exception that the suite holds, with its own dict -/
def rIsD (K : PySem.W.Frag) (D a dd : Addr) : List V → Hp → VK → Prop := fun xs H Q => ∃ (c : V) (cv : Value) (b : Bool) (fs : List (Str × V)), xs = [.ref a, c] ∧ (∀ u, RelV c u → u = cv) ∧ PySem.W.kitOne K (.ref D) cv = some b ∧ H dd = some (.xd fs) ∧ Q (.bl b) H
theorem call_isD {X : Cx} {a D dd : Addr} {oe : Obj} {pn : List (Addr × Obj)} (C : ExcC X.K D) (hz : Zc (.ref D) (some dd) oe) (hf : ∃ vs, oe.data = .fields vs) (hcl : (PySem.W.clsIn X.K D).isSome = true) : CallR (X.suite a ((a, oe) :: pn)) (.builtin "isinstance") (rIsD X.K D a dd) := by
  intro pins s σ H xs us Q I r h
  obtain ⟨c, cv, b, fs, rfl, hcv, e, hd, q⟩ := h
  cases r with
  | cons rx rr =>
    cases rr with
    | cons rt rr =>
      cases rr
      cases rx
      have ec := hcv _ rt
      subst ec
      obtain ⟨hget, _⟩ := I.pin (a, oe) (List.mem_append.mpr (.inl List.mem_cons_self))
      obtain ⟨vs, hv⟩ := hf
      obtain ⟨od, hod⟩ : ∃ od, s.heap.get? dd = some od := by
        obtain ⟨mA, ⟨o, es, ep, ho, _⟩, _⟩ := (show ObjOk X.prog X.w H s.heap dd (.xd fs) from I.hok dd _ hd)
        exact ⟨o, ho⟩
      have J : PySem.W.InstAt s.heap a oe D (some od) := by
        obtain ⟨oc, odc, oda, osl⟩ := oe
        obtain ⟨h1, h2⟩ := hz
        dsimp only at h1 h2 hv
        subst h1 h2 hv
        exact ⟨hget, rfl, rfl, hod⟩
      exact PySem.W.kia_one (PySem.W.kitx_exc hcl C.hg C.hk C.hs C.ha C.hn C.ht C.hm) I.kIn J e (fun z => nomatch z) fun tk => ⟨.bl b, H, I.kept (t' := tk) fun _ _ z => z, rfl, q⟩
/-! ### the same where it is known that the exception has no context (so that its suite may call own defs) -/
theorem passN {X : Cx} : Passes (L2N.CX X.prog X.w) X E0 := fun _ _ _ _ _ _ _ h => by
  obtain ⟨_, _, _, _, _, _, _, _, _, _, _, _, z⟩ := h
  exact z.elim
/-- C(e): the exception is made, its own __init__ keeping sp -/
theorem mk_excN {X : Cx} {CX : CXT} {x : Str} {C fI : Addr} {k : Nat} {fd : FuncData} {ps : List Str} {sp : Sp} {e : Expr} {te : TE} {p pos : Pos} (T : OexC X.K C) (iC : PySem.W.findIn X.K (.ref C) "__init__" = some (some (.ref fI))) (tI : PySem.W.typeIn X.K (.ref fI) = some (.type "function"))
    (F1 : FnOk X.prog X.w X.K X.mg X.base CX k fI fd ps sp) (hr : Room (k + 1) X.A) (hb : Binds X.K fd ps []) (hx : Passes CX X E0) (hg : Gl X x) (hm : X.mg x = some (.ref C)) (he : PE X e te)
    (hdb : (x == ("__debug__" : Str)) = false := by decide) (h1 : starEach [e] X.env = (false, eval e X.env) :: starEach [] X.env := by rfl) :
    L2N.PMk X (.Call (.Name x p) [e] [] pos) (tMkO C sp [] (tCons te tNil)) := by
  intro pins s σ H Q I h
  obtain ⟨nm, q, N, bs, bm, sn, sub, ab, col, dd, k0, k1, k2, k3, k5, hC, hbm⟩ := T.cls
  have pa : PA X [e] (tCons te tNil) := pa_cons he pa_nil h1
  refine wpAny_Call_Name_kw (ld_glob I hg hm ?_ hdb)
  refine PySem.W.callWith_K (h₀ := X.base) I.ok.mod.kin T.kC (thn (pa.run pos pins s σ H _ I h) fun us s1 ⟨vs, H1, I1, r1, hz, q1⟩ => ⟨I1.kIn, ?_⟩) h1 rfl
  show wpAny _ _ (call (.ref C) us) _ _ _
  obtain ⟨hp, g, dr, tk, os⟩ := s1
  generalize ha : hp.objs.size + 1 = a at *
  have hsz : hp.objs.size ≤ a := by omega
  have hq := q1 a (I1.hok.fresh hsz)
  rw [List.append_nil] at hq
  have kk : ∀ b o, hp.get? b = some o → ((hp.push (PySem.W.kdv_tup us)).push (PySem.HandSPX.excO C hp.objs.size)).get? b = some o := fun b o z => Heap.get?_push_of_some _ (Heap.get?_push_of_some _ z)
  have hget : ((hp.push (PySem.W.kdv_tup us)).push (PySem.HandSPX.excO C hp.objs.size)).get? a = some (PySem.HandSPX.excO C hp.objs.size) := by subst ha; heap_get
  have I2 : Inv X pins σ (upd H1 a (exo a C none)) ⟨(hp.push (PySem.W.kdv_tup us)).push (PySem.HandSPX.excO C hp.objs.size), g, dr, tk, os⟩ := I1.laid (t' := tk) kk hsz (exo_ok hget)
  have r2 : Vals (V.ref a :: vs) (Value.ref a :: us) := .cons rfl r1
  have hl : (Value.ref a :: us ++ []).length = ps.length := by
    have z := r2.length
    rw [F1.len _ _ _ _ hq] at z
    rw [List.append_nil]
    exact z.symm
  have b2 := hb _ (Value.ref a :: us) I2.kIn hl
  rw [List.append_nil] at b2
  have hus : us.length ≤ sizeLine := by
    rw [← Paired.length r1, sizeLine_eq]
    omega
  have run := F1.run _ X.stack _ _ ⟨Value.ref a :: us, []⟩ (Value.ref a :: us) _ _ (fun _ _ _ => False) (hr.make C us []) (I2.env0.make C us []) b2 r2 hq
  subst ha
  refine wpAny_call (PySem.HandSPX.call_own F.excBase_ValueError (fun Y => PySem.HandSPX.refsVE_contains Y bm hbm) (I1.kIn _ _ hC) (PySem.W.looks_findIn I1.kIn iC) (fun self => PySem.W.bind_fn I1.kIn self tI) hus (codeAny_mono run fun r s' hq' => ?_))
  match r with
  | .error er => exact hx pins σ _ _ er s' I2 hq'
  | .ok .next => exact False.elim hq'
  | .ok .brk => exact False.elim hq'
  | .ok .cont => exact False.elim hq'
  | .ok (.ret u) =>
    obtain ⟨v, H2, os2, bare2, un2, hok2, rv, rfl, d, fs, ea, ed, hd1, q2⟩ := hq'
    obtain ⟨h2, g2, d2, t2, os'⟩ := s'
    obtain ⟨t0, G, J, kG, ge, hoe, na⟩ := mk_end0 (d2 := d2) (t2 := t2) I1 hsz kk un2 hok2 os2 bare2 ea ed hd1
    exact ⟨rv, ⟨_, _, _, ⟨G, g2, d2, t2, os'⟩, _, .ref C, some d, rfl, J, kG, ge, hoe, ⟨rfl, rfl, fun vs hv => by cases hv; rfl⟩, rfl, rfl, na, rfl, bare2, raises_own T.exC T.tyC, q2⟩⟩
/-- a def by its body, at any context of exceptions -/
theorem fun_okC {CX : CXT} {P : Program} {w : World} {K : PySem.W.Frag} {mg : Str → Option Value} {base : Heap} {x qual : Str} {st : Stmt} {f : Addr} {fd : FuncData} {N ps : List Str} {k : Nat} {sp : Sp} (F : Fun K x qual st f fd) (S : FnScope N ps (defScope st)) (len : ∀ vs H Q E, sp vs H Q E → vs.length = ps.length)
    (hbody : ∀ (cdv : Value) (A : Around) (outer : List Env) (s : Shared) (H : Hp) (vs : List V) (Q : VK) (E : XK), Room k (A.deeper (envOfC qual (defScope st) s.heap.objs.size f cdv)) → sp vs H Q E →
      ∃ t, PSs (cxOf CX P w K mg base N qual (defScope st) f cdv A outer s H E) (defBody st) t ∧ t { nx := fun _ H' => Q .non H', rt := Q } (start N vs) H) : FnOk P w K mg base CX (k + 1) f fd ps sp := by
  obtain ⟨oc, od, kV, doc, pm, an, cdv, ct, osl, rfl, lk, hcd⟩ := F.ex
  exact fn_of lk hcd S len fun A outer s H vs Q E hr hsp => hbody cdv A outer s H vs Q E hr hsp
/-- a def by its body, where an exception is handled -/
theorem fun_okH {CX : CXT} {P : Program} {w : World} {K : PySem.W.Frag} {mg : Str → Option Value} {base : Heap} {x qual : Str} {st : Stmt} {f : Addr} {fd : FuncData} {N ps : List Str} {k : Nat} {sp : Sp} (F : Fun K x qual st f fd) (S : FnScope N ps (defScope st)) (len : ∀ vs H Q E, sp vs H Q E → vs.length = ps.length)
    (hbody : ∀ (cdv : Value) (A : Around) (outer : List Env) (s : Shared) (H : Hp) (vs : List V) (Q : VK) (E : XK) (p : Addr × Obj), L2H.Hot1 A p → L2H.RoomH k (A.deeper (envOfC qual (defScope st) s.heap.objs.size f cdv)) → sp vs H Q E →
      ∃ t, PSs (L2H.cxH CX P w K mg base N qual (defScope st) f cdv A outer s H E p) (defBody st) t ∧ t { nx := fun _ H' => Q .non H', rt := Q } (start N vs) H) : L2H.FnH P w K mg base CX (k + 1) f fd ps sp := by
  obtain ⟨oc, od, kV, doc, pm, an, cdv, ct, osl, rfl, lk, hcd⟩ := F.ex
  exact L2H.fn_ofH lk hcd S len fun A outer s H vs Q E p hot hr hsp => hbody cdv A outer s H vs Q E p hot hr hsp
/-- the suite of an except clause bears the exception that it handles -/
theorem hot_suite {X : Cx} {a : Addr} {oe : Obj} {cls : Value} {d : Option Addr} {pn : List (Addr × Obj)} (hz : L2N.Zn cls d oe) (hf : ∃ vs, oe.data = .fields vs) : L2H.HotC (X.suite a ((a, oe) :: pn)) := by
  obtain ⟨vs, hv⟩ := hf
  exact ⟨(a, oe), ⟨rfl, vs, hv, hz.2.2 vs hv⟩, List.mem_cons_self⟩
/-- isinstance(e, c) in a suite, whatever class and dict the clause may meet -/
def rIsG (K : PySem.W.Frag) (D a : Addr) (cls : Value) (d : Option Addr) : List V → Hp → VK → Prop := fun xs H Q => ∃ dd, cls = .ref D ∧ d = some dd ∧ rIsD K D a dd xs H Q
theorem call_isG {X : Cx} {a D : Addr} {oe : Obj} {cls : Value} {d : Option Addr} {pn : List (Addr × Obj)} (C : ExcC X.K D) (hz : Zc cls d oe) (hf : ∃ vs, oe.data = .fields vs) (hcl : (PySem.W.clsIn X.K D).isSome = true) : CallR (X.suite a ((a, oe) :: pn)) (.builtin "isinstance") (rIsG X.K D a cls d) := by
  intro pins s σ H xs us Q I r h
  obtain ⟨dd, rfl, rfl, h⟩ := h
  exact call_isD C hz hf hcl pins s σ H xs us Q I r h
end Ly

namespace Ly
open PySem PySem.Spec PyProof.Rows L2 Evl
open PySem.W (Datum DatumOrd Tup T3 T4)
theorem passH0 {X : Cx} : ∀ σ, PassesAt CX0 X σ ((fun _ => E0 : L2.St → XK) σ) := fun _ _ _ _ _ _ _ h => h.elim
/-! ### defs that raise an own exception; try in a law -/
theorem takes0N {X : Cx} : L2N.Takes X (fun _ _ _ _ => False) := fun _ _ x => by
  obtain ⟨_, _, _, _, _, _, _, _, _, _, _, _, _, _, _, _, z⟩ := x
  exact z.elim
/-- args, what is asked, what it answers (.ok) or with what it raises C (.error) -/
def PrE {γ β ε : Type} [DecidableEq β] [Dx β] (K : PySem.W.Frag) (args : γ → List Xd) (pre : γ → Prop) (F : γ → Except ε β) (C : Addr) (ns : List Str) (xs : ε → List Xd) : Sp := fun vs H Q E => ∃ (Mc : List Addr) (c : γ), MOk Mc H ∧ XpAll K (msk Mc H) vs (args c) ∧ pre c ∧
  (∀ b, F c = .ok b → ∀ w H', Ex H H' → Dt K (msk Mc H') w b → Q w H') ∧ ∀ i, F c = .error i → ∀ d H', Ex H H' → Xp K (msk Mc H') (.ref d) (.exd ns (xs i)) → E (.ref C) (some d) H'
section
variable {K : PySem.W.Frag} {Mc : List Addr} {He H : Hp} {is : Ims} {ms : Mus} {σ : L2.St} {te : TE} {tr : TA} {tz : TS} {D : Ends} {C : Addr} {fld : Str} {p : V → Prop} {W : WX}
/-- raise C(e) -/
theorem zq_raiseE {i : Int} (s : Sg K Mc He H is ms) (h : Hv K (muA ms ++ Mc) te σ H i) (hp : p (.int i)) (q : ∀ d H1, Ex He H1 → Xp K (msk Mc H1) (.ref d) (.exd [fld] [.int i]) → W (.ref C) (some d) σ H1) :
    tSeq (fun _ σ H => tMkO C (spOne C fld p) [] (tCons te tNil) σ H fun cls d H' => W cls d σ H') tz D σ H :=
  show tMkO C (spOne C fld p) [] (tCons te tNil) σ H (fun cls d H' => W cls d σ H') from
  make_one s.mok h hp fun H1 d e hd => q d _ (s.ex (e.trans (Ex.new hd))).all
    (Xp.exd (fs := [(fld, .int i)]) (by rw [msk_out ((s.okc.ex (s.ex e).all).nin hd)]; exact upd_same) rfl rfl (.cons (.int i) .nil))
/-- what a suite's end does -/
def DE (D : Ends) (tz : TS) (j : Nat) : Ends := { nx := fun σ' H' => tz D (σ'.set j none) H', rt := D.rt, bk := fun σ' H' => D.bk (σ'.set j none) H', ct := fun σ' H' => D.ct (σ'.set j none) H' }
section
variable {γ β ε : Type} [DecidableEq β] [Dx β] {args : γ → List Xd} {pre : γ → Prop} {F : γ → Except ε β} {ns : List Str} {xs : ε → List Xd} {j : Nat} {ts : Addr → Value → Option Addr → TS} {Wout : WX}
/-- try: f(..) except C as e -/
theorem zq_tryE (c : γ) (s : Sg K Mc He H is ms) (h : HD K (muA ms ++ Mc) tr σ H (args c)) (hp : pre c) (hx : PySem.W.exmOne K (.ref C) (.ref C) = some true)
    (ok : ∀ b, F c = .ok b → ∀ H1, Sg K Mc He H1 is ms → tz D σ H1)
    (er : ∀ i, F c = .error i → ∀ a d H1, Sg K Mc He H1 ((.ref d, Xd.exd ns (xs i)) :: is) ms → ts a (.ref C) (some d) (DE D tz j) (σ.set j (some (.ref a))) H1) :
    tSeq (fun D σ H => tSeq (tDrop (tCallS (PrE K args pre F C ns xs) (WE (wAs K (.ref C) j ts Wout D)) tr)) tNext D σ H) tz D σ H :=
  h H (Ex.refl H) s.mok _ fun vs H1 e d => ⟨muA ms ++ Mc, c, s.mok.ex e, d, hp, fun b hb w H' e' _ => ok b hb H' (s.ex (e.trans e')),
    fun i hi d H' e' hd => ⟨true, hx, fun _ a ha => er i hi a d H' ⟨(s.ex (e.trans e')).ext, s.okc, s.nd, ⟨hd, (s.ex (e.trans e')).im⟩, (s.ex (e.trans e')).mu⟩, fun z => nomatch z⟩⟩
/-- try: x = f(..) except C as e -/
theorem zq_tryA (c : γ) {i0 : Nat} (s : Sg K Mc He H is ms) (h : HD K (muA ms ++ Mc) tr σ H (args c)) (hp : pre c) (hx : PySem.W.exmOne K (.ref C) (.ref C) = some true)
    (ok : ∀ b, F c = .ok b → ∀ v H1, Sg K Mc He H1 ((v, Dx.toX b) :: is) ms → tz D (σ.set i0 (some v)) H1)
    (er : ∀ i, F c = .error i → ∀ a d H1, Sg K Mc He H1 ((.ref d, Xd.exd ns (xs i)) :: is) ms → ts a (.ref C) (some d) (DE D tz j) (σ.set j (some (.ref a))) H1) :
    tSeq (fun D σ H => tSeq (tAsg (tCallS (PrE K args pre F C ns xs) (WE (wAs K (.ref C) j ts Wout D)) tr) (gName i0)) tNext D σ H) tz D σ H :=
  h H (Ex.refl H) s.mok _ fun vs H1 e d => ⟨muA ms ++ Mc, c, s.mok.ex e, d, hp, fun b hb w H' e' dw => ok b hb w H' ((s.ex (e.trans e')).put dw),
    fun i hi d H' e' hd => ⟨true, hx, fun _ a ha => er i hi a d H' ⟨(s.ex (e.trans e')).ext, s.okc, s.nd, ⟨hd, (s.ex (e.trans e')).im⟩, (s.ex (e.trans e')).mu⟩, fun z => nomatch z⟩⟩
end
end
theorem suite_end {D : Ends} {tz : TS} {j : Nat} {σ : L2.St} {H : Hp} (h : tz D (σ.set j none) H) : tNext (DE D tz j) σ H := h
section
variable {K : PySem.W.Frag} {M : List Addr} {σ : L2.St} {H : Hp}
/-- a call in a suite -/
theorem hv_callS0 {γ β : Type} [DecidableEq β] [Dx β] {args : γ → List Xd} {pre : γ → Prop} {F : γ → β} {tr : TA} {E : L2.St → XK} (c : γ) (h : HD K M tr σ H (args c)) (p : pre c) : Hv K M (tCallS (PrD K args pre F) E tr) σ H (F c) := fun H1 e m Q q =>
  h H1 e m _ fun vs H2 e2 d => ⟨M, c, m.ex e2, d, p, fun w H3 e3 d3 => q w H3 (e2.trans e3) d3⟩
theorem exd_at {d : Addr} {ns : List Str} {ds : List Xd} (h : Xp K H (.ref d) (.exd ns ds)) : ∃ fs, H d = some (.xd fs) ∧ fs.map (·.1) = ns ∧ XpAll K H (fs.map (·.2)) ds := by
  cases h with
  | exd h k v a => exact ⟨_, h, k, by rw [v]; exact a⟩
/-- isinstance(e, c) -/
theorem hv_isG {j : Nat} {C a dd : Addr} {v : V} {cv : Value} {b : Bool} {ns : List Str} {ds : List Xd} (hj : σ[j]? = some (some (.ref a))) (hd : Xp K (msk M H) (.ref dd) (.exd ns ds)) (hc : ∀ u, L2.RelV v u → u = cv) (hk : PySem.W.kitOne K (.ref C) cv = some b) :
    Hv K M (tCB (rIsG K C a (.ref C) (some dd)) (tCons (tVar j) (tCons (tC v) tNil))) σ H b := fun H1 e m Q q => by
  obtain ⟨fs, h1, _, _⟩ := exd_at (dp_mono (msk_ex e) hd)
  exact ⟨_, hj, dd, rfl, rfl, v, cv, b, fs, rfl, hc, hk, msk_le _ _ h1, q _ H1 (Ex.refl H1) (Dt.ofBool b)⟩
theorem lookup_map {fs : List (Str × V)} {n : Str} {i : Nat} (hn : (fs.map (·.1))[i]? = some n) (nd : (fs.map (·.1)).Nodup) : fs.lookup n = (fs.map (·.2))[i]? := by
  induction fs generalizing i with
  | nil => simp at hn
  | cons f r ih =>
    obtain ⟨k, v⟩ := f
    simp only [List.map_cons, List.nodup_cons] at hn nd
    cases i with
    | zero =>
      simp at hn
      subst hn
      simp [List.lookup]
    | succ i =>
      simp at hn
      have hne : n ≠ k := fun z => nd.1 (by rw [← z]; exact List.mem_of_getElem? (by simpa using hn))
      have e : (n == k) = false := by simpa using hne
      simp only [List.lookup, e]
      have := ih (i := i) (by simpa using hn) nd.2
      rw [this]
      simp
/-- e.f -/
theorem hv_xf {α : Type} [DecidableEq α] [Dx α] {j i : Nat} {C a dd : Addr} {f : Str} {ns : List Str} {ds : List Xd} {x : α} (hj : σ[j]? = some (some (.ref a))) (hd : Xp K (msk M H) (.ref dd) (.exd ns ds)) (hi : ns[i]? = some f) (nd : ns.Nodup) (hx : ds[i]? = some (Dx.toX x)) :
    Hv K M (tXf a (.ref C) (some dd) C f (tVar j)) σ H x := fun H1 e m Q q => by
  obtain ⟨fs, h1, h2, h3⟩ := exd_at (dp_mono (msk_ex e) hd)
  obtain ⟨v, hv, dv⟩ := dpa_at h3 hx
  exact ⟨_, hj, rfl, rfl, dd, fs, v, rfl, msk_le _ _ h1, by rw [lookup_map (i := i) (by rw [h2]; exact hi) (by rw [h2]; exact nd)]; exact hv, q v H1 (Ex.refl H1) dv⟩
end
end Ly

namespace Ly
open PySem PySem.Spec PyProof.Rows L2 Evl
open PySem.W (Datum DatumOrd Tup T3 T4)
/-! ### lists that are lent to a def while they may still change -/
/-- an argument: data, or the shell of a list that is only read -/
inductive Ag where
  | im (d : Xd)
  | bo (ds : List Xd)
def AgOk (K : PySem.W.Frag) (M : List Addr) (H : Hp) (v : V) : Ag → Prop
  | .im d => Xp K (msk M H) v d
  | .bo ds => ∃ l ws, v = .ref l ∧ SqL K H l ws ∧ XpAll K (msk M H) ws ds
theorem AgOk.ex {K : PySem.W.Frag} {M : List Addr} {H H' : Hp} {v : V} (e : Ex H H') : ∀ {a : Ag}, AgOk K M H v a → AgOk K M H' v a
  | .im _, h => dp_mono (msk_ex e) h
  | .bo _, ⟨l, ws, h1, h2, h3⟩ => ⟨l, ws, h1, ex_l e h2, dpa_mono (msk_ex e) h3⟩
inductive AgAll (K : PySem.W.Frag) (M : List Addr) (H : Hp) : List V → List Ag → Prop
  | nil : AgAll K M H [] []
  | cons {v : V} {vs : List V} {a : Ag} {as : List Ag} : AgOk K M H v a → AgAll K M H vs as → AgAll K M H (v :: vs) (a :: as)
section
variable {K : PySem.W.Frag} {Mc M : List Addr} {He H H1 H2 : Hp} {is js : Ims} {ms : Mus} {σ : L2.St} {te ta tb tl : TE} {tt : TT} {g : TG}
variable {α β γ : Type} [DecidableEq α] [Dx α] [DecidableEq β] [Dx β]
theorem aga_len : ∀ {vs : List V} {as : List Ag}, AgAll K M H vs as → vs.length = as.length
  | _, _, .nil => rfl
  | _, _, .cons _ b => by rw [List.length_cons, List.length_cons, aga_len b]
theorem aga_inv {vs : List V} {d : Xd} {as : List Ag} (h : AgAll K M H vs (.im d :: as)) : ∃ v r, vs = v :: r ∧ Xp K (msk M H) v d ∧ AgAll K M H r as := by
  cases h with
  | cons a b => exact ⟨_, _, rfl, a, b⟩
theorem aga_invB {vs : List V} {ds : List Xd} {as : List Ag} (h : AgAll K M H vs (.bo ds :: as)) : ∃ l r ws, vs = .ref l :: r ∧ SqL K H l ws ∧ XpAll K (msk M H) ws ds ∧ AgAll K M H r as := by
  cases h with
  | cons a b => obtain ⟨l, ws, rfl, h2, h3⟩ := a; exact ⟨l, _, ws, rfl, h2, h3, b⟩
theorem aga_inv0 {vs : List V} (h : AgAll K M H vs []) : vs = [] := by cases h; rfl
def PrB (K : PySem.W.Frag) (args : γ → List Ag) (pre : γ → Prop) (F : γ → β) : Sp := fun vs H Q _ =>
  ∃ (Mc : List Addr) (c : γ), MOk Mc H ∧ AgAll K Mc H vs (args c) ∧ pre c ∧ ∀ w H', Ex H H' → Dt K (msk Mc H') w (F c) → Q w H'
def HB (K : PySem.W.Frag) (M : List Addr) (ta : TA) (σ : L2.St) (H : Hp) (as : List Ag) : Prop := HA M ta σ H (fun vs H => AgAll K M H vs as)
theorem hb_nil : HB K M tNil σ H [] := fun H1 e m Q q => q [] H1 (Ex.refl H1) .nil
theorem hb_im {tr : TA} {x : α} {as : List Ag} (h : Hv K M te σ H x) (hr : HB K M tr σ H as) : HB K M (tCons te tr) σ H (.im (Dx.toX x) :: as) := fun H1 e m Q q =>
  h H1 e m _ fun v H2 e2 d => hr H2 (e.trans e2) (m.ex e2) _ fun vs H3 e3 p => q _ H3 (e2.trans e3) (.cons (AgOk.ex (a := .im (Dx.toX x)) e3 d) p)
theorem hb_bo {tr : TA} {xs : List α} {as : List Ag} (h : HS K M te σ H xs) (hr : HB K M tr σ H as) : HB K M (tCons te tr) σ H (.bo (xs.map Dx.toX) :: as) := fun H1 e m Q q =>
  h H1 e m _ fun a vs H2 e2 s d => hr H2 (e.trans e2) (m.ex e2) _ fun ws H3 e3 p => q _ H3 (e2.trans e3) (.cons (AgOk.ex (a := .bo (xs.map Dx.toX)) e3 ⟨a, vs, rfl, s, d⟩) p)
theorem hv_callB {args : γ → List Ag} {pre : γ → Prop} {F : γ → β} {tr : TA} {E : XK} (c : γ) (h : HB K M tr σ H (args c)) (p : pre c) : Hv K M (tCall (PrB K args pre F) [] E tr) σ H (F c) := fun H1 e m Q q =>
  h H1 e m _ fun vs H2 e2 d => by
    show PrB K args pre F (vs ++ []) H2 Q E
    rw [List.append_nil]
    exact ⟨M, c, m.ex e2, d, p, fun w H3 e3 d3 => q w H3 (e2.trans e3) d3⟩
theorem Sg.entry (s : Sg K Mc He H is ms) : Ex (msk Mc He) (msk (muA ms ++ Mc) H) := fun a o h => by
  by_cases q : a ∈ Mc
  · rw [msk_in q] at h; cases h
  · rw [msk_out q] at h
    have h2 := s.ext a o h
    by_cases q2 : a ∈ muA ms
    · rw [msk_in q2] at h2; cases h2
    · rw [msk_out q2] at h2
      rw [msk_out (by simp [q, q2])]
      exact h2
/-- a lent list -/
theorem hs_bor (s : Sg K Mc He H is ms) {i : Nat} {l : Addr} {ws : List V} {xs : List α} (q : SqL K He l ws) (d : XpAll K (msk Mc He) ws (xs.map Dx.toX)) (h : σ[i]? = some (some (.ref l))) : HS K (muA ms ++ Mc) (tVar i) σ H xs := fun H1 e1 m Q k =>
  ⟨_, h, k l ws H1 (Ex.refl H1) (ex_l (s.all.trans e1) q) (dpa_mono (s.entry.trans (msk_ex e1)) d)⟩
/-- all of it, for a use that leaves nothing behind -/
theorem hv_bor (s : Sg K Mc He H is ms) {i : Nat} {l : Addr} {ws : List V} {xs : List α} (q : SqL K He l ws) (d : XpAll K (msk Mc He) ws (xs.map Dx.toX)) (h : σ[i]? = some (some (.ref l))) : Hv K [] (tVar i) σ H xs := hv_wholeS s (hs_bor s q d h)
/-! ### comprehensions over a list that may still change -/
theorem msk_newD {D : Addr} (e : Ex H H1) (h : H D = none) : Ex (msk M H) (msk (D :: M) H1) := fun a o q => by
  by_cases z : a ∈ M
  · rw [msk_in z] at q; cases q
  · rw [msk_out z] at q
    have n : a ≠ D := ne_of_none q h
    rw [msk_out (by simp [n, z])]
    exact e a o q
theorem hf_lcS0 {vs : List Nat} (s : Sg K Mc He H is ms) {xs : List α} (ef : α → β) (h : HS K (muA ms ++ Mc) tl σ H xs) (hz : xs.length ≤ 40000)
    (hb : ∀ D x w (ys : List β) H1, Sg K Mc He H1 ((w, Dx.toX x) :: is) ((D, .lst (ys.map Dx.toX)) :: ms) → x ∈ xs →
      ∀ Q : L2.St → Hp → Prop, (∀ σ2, wipe σ2 vs = wipe σ vs → Hv K (muA ((D, Mv.lst (ys.map Dx.toX)) :: ms) ++ Mc) te σ2 H1 (ef x) → Q σ2 H1) → g w (wipe σ vs) H1 Q) :
    HF K (muA ms ++ Mc) (tLc (iList K tl) g tYes te vs) σ H (xs.map ef) := fun H1 e m Q q =>
  h H1 e m _ fun a us H2 e2 s1 ds => by
    refine ⟨a, rfl, ⟨us, s1⟩, fun D hD => ?_⟩
    have sA : Sg K Mc He H2 is ms := (s.ex e).ex e2
    have sB : Sg K Mc He (upd H2 D (.lst [])) is ((D, .lst (([] : List β).map Dx.toX)) :: ms) := sA.new hD ⟨[], rfl, .nil⟩
    refine lc_listD (xs := xs) (M' := D :: (muA ms ++ Mc)) (fun i H' => Ex H2 H' ∧ Sg K Mc He H' is ((D, .lst (((xs.take i).map ef).map Dx.toX)) :: ms)) ⟨Ex.new hD, sB⟩
      (fun i H' _ p => ?_) (fun i x w H' hx p dw => ?_) (fun H' p => ?_)
    · exact ⟨us, ex_l p.1 s1, Dts.mono (msk_newD p.1 hD) ds⟩
    · have hi : i < xs.length := (List.getElem?_eq_some_iff.mp hx).1
      refine hb D x w _ H' (p.2.put dw) (List.mem_of_getElem? hx) _ fun σ2 hw he => ⟨hw, ?_⟩
      have hlen : ((xs.take i).map ef).length < 50000 := by
        rw [List.length_map, List.length_take]
        omega
      exact lc_turn (ms := ms) (tt := tYes) (b := true) (zs := (xs.take (i + 1)).map ef) p.2 hlen (fun H3 => Ex H2 H3 ∧ Sg K Mc He H3 is ((D, .lst (((xs.take (i + 1)).map ef).map Dx.toX)) :: ms)) (fun H2 _ _ _ q => q H2 (Ex.refl H2)) (fun _ => he) (by rw [if_pos rfl, take_snoc hx, List.map_append]; rfl) (fun H3 h4 s3 => ⟨by
        obtain ⟨H4, e4, e5⟩ := h4
        rcases e5 with e5 | ⟨o, e5⟩
        · rw [e5]; exact p.1.trans e4
        · rw [e5]; exact Ex.mut (p.1.trans e4) hD, s3⟩)
    · have z := p.2
      rw [List.take_length] at z
      obtain ⟨us2, h3, h4⟩ := z.lst (k := 0) rfl
      exact q D us2 H' (fresh_back e2 hD) (e2.trans p.1) h3 h4
theorem hv_lcS {vs : List Nat} (s : Sg K Mc He H is ms) {xs : List α} (f : α → Bool) (ef : α → β) (h : HS K (muA ms ++ Mc) tl σ H xs) (hz : xs.length ≤ 40000)
    (hb : ∀ D x w (ys : List β) H1, Sg K Mc He H1 ((w, Dx.toX x) :: is) ((D, .lst (ys.map Dx.toX)) :: ms) → x ∈ xs →
      ∀ Q : L2.St → Hp → Prop, (∀ σ2, wipe σ2 vs = wipe σ vs → HT (muA ((D, Mv.lst (ys.map Dx.toX)) :: ms) ++ Mc) tt σ2 H1 (f x) → (f x = true → Hv K (muA ((D, Mv.lst (ys.map Dx.toX)) :: ms) ++ Mc) te σ2 H1 (ef x)) → Q σ2 H1) → g w (wipe σ vs) H1 Q) :
    Hv K (muA ms ++ Mc) (tLc (iList K tl) g tt te vs) σ H ((xs.filter f).map ef) := fun H1 e m Q q =>
  h H1 e m _ fun a us H2 e2 s1 ds => by
    refine ⟨a, rfl, ⟨us, s1⟩, fun D hD => ?_⟩
    have sA : Sg K Mc He H2 is ms := (s.ex e).ex e2
    have sB : Sg K Mc He (upd H2 D (.lst [])) is ((D, .lst (([] : List β).map Dx.toX)) :: ms) := sA.new hD ⟨[], rfl, .nil⟩
    refine lc_listD (xs := xs) (M' := D :: (muA ms ++ Mc)) (fun i H' => Ex H2 H' ∧ Sg K Mc He H' is ((D, .lst ((((xs.take i).filter f).map ef).map Dx.toX)) :: ms)) ⟨Ex.new hD, sB⟩
      (fun i H' _ p => ?_) (fun i x w H' hx p dw => ?_) (fun H' p => ?_)
    · exact ⟨us, ex_l p.1 s1, Dts.mono (msk_newD p.1 hD) ds⟩
    · have hi : i < xs.length := (List.getElem?_eq_some_iff.mp hx).1
      refine hb D x w _ H' (p.2.put dw) (List.mem_of_getElem? hx) _ fun σ2 hw ht he => ⟨hw, ?_⟩
      have hlen : (((xs.take i).filter f).map ef).length < 50000 := by
        rw [List.length_map]
        have := List.length_filter_le f (xs.take i)
        rw [List.length_take] at this
        omega
      have key := lc_turn (ms := ms) (zs := ((xs.take (i + 1)).filter f).map ef) p.2 hlen (fun H3 => Ex H2 H3 ∧ Sg K Mc He H3 is ((D, .lst ((((xs.take (i + 1)).filter f).map ef).map Dx.toX)) :: ms)) ht he (filter_snoc hx) (fun H3 h4 s3 => ⟨by
        obtain ⟨H4, e4, e5⟩ := h4
        rcases e5 with e5 | ⟨o, e5⟩
        · rw [e5]; exact p.1.trans e4
        · rw [e5]; exact Ex.mut (p.1.trans e4) hD, s3⟩)
      exact key
    · have z := p.2
      rw [List.take_length] at z
      exact q _ H' (e2.trans p.1) (z.frz).im.1
end
section
variable {K : PySem.W.Frag} {Mc M : List Addr} {He H : Hp} {is : Ims} {ms : Mus} {σ : L2.St} {te : TE} {g : TG} {tu tz : TS} {D : Ends}
variable {α : Type} [DecidableEq α] [Dx α]
/-- over a lent list -/
theorem zq_forB {xs : List α} {ii : Nat} {l : Addr} {ws : List V} (s : Sg K Mc He H is ms) (q : SqL K He l ws) (d : XpAll K (msk Mc He) ws (xs.map Dx.toX)) (h : σ[ii]? = some (some (.ref l))) (Pv : Nat → L2.St → Hp → Prop) (h0 : ∀ H1, Sg K Mc He H1 is ms → Pv 0 σ H1)
    (hl : ∀ i σ' H', Pv i σ' H' → ∃ is2 ms2, Sg K Mc He H' is2 ms2 ∧ muA ms2 = muA ms)
    (hs : ∀ i x w σ' H', xs[i]? = some x → Pv i σ' H' → Dt K (msk (muA ms ++ Mc) H') w x → g w σ' H' fun σ2 H2 => tu { D with nx := Pv (i + 1), ct := Pv (i + 1), bk := tz D } σ2 H2)
    (hd : ∀ σ' H', Pv xs.length σ' H' → tz D σ' H') : tSeq (tFor (iList K (tVar ii)) g tu) tz D σ H := by
  refine ⟨_, h, l, rfl, ⟨ws, ex_l s.all q⟩, for_listD (D := { D with nx := tz D }) (M := muA ms ++ Mc) Pv (h0 H s) (fun i σ' H' _ p => ?_) hs hd⟩
  obtain ⟨is2, ms2, s2, e⟩ := hl i σ' H' p
  refine ⟨ws, ex_l s2.all q, ?_⟩
  have := s2.entry
  rw [e] at this
  exact dpa_mono this d
/-- over a tuple of any length -/
theorem zq_forV {xs : Tup α} {tl : TE} (s : Sg K Mc He H is ms) (h : Hv K (muA ms ++ Mc) tl σ H xs) (Pv : V → Nat → L2.St → Hp → Prop) (h0 : ∀ v H1, Sg K Mc He H1 ((v, Dx.toX xs) :: is) ms → Pv v 0 σ H1)
    (hl : ∀ v i σ' H', Pv v i σ' H' → Dt K (msk (muA ms ++ Mc) H') v xs)
    (hs : ∀ v i x w σ' H', xs.items[i]? = some x → Pv v i σ' H' → Dt K (msk (muA ms ++ Mc) H') w x → g w σ' H' fun σ2 H2 => tu { D with nx := Pv v (i + 1), ct := Pv v (i + 1), bk := tz D } σ2 H2)
    (hd : ∀ v σ' H', Pv v xs.items.length σ' H' → tz D σ' H') : tSeq (tFor (iTup K tl) g tu) tz D σ H :=
  h H (Ex.refl H) s.mok _ fun v H1 e d => by
    obtain ⟨a, vs, rfl, s1, ds⟩ := d.tupv
    refine ⟨a, rfl, ⟨vs, ex_t msk_le s1⟩, fun i m σ' H' => m = xs.items.length - i ∧ i ≤ xs.items.length ∧ Pv (.ref a) i σ' H', ⟨xs.items.length, by simp, Nat.zero_le _, h0 _ H1 ((s.ex e).put d)⟩, ?_⟩
    rintro i m σ' H' ⟨rfl, hi, p⟩
    obtain ⟨a', us, e', q1, du⟩ := (hl _ i σ' H' p).tupv
    cases e'
    have q : SqT K H' a us := ex_t msk_le q1
    have el := du.len
    by_cases hlt : i < xs.items.length
    · refine .inr ⟨⟨us, us[i]'(by omega), q, by simp [show i < us.length by omega]⟩, Pv (.ref a) (i + 1), fun σ2 H2 p' => ⟨xs.items.length - (i + 1), by omega, rfl, hlt, p'⟩, fun x H2 y => ?_⟩
      obtain ⟨rfl, f2⟩ := y
      have gx : xs.items[i]? = some xs.items[i] := by simp [hlt]
      obtain ⟨w, w1, w2⟩ := du.at gx
      have : x = w := Option.some.inj ((f2 us q).symm.trans w1)
      subst this
      exact hs _ i _ x σ' _ gx p w2
    · have e : i = xs.items.length := by omega
      subst e
      exact .inl ⟨⟨us, q, by omega⟩, hd _ σ' H' p⟩
/-- what may be none, where it is known that it is not -/
theorem hv_unO {x : Option α} {y : α} (h : Hv K M te σ H x) (e : x = some y) : Hv K M te σ H y := by subst e; exact fun H1 e m Q q => h H1 e m Q fun v H2 e2 d => q v H2 e2 d
theorem hv_getO [SomeX α] {x : Option α} {d : α} (h : Hv K M te σ H x) (e : x.isNone = false) : Hv K M te σ H (Option.getD x d) := by
  cases x with
  | none => cases e
  | some y => exact hv_unO h rfl
end
end Ly

namespace Ly
open PySem PySem.Spec PyProof.Rows L2 Evl
open PySem.W (Datum DatumOrd Tup T3 T4)
/-! ### a list of own lists -/
theorem msk_congr {M N : List Addr} {H : Hp} (h : ∀ a, a ∈ M ↔ a ∈ N) : msk M H = msk N H := by
  funext a
  unfold msk
  by_cases q : a ∈ M
  · rw [if_pos q, if_pos ((h a).mp q)]
  · rw [if_neg q, if_neg fun z => q ((h a).mpr z)]
theorem mu_iff {K : PySem.W.Frag} {Hm H : Hp} : ∀ {ms : Mus}, Mu K Hm H ms ↔ ∀ e ∈ ms, ∃ o, H e.1 = some o ∧ MvOk K Hm o e.2
  | [] => ⟨fun _ e h => (nomatch h), fun _ => True.intro⟩
  | (l, m) :: r => by
    constructor
    · rintro ⟨h1, h2⟩ e he
      rcases List.mem_cons.mp he with rfl | he
      · exact h1
      · exact mu_iff.mp h2 e he
    · exact fun h => ⟨h (l, m) List.mem_cons_self, mu_iff.mpr fun e he => h e (List.mem_cons_of_mem _ he)⟩
section
variable {K : PySem.W.Frag} {Mc M : List Addr} {He H H1 H2 : Hp} {is js : Ims} {ms ms' : Mus} {σ : L2.St} {te ta tb tl : TE} {tt : TT} {g : TG} {tz : TS} {D : Ends}
variable {α β γ : Type} [DecidableEq α] [Dx α] [DecidableEq β] [Dx β]
theorem Sg.perm (s : Sg K Mc He H is ms) (p : ms.Perm ms') : Sg K Mc He H is ms' := by
  have pa : (muA ms).Perm (muA ms') := p.map _
  have e1 : ∀ N, msk (muA ms' ++ N) H = msk (muA ms ++ N) H := fun N => msk_congr fun a => by rw [List.mem_append, List.mem_append, pa.mem_iff]
  have e0 : msk (muA ms') H = msk (muA ms) H := msk_congr fun a => by rw [pa.mem_iff]
  exact ⟨by rw [e0]; exact s.ext, s.okc, pa.nodup_iff.mp s.nd, by rw [e1]; exact s.im, by rw [e1]; exact mu_iff.mpr fun e he => mu_iff.mp s.mu e (p.mem_iff.mpr he)⟩
/-- the inner lists -/
def nestM : List Addr → List (List α) → Mus
  | a :: as, d :: ds => (a, .lst (d.map Dx.toX)) :: nestM as ds
  | _, _ => []
/-- the outer list and the inner ones -/
def nestA (p : Addr) (as : List Addr) (ds : List (List α)) : Mus := (p, .lst (as.map Xd.ptr)) :: nestM as ds
theorem nestM_snoc {a : Addr} {d : List α} : ∀ {as : List Addr} {ds : List (List α)}, as.length = ds.length → nestM (as ++ [a]) (ds ++ [d]) = nestM as ds ++ [(a, .lst (d.map Dx.toX))]
  | [], [], _ => rfl
  | a :: as, d :: ds, h => by
    show (a, _) :: nestM (as ++ _) (ds ++ _) = (a, _) :: (nestM as ds ++ _)
    rw [nestM_snoc (by simpa using h)]
theorem nestM_get {d : List α} {a : Addr} : ∀ {as : List Addr} {ds : List (List α)} {k : Nat}, as[k]? = some a → ds[k]? = some d → (nestM as ds)[k]? = some (a, .lst (d.map Dx.toX))
  | [], _, _, h, _ => by simp at h
  | _ :: _, [], _, _, h => by simp at h
  | _ :: _, _ :: _, 0, h1, h2 => by
    simp at h1 h2
    subst h1 h2
    rfl
  | _ :: as, _ :: ds, k + 1, h1, h2 => by
    show (nestM as ds)[k]? = _
    exact nestM_get (by simpa using h1) (by simpa using h2)
theorem nestM_set {d : List α} {a : Addr} : ∀ {as : List Addr} {ds : List (List α)} {k : Nat}, as[k]? = some a → k < ds.length → (nestM as ds).set k (a, .lst (d.map Dx.toX)) = nestM as (ds.set k d)
  | [], _, _, h, _ => by simp at h
  | _ :: _, [], _, _, h => by simp at h
  | _ :: _, _ :: _, 0, h1, _ => by
    simp at h1
    subst h1
    rfl
  | x :: as, y :: ds, k + 1, h1, h2 => by
    show (x, _) :: (nestM as ds).set k _ = (x, _) :: nestM as (ds.set k d)
    rw [nestM_set (by simpa using h1) (by simpa using h2)]
theorem xp_ptr : ∀ {vs : List V} {as : List Addr}, vs = as.map V.ref → XpAll K H vs (as.map Xd.ptr)
  | _, [], rfl => .nil
  | _, a :: as, rfl => .cons (.ptr a) (xp_ptr rfl)
theorem ptr_xp : ∀ {vs : List V} {as : List Addr}, XpAll K H vs (as.map Xd.ptr) → vs = as.map V.ref
  | _, [], h => by cases h; rfl
  | _, a :: as, h => by
    cases h with
    | cons h1 h2 => cases h1; rw [ptr_xp h2]; rfl
theorem muA_nestM : ∀ {as : List Addr} {ds : List (List α)}, as.length = ds.length → muA (nestM as ds) = as
  | [], [], _ => rfl
  | a :: as, d :: ds, h => by
    show a :: muA (nestM as ds) = a :: as
    rw [muA_nestM (by simpa using h)]
theorem nest_eq {E1 E2 : Mus} {p : Addr} {as : List Addr} {d1 d2 : List (List α)} (h1 : as.length = d1.length) (h2 : as.length = d2.length) (hE : muA E1 = muA E2 := by rfl) : muA (E1 ++ nestA p as d1) = muA (E2 ++ nestA p as d2) := by
  have e : ∀ d : List (List α), as.length = d.length → muA (nestA p as d) = p :: as := fun d h => by
    show p :: muA (nestM as d) = _
    rw [muA_nestM h]
  unfold muA at *
  rw [List.map_append, List.map_append, hE, e d1 h1, e d2 h2]
/-- x = [[] for _ in range(e)] -/
theorem z_nestG {i jt : Nat} {vs : List Nat} {n : Int} (α : Type) [DecidableEq α] [Dx α] (s : Sg K Mc He H is ms) (h : Hv K (muA ms ++ Mc) ta σ H n) (hz : 0 ≤ n ∧ n ≤ 40000) (hg : ∀ x : V, wipe ((wipe σ vs).set jt (some x)) vs = wipe σ vs)
    (k : ∀ y : List (List α), y = List.map (fun _ => []) (irng 0 n.toNat) → ∀ as p H1, as.length = n.toNat → Sg K Mc He H1 is (ms ++ nestA p as y) → tz D (σ.set i (some (.ref p))) H1) : tSeq (tAsg (tLc (iRng1 (tCons ta tNil)) (gName jt) tYes (tLst tNil) vs) (gName i)) tz D σ H :=
  h H (Ex.refl H) s.mok _ fun v H2 e2 d => by
    refine ⟨n, by rw [d.int], by omega, by omega, fun P hP => ?_⟩
    have sA : Sg K Mc He H2 is ms := s.ex e2
    have sB : Sg K Mc He (upd H2 P (.lst [])) is (ms ++ nestA P [] ([] : List (List α))) := (sA.new (m := .lst []) hP ⟨[], rfl, .nil⟩).perm (List.perm_append_comm (l₁ := [_]))
    refine lc_range (lo := 0) (n := n.toNat) (fun i H' => ∃ as : List Addr, as.length = i ∧ Sg K Mc He H' is (ms ++ nestA P as (List.map (fun _ => ([] : List α)) (irng 0 i)))) ⟨[], rfl, sB⟩ (fun i H' hi p => ?_) (fun H' p => ?_)
    · obtain ⟨as, hl, sC⟩ := p
      refine ⟨?_, ?_⟩
      · exact hg _
      · refine ⟨Nat.zero_le _, fun a ha => ?_⟩
        have sD := sC.new (p := a) (m := .lst (([] : List α).map Dx.toX)) ha ⟨[], rfl, .nil⟩
        have gk : ((a, Mv.lst (([] : List α).map Dx.toX)) :: (ms ++ nestA P as (List.map (fun _ => ([] : List α)) (irng 0 i))))[1 + ms.length]? = some (P, .lst (as.map Xd.ptr)) := by
          rw [Nat.add_comm, List.getElem?_cons_succ, List.getElem?_append_right (Nat.le_refl _), Nat.sub_self]
          rfl
        obtain ⟨o, ho, acc, rfl, hx⟩ := sD.mu.get gk
        have ev := ptr_xp hx
        refine ⟨acc, ho, ?_, as ++ [a], by rw [List.length_append, hl]; rfl, ?_⟩
        · rw [ev, List.length_map, hl]
          have : i < 40000 := by omega
          exact sz_lt (by omega)
        · have sE := sD.set (k := 1 + ms.length) (m' := .lst ((as ++ [a]).map Xd.ptr)) (o := .lst (acc ++ [.ref a])) gk ⟨_, rfl, xp_ptr (by rw [ev, List.map_append]; rfl)⟩
          refine sE.perm ?_
          have e1 : ((a, Mv.lst (([] : List α).map Dx.toX)) :: (ms ++ nestA P as (List.map (fun _ => ([] : List α)) (irng 0 i)))).set (1 + ms.length) (P, .lst ((as ++ [a]).map Xd.ptr)) = (a, Mv.lst (([] : List α).map Dx.toX)) :: (ms ++ ((P, .lst ((as ++ [a]).map Xd.ptr)) :: nestM as (List.map (fun _ => ([] : List α)) (irng 0 i)))) := by
            rw [Nat.add_comm, List.set_cons_succ, List.set_append_right _ _ (Nat.le_refl _), Nat.sub_self]
            rfl
          rw [e1]
          have e2 : nestA P (as ++ [a]) (List.map (fun _ => ([] : List α)) (irng 0 (i + 1))) = (P, .lst ((as ++ [a]).map Xd.ptr)) :: (nestM as (List.map (fun _ => ([] : List α)) (irng 0 i)) ++ [(a, .lst (([] : List α).map Dx.toX))]) := by
            unfold nestA
            have : List.map (fun _ => ([] : List α)) (irng 0 (i + 1)) = List.map (fun _ => ([] : List α)) (irng 0 i) ++ [[]] := by
              unfold irng
              rw [List.range_succ, List.map_append, List.map_append]; rfl
            rw [this, nestM_snoc (by rw [List.length_map, irng_len]; exact hl)]
          rw [e2]
          refine (List.perm_append_comm (l₁ := [(a, Mv.lst (([] : List α).map Dx.toX))]) (l₂ := ms ++ ((P, .lst ((as ++ [a]).map Xd.ptr)) :: nestM as (List.map (fun _ => ([] : List α)) (irng 0 i))))).trans ?_
          rw [List.append_assoc]
          exact .refl _
    · obtain ⟨as, hl, sC⟩ := p
      exact k _ rfl as P H' hl sC
/-- the e-th of the inner lists, as a list that is read -/
theorem hs_ixN {p : Addr} {as : List Addr} {ds : List (List α)} {i k : Nat} {e : Int} (s : Sg K Mc He H is ms) (q : ms.drop k = nestA p as ds) (h : σ[i]? = some (some (.ref p))) (hb : Hv K (muA ms ++ Mc) tb σ H e) (h0 : 0 ≤ e) (hl : as.length = ds.length) (h1 : e < (ds.length : Int)) : HS K (muA ms ++ Mc) (tOp (rIxL K) (tVar i) tb) σ H (ds.getD e.toNat []) := fun H1 e1 m Q k' => by
  refine ⟨_, h, hb H1 e1 m _ fun u H2 e2 d' => ?_⟩
  have s2 := (s.ex e1).ex e2
  have g0 : ms[k]? = some (p, .lst (as.map Xd.ptr)) := by
    have : (ms.drop k)[0]? = some (p, .lst (as.map Xd.ptr)) := by rw [q]; rfl
    rw [List.getElem?_drop] at this
    exact this
  obtain ⟨o, ho, vs, rfl, hx⟩ := s2.mu.get g0
  have ev := ptr_xp hx
  have hlt : e.toNat < as.length := by omega
  have ga : as[e.toNat]? = some as[e.toNat] := List.getElem?_eq_getElem hlt
  have gd : ds[e.toNat]? = some (ds.getD e.toNat []) := by rw [List.getD_eq_getElem?_getD, List.getElem?_eq_getElem (by omega)]; rfl
  have g1 : ms[k + 1 + e.toNat]? = some (as[e.toNat], .lst ((ds.getD e.toNat []).map Dx.toX)) := by
    have : (ms.drop k)[1 + e.toNat]? = some (as[e.toNat], .lst ((ds.getD e.toNat []).map Dx.toX)) := by
      rw [q, Nat.add_comm]
      show (nestM as ds)[e.toNat]? = _
      exact nestM_get ga gd
    rw [List.getElem?_drop] at this
    rw [Nat.add_assoc]
    exact this
  obtain ⟨us, h3, h4⟩ := s2.lst g1
  refine ⟨p, vs, e, .ref as[e.toNat], rfl, d'.int, SqL.of ho, at_of (Int.toNat_of_nonneg h0).symm (by rw [ev, List.getElem?_map, ga]; rfl), ?_⟩
  exact k' _ us H2 e2 (SqL.of h3) h4
/-- x[e].append(y) -/
theorem zq_appNG {p : Addr} {as : List Addr} {ds : List (List α)} {i k : Nat} {e : Int} {x : α} (s : Sg K Mc He H is ms) (q : ms.drop k = nestA p as ds) (h : σ[i]? = some (some (.ref p))) (hb : Hv K (muA ms ++ Mc) tb σ H e) (hx : Hv K (muA ms ++ Mc) te σ H x) (h0 : 0 ≤ e) (hl : as.length = ds.length) (h1 : e < (ds.length : Int)) (hz : (ds.getD e.toNat []).length < 100000)
    (kk : ∀ y : List (List α), y = ds.set e.toNat (ds.getD e.toNat [] ++ [x]) → ∀ H1, Sg K Mc He H1 is (ms.take k ++ nestA p as y) → tz D σ H1) : tSeq (tDrop (tBM K "list" rAppend (tOp (rIxL K) (tVar i) tb) (tCons te tNil))) tz D σ H := by
  refine ⟨_, h, hb H (Ex.refl H) s.mok _ fun u H2 e2 d' => ?_⟩
  have s2 := s.ex e2
  have g0 : ms[k]? = some (p, .lst (as.map Xd.ptr)) := by
    have : (ms.drop k)[0]? = some (p, .lst (as.map Xd.ptr)) := by rw [q]; rfl
    rw [List.getElem?_drop] at this
    exact this
  obtain ⟨o, ho, vs, rfl, hx2⟩ := s2.mu.get g0
  have ev := ptr_xp hx2
  have hlt : e.toNat < as.length := by omega
  have ga : as[e.toNat]? = some as[e.toNat] := List.getElem?_eq_getElem hlt
  have gd : ds[e.toNat]? = some (ds.getD e.toNat []) := by rw [List.getD_eq_getElem?_getD, List.getElem?_eq_getElem (by omega)]; rfl
  have g1 : ms[k + (e.toNat + 1)]? = some (as[e.toNat], .lst ((ds.getD e.toNat []).map Dx.toX)) := by
    have : (ms.drop k)[e.toNat + 1]? = some (as[e.toNat], .lst ((ds.getD e.toNat []).map Dx.toX)) := by
      rw [q]
      show (nestM as ds)[e.toNat]? = _
      exact nestM_get ga gd
    rw [List.getElem?_drop] at this
    exact this
  obtain ⟨us, h3, h4⟩ := s2.lst g1
  refine ⟨p, vs, e, .ref as[e.toNat], rfl, d'.int, SqL.of ho, at_of (Int.toNat_of_nonneg h0).symm (by rw [ev, List.getElem?_map, ga]; rfl), ?_⟩
  refine Or.inl ⟨rfl, us, sq_of h3⟩ |> fun w => ⟨w, hx H2 e2 s2.mok _ fun v H3 e3 d => ?_⟩
  have s3 := s2.ex e3
  obtain ⟨us', h5, h6⟩ := s3.lst g1
  refine ⟨as[e.toNat], us', v, rfl, rfl, h5, sz_lt (by rw [h6.len]; exact hz), kk _ rfl _ ?_⟩
  have s4 := s3.set (m' := .lst ((ds.getD e.toNat [] ++ [x]).map Dx.toX)) (o := .lst (us' ++ [v])) g1 ⟨_, rfl, by rw [List.map_append]; exact dpa_app h6 (.cons d .nil)⟩
  have em : ms = ms.take k ++ nestA p as ds := by rw [← q, List.take_append_drop]
  have hk : k ≤ ms.length := by
    have := (List.getElem?_eq_some_iff.mp g0).1
    omega
  have e5 : ms.set (k + (e.toNat + 1)) (as[e.toNat], .lst ((ds.getD e.toNat [] ++ [x]).map Dx.toX)) = ms.take k ++ nestA p as (ds.set e.toNat (ds.getD e.toNat [] ++ [x])) := by
    have hlk : (ms.take k).length = k := by rw [List.length_take]; omega
    conv => lhs; rw [em]
    rw [List.set_append_right _ _ (by rw [hlk]; omega), hlk, show k + (e.toNat + 1) - k = e.toNat + 1 by omega]
    congr 1
    unfold nestA
    rw [List.set_cons_succ, nestM_set ga (by omega)]
  rw [e5] at s4
  exact s4
/-- list(e), e a mixed list -/
theorem hfx_listOf {x : α} {ds : List Xd} (h : Hv K M te σ H x) (e : Dx.toX x = .list ds) : HFx K M (tCB (fun xs H Q => ∃ p ys, xs = [.ref p] ∧ (SqL K H p ys ∨ SqT K H p ys) ∧ ∀ l, H l = none → Q (.ref l) (upd H l (.lst ys))) (tCons te tNil)) σ H ds := fun H1 e1 m Q q =>
  h H1 e1 m _ fun v H2 e2 d => by
    have d' : Xp K (msk M H2) v (.list ds) := by rw [← e]; exact d
    cases d' with
    | lst s a => exact ⟨_, _, rfl, Or.inl (ex_l msk_le s), fun p hp => q p _ _ (fresh_back e2 hp) (e2.trans (Ex.new hp)) upd_same (dpa_mono (msk_new hp) a)⟩
end
end Ly

namespace Ly
open PySem PySem.Spec PyProof.Rows L2 Evl
open PySem.W (Datum DatumOrd Tup T3 T4)
/-! ### dicts with tuples as keys -/
structure Dk (κ β : Type) where
  kvs : List (κ × β)
instance {κ β : Type} [DecidableEq κ] [DecidableEq β] : DecidableEq (Dk κ β) := fun a b =>
  if h : a.kvs = b.kvs then isTrue (by cases a; cases b; cases h; rfl) else isFalse fun z => h (by rw [z])
class KyT (κ : Type) [DecidableEq κ] where
  toK : κ → List Key
  inj : ∀ {a b : κ}, toK a = toK b → a = b
instance : KyT (Int × Int) := ⟨fun p => [.inl p.1, .inl p.2], fun {a b} e => by
  simp only [List.cons.injEq, Sum.inl.injEq, and_true] at e
  exact Prod.ext e.1 e.2⟩
instance : KyT (T3 Int Int Int) := ⟨fun p => [.inl p.a, .inl p.b, .inl p.c], fun {a b} e => by
  simp only [List.cons.injEq, Sum.inl.injEq, and_true] at e
  cases a; cases b
  simp only at e
  rw [e.1, e.2.1, e.2.2]⟩
section
variable {κ β : Type} [DecidableEq κ] [KyT κ] [DecidableEq β] [Dx β]
def Dk.get (d : Dk κ β) (k : κ) : Option β := (d.kvs.find? fun p => decide (p.1 = k)).map (·.2)
def Dk.put (d : Dk κ β) (k : κ) (x : β) : Dk κ β :=
  ⟨if (d.kvs.any fun p => decide (p.1 = k)) = true then d.kvs.map (fun p => if p.1 = k then (p.1, x) else p) else d.kvs ++ [(k, x)]⟩
def Dk.has (d : Dk κ β) (k : κ) : Bool := d.kvs.any fun p => decide (p.1 = k)
instance : Dx (Dk κ β) := ⟨fun d => .dictT (d.kvs.map fun p => KyT.toK p.1) (d.kvs.map fun p => Dx.toX p.2)⟩
def Dk.m (d : Dk κ β) : Mv := .dicT (d.kvs.map fun p => (KyT.toK p.1, Dx.toX p.2))
inductive Kt (K : PySem.W.Frag) (H : Hp) : List (List Key × V) → List (κ × β) → Prop
  | nil : Kt K H [] []
  | cons {k : κ} {v : V} {x : β} {kvs : List (List Key × V)} {r : List (κ × β)} : Dt K H v x → Kt K H kvs r → Kt K H ((KyT.toK k, v) :: kvs) ((k, x) :: r)
variable {K : PySem.W.Frag} {H H' : Hp}
theorem kt_of : ∀ {kvs : List (List Key × V)} {r : List (κ × β)}, kvs.map (·.1) = r.map (fun p => KyT.toK p.1) → XpAll K H (kvs.map (·.2)) (r.map fun p => Dx.toX p.2) → Kt K H kvs r
  | [], [], _, _ => .nil
  | [], _ :: _, h, _ => by cases h
  | _ :: _, [], h, _ => by cases h
  | (k, v) :: kvs, (j, x) :: r, h, a => by
    have h' := List.cons.inj h
    cases a with
    | cons a1 a2 =>
      have e : k = KyT.toK j := h'.1
      subst e
      exact .cons a1 (kt_of h'.2 a2)
theorem Kt.keys {kvs : List (List Key × V)} {r : List (κ × β)} (h : Kt K H kvs r) : kvs.map (·.1) = r.map (fun p => KyT.toK p.1) := by
  induction h with
  | nil => rfl
  | cons a b ih => rw [List.map_cons, List.map_cons, ih]
theorem Kt.vals {kvs : List (List Key × V)} {r : List (κ × β)} (h : Kt K H kvs r) : XpAll K H (kvs.map (·.2)) (r.map fun p => Dx.toX p.2) := by
  induction h with
  | nil => exact .nil
  | cons a b ih => exact .cons a ih
theorem Kt.mono {kvs : List (List Key × V)} {r : List (κ × β)} (e : Ex H H') (h : Kt K H kvs r) : Kt K H' kvs r := by
  induction h with
  | nil => exact .nil
  | cons a b ih => exact .cons (a.mono e) ih
theorem Kt.any {kvs : List (List Key × V)} {r : List (κ × β)} (h : Kt K H kvs r) (k : κ) : (kvs.any fun p => decide (p.1 = KyT.toK k)) = r.any fun p => decide (p.1 = k) := by
  induction h with
  | nil => rfl
  | @cons j v x kvs r a b ih =>
    rw [List.any_cons, List.any_cons, ih]
    congr 1
    by_cases q : j = k
    · subst q; simp
    · rw [decide_eq_false q, decide_eq_false fun z => q (KyT.inj z)]
theorem Kt.get {kvs : List (List Key × V)} {r : List (κ × β)} (h : Kt K H kvs r) (k : κ) : (∃ v x, valV kvs (KyT.toK k) = some v ∧ Dk.get ⟨r⟩ k = some x ∧ Dt K H v x) ∨ (valV kvs (KyT.toK k) = none ∧ Dk.get (⟨r⟩ : Dk κ β) k = none) := by
  induction h with
  | nil => exact Or.inr ⟨rfl, rfl⟩
  | @cons j v x kvs r a b ih =>
    by_cases q : j = k
    · subst q
      exact Or.inl ⟨v, x, valV_pos rfl, by simp [Dk.get], a⟩
    · rw [valV_neg (fun z => q (KyT.inj z))]
      have e : Dk.get (⟨(j, x) :: r⟩ : Dk κ β) k = Dk.get ⟨r⟩ k := by simp [Dk.get, q]
      rw [e]
      exact ih
theorem Kt.app {kvs : List (List Key × V)} {r : List (κ × β)} {v : V} {x : β} {k : κ} (h : Kt K H kvs r) (d : Dt K H v x) : Kt K H (kvs ++ [(KyT.toK k, v)]) (r ++ [(k, x)]) := by
  induction h with
  | nil => exact .cons d .nil
  | cons a b ih => exact .cons a ih
theorem Kt.rep {kvs : List (List Key × V)} {r : List (κ × β)} {v : V} {x : β} {k : κ} (h : Kt K H kvs r) (d : Dt K H v x) : Kt K H (kvs.map fun p => if p.1 = KyT.toK k then (p.1, v) else p) (r.map fun p => if p.1 = k then (p.1, x) else p) := by
  induction h with
  | nil => exact .nil
  | @cons j w y kvs r a b ih =>
    rw [List.map_cons, List.map_cons]
    by_cases q : j = k
    · subst q
      rw [if_pos rfl, if_pos rfl]
      exact .cons d ih
    · rw [if_neg (fun z => q (KyT.inj z)), if_neg q]
      exact .cons a ih
theorem Kt.put {kvs : List (List Key × V)} {d : Dk κ β} {v : V} {x : β} {k : κ} (h : Kt K H kvs d.kvs) (dv : Dt K H v x) : Kt K H (putK kvs (KyT.toK k) v) (d.put k x).kvs := by
  unfold putK Dk.put
  rw [h.any k]
  by_cases q : (d.kvs.any fun p => decide (p.1 = k)) = true
  · rw [if_pos q]; dsimp only; rw [if_pos q]; exact h.rep dv
  · rw [if_neg q]; dsimp only; rw [if_neg q]; exact h.app dv
theorem Kt.len {kvs : List (List Key × V)} {r : List (κ × β)} (h : Kt K H kvs r) : kvs.length = r.length := by
  have := congrArg List.length h.keys
  simpa using this
theorem dk_put_len {d : Dk κ β} (k : κ) (x : β) : (d.put k x).kvs.length ≤ d.kvs.length + 1 := by
  unfold Dk.put
  dsimp only
  split
  · rw [List.length_map]; omega
  · rw [List.length_append]; exact Nat.le_refl _
theorem find_mapT {k j : κ} {x : β} : ∀ (l : List (κ × β)), (List.find? (fun p => decide (p.1 = j)) (l.map fun p => if p.1 = k then (p.1, x) else p)).map (·.2) = if j = k then (if (l.any fun p => decide (p.1 = k)) = true then some x else none) else (List.find? (fun p => decide (p.1 = j)) l).map (·.2)
  | [] => by simp
  | p :: l => by
    rw [List.map_cons]
    by_cases h1 : p.1 = k
    · rw [if_pos h1]
      by_cases h2 : j = k
      · subst h2
        rw [List.find?_cons_of_pos (by simpa using h1)]
        simp [h1]
      · rw [if_neg h2, List.find?_cons_of_neg (by simp; intro z; exact h2 (z.symm.trans h1)), List.find?_cons_of_neg (by simp; intro z; exact h2 (z.symm.trans h1)), find_mapT l, if_neg h2]
    · rw [if_neg h1]
      by_cases h2 : j = k
      · subst h2
        rw [List.find?_cons_of_neg (by simpa using h1), find_mapT l, if_pos rfl, if_pos rfl, List.any_cons, decide_eq_false h1, Bool.false_or]
      · rw [if_neg h2]
        by_cases h3 : p.1 = j
        · rw [List.find?_cons_of_pos (by simpa using h3), List.find?_cons_of_pos (by simpa using h3)]
        · rw [List.find?_cons_of_neg (by simpa using h3), List.find?_cons_of_neg (by simpa using h3), find_mapT l, if_neg h2]
theorem dk_get_put (d : Dk κ β) (k : κ) (x : β) (j : κ) : (d.put k x).get j = if j = k then some x else d.get j := by
  unfold Dk.put Dk.get
  dsimp only
  by_cases q : (d.kvs.any fun p => decide (p.1 = k)) = true
  · rw [if_pos q, find_mapT, q]
    rfl
  · rw [if_neg q, List.find?_append]
    by_cases h : j = k
    · subst h
      have : List.find? (fun p => decide (p.1 = j)) d.kvs = none := List.find?_eq_none.mpr fun p hp z => q (List.any_eq_true.mpr ⟨p, hp, z⟩)
      rw [this, if_pos rfl]
      simp
    · rw [if_neg h]
      have : List.find? (fun p : κ × β => decide (p.1 = j)) [(k, x)] = none := List.find?_eq_none.mpr fun p hp z => by
        obtain rfl := List.mem_singleton.mp hp
        exact h (by simpa using (of_decide_eq_true z).symm)
      rw [this, Option.or_none]
end
section
variable {κ β : Type} [DecidableEq κ] [KyT κ] [DecidableEq β] [Dx β]
variable {K : PySem.W.Frag} {Mc M : List Addr} {He H H1 H2 : Hp} {is js : Ims} {ms : Mus} {σ : L2.St} {te ta tb tc td tk tz : TE} {tr : TA} {D : Ends} {tq : TS}
theorem Sg.dicT (s : Sg K Mc He H is ms) {j : Nat} {l : Addr} {d : Dk κ β} (e : ms[j]? = some (l, d.m)) : ∃ kvs, H l = some (.dT kvs) ∧ Kt K (msk (muA ms ++ Mc) H) kvs d.kvs := by
  obtain ⟨o, h1, h2⟩ := s.mu.get e
  obtain ⟨kvs, rfl, h3, h4⟩ := h2
  refine ⟨kvs, h1, kt_of ?_ ?_⟩
  · rw [h3, List.map_map]; rfl
  · rw [List.map_map] at h4; exact h4
theorem dicT_ok {kvs : List (List Key × V)} {d : Dk κ β} (h : Kt K H kvs d.kvs) : MvOk K H (.dT kvs) d.m := by
  refine ⟨kvs, rfl, ?_, ?_⟩
  · rw [h.keys, List.map_map]; rfl
  · rw [List.map_map]; exact h.vals
/-- x = {}, its keys tuples -/
theorem z_dnilT (κ β : Type) [DecidableEq κ] [KyT κ] [DecidableEq β] [Dx β] {i : Nat} (s : Sg K Mc He H is ms) (k : ∀ y, y = (⟨[]⟩ : Dk κ β) → ∀ p H1, Sg K Mc He H1 is ((p, y.m) :: ms) → tq D (σ.set i (some (.ref p))) H1) :
    tSeq (tAsg tDNewT (gName i)) tq D σ H := fun p hp => k ⟨[]⟩ rfl p _ (s.new hp (dicT_ok .nil))
/-- the items of a written key -/
def HK (M : List Addr) (ta : TA) (σ : L2.St) (H : Hp) (x : κ) : Prop := HA M ta σ H (fun vs _ => vs = (KyT.toK x).map kV)
theorem hk_3 {i j l : Int} (ha : Hv K M ta σ H i) (hb : Hv K M tb σ H j) (hc : Hv K M tc σ H l) : HK M (tCons ta (tCons tb (tCons tc tNil))) σ H (T3.mk i j l) := fun H1 e m Q q =>
  ha H1 e m _ fun v H2 e2 d => hb H2 (e.trans e2) (m.ex e2) _ fun u H3 e3 d' => hc H3 ((e.trans e2).trans e3) ((m.ex e2).ex e3) _ fun w H4 e4 d'' => q [v, u, w] H4 ((e2.trans e3).trans e4) (by rw [d.int, d'.int, d''.int]; rfl)
theorem hk_2 {i j : Int} (ha : Hv K M ta σ H i) (hb : Hv K M tb σ H j) : HK M (tCons ta (tCons tb tNil)) σ H (i, j) := fun H1 e m Q q =>
  ha H1 e m _ fun v H2 e2 d => hb H2 (e.trans e2) (m.ex e2) _ fun u H3 e3 d' => q [v, u] H3 (e2.trans e3) (by rw [d.int, d'.int]; rfl)
theorem Dt.dicT {v : V} {d : Dk κ β} (h : Dt K H v d) : ∃ a kvs, v = .ref a ∧ Rd H a (.dT kvs) ∧ Kt K H kvs d.kvs := by
  have h' : Xp K H v (.dictT (d.kvs.map fun p => KyT.toK p.1) (d.kvs.map fun p => Dx.toX p.2)) := h
  cases h' with
  | dicT r k e a => subst e; exact ⟨_, _, rfl, r, kt_of k a⟩
theorem Dt.ofDicT {a : Addr} {kvs : List (List Key × V)} {d : Dk κ β} (r : Rd H a (.dT kvs)) (h : Kt K H kvs d.kvs) : Dt K H (.ref a) d := Xp.dicT r h.keys rfl h.vals
/-- d[k], the key written -/
theorem hv_dgetT {d : Dk κ β} {x : κ} {y : β} (hd : Hv K M td σ H d) (hk : HK M tr σ H x) (hl : (KyT.toK x).length ≤ 100000) (hg : d.get x = some y) : Hv K M (tDGet td (tTup tr)) σ H y := fun H1 e m Q q =>
  hd H1 e m _ fun v H2 e2 dv => hk H2 (e.trans e2) (m.ex e2) _ fun vs H3 e3 dvs => ⟨sz_of (by rw [dvs, List.length_map]; exact hl), fun p hp => by
    have e4 : Ex H3 (upd H3 p (.tup vs)) := Ex.new hp
    obtain ⟨a, kvs, rfl, r, h2⟩ := (Dt.mono (msk_ex (e3.trans e4)) dv).dicT
    rcases h2.get x with ⟨w, z, g1, g2, g3⟩ | ⟨_, g2⟩
    · rw [hg] at g2
      cases g2
      exact ⟨a, w, rfl, .inr ⟨kvs, KyT.toK x, p, rd_msk r, rfl, by rw [upd_same, dvs], g1.symm⟩, q w _ ((e2.trans e3).trans e4) g3⟩
    · rw [hg] at g2; cases g2⟩
/-- d[k] = e, the key written -/
theorem z_dputTG {j : Nat} {l : Addr} {d : Dk κ β} {x : κ} {y : β} (s : Sg K Mc He H is ms) (e : ms[j]? = some (l, d.m)) (hv : Hv K (muA ms ++ Mc) te σ H y) (ho : Ev td σ H (.ref l)) (hk : HK (muA ms ++ Mc) tr σ H x) (hl : (KyT.toK x).length ≤ 100000) (hz : d.kvs.length ≤ 100000)
    (k : ∀ d', d' = d.put x y → ∀ H1, Sg K Mc He H1 is (ms.set j (l, d'.m)) → tq D σ H1) : tSeq (sDPut td (tTup tr) te) tq D σ H :=
  hv H (Ex.refl H) s.mok _ fun v H1 e1 dv => ho H1 e1 _ fun H2 e2 => hk H2 (e1.trans e2) (s.mok.ex (e1.trans e2)) _ fun vs H3 e3 dvs => ⟨sz_of (by rw [dvs, List.length_map]; exact hl), fun p hp => by
    have e4 : Ex H3 (upd H3 p (.tup vs)) := Ex.new hp
    have s3 := (((s.ex e1).ex e2).ex e3).ex e4
    obtain ⟨kvs, h1, h2⟩ := s3.dicT e
    have hl2 : kvs.length < sizeLine := by
      have hs : sizeLine = 16777216 := sizeLine_eq
      rw [h2.len]; omega
    refine ⟨l, _, rfl, DPut.t h1 (k := KyT.toK x) (by rw [upd_same, dvs]) hl2, k _ rfl _ (s3.set e (dicT_ok ?_))⟩
    exact h2.put (Dt.mono (msk_ex ((e2.trans e3).trans e4)) dv)⟩
theorem Sg.frzT {l : Addr} {d : Dk κ β} (s : Sg K Mc He H is ((l, d.m) :: ms)) : Sg K Mc He H ((.ref l, Dx.toX d) :: is) ms := by
  have sub : Ex (msk (muA ((l, d.m) :: ms) ++ Mc) H) (msk (muA ms ++ Mc) H) := msk_sub fun a ha => List.mem_cons_of_mem _ ha
  have nd := List.nodup_cons.mp s.nd
  obtain ⟨kvs, h1, h2⟩ := s.dicT (j := 0) (l := l) (d := d) rfl
  have nl : l ∉ muA ms ++ Mc := fun z => by
    rcases List.mem_append.mp z with z | z
    · exact nd.1 z
    · exact s.notc (List.mem_cons_self) z
  refine ⟨?_, s.okc, nd.2, ⟨Dt.ofDicT (.inl (by rw [msk_out nl]; exact h1)) (h2.mono sub), s.im.mono sub⟩, s.mu.2.mono sub (Ex.refl H)⟩
  exact s.ext.trans (msk_sub fun a ha => List.mem_cons_of_mem _ ha)
/-- t[-1] -/
theorem hv_lastV {α : Type} [DecidableEq α] [Dx α] {xs : Tup α} (dft : α) (ha : Hv K M ta σ H xs) (h : 0 < xs.items.length) : Hv K M (tOp (rIxT K) ta (tUn (rU fun i => .int (-i)) (tC (.int 1)))) σ H (xs.items.getD (xs.items.length - 1) dft) := fun H1 e m Q q =>
  ha H1 e m _ fun v H2 e2 d => by
    obtain ⟨a, vs, rfl, s, ds⟩ := d.tupv
    have hx : xs.items[xs.items.length - 1]? = some (xs.items.getD (xs.items.length - 1) dft) := by
      have := getD_at (xs := xs.items) (i := ((xs.items.length - 1 : Nat) : Int)) (d := dft) (by omega) (by omega)
      simpa using this
    obtain ⟨w, h1, h2⟩ := ds.at hx
    have hl := ds.len
    refine ⟨1, rfl, a, vs, -1, w, rfl, rfl, ex_t msk_le s, ?_, q w H2 e2 h2⟩
    unfold atI ixN
    rw [if_neg (by decide), if_pos (by omega)]
    show vs[_]? = some w
    rw [← h1]
    congr 1
    omega
end
end Ly

namespace Ly
open PySem PySem.Spec PyProof.Rows L2 Evl
open PySem.W (Datum DatumOrd Tup T3 T4)
/-! ### max(a list, default=d) -/
section
variable {prog : Program} {w : World} {A : Around} {E : Value → Shared → Prop} {s : Shared}
theorem args_maxD (a d : Value) : argsOk "max" ⟨[a], [(Str.ofString "default", d)]⟩ := by unfold argsOk; kernel_rfl
theorem bind_maxD (d : Value) : Builtin.Builtins.bindParams "max" ["key", "default"] 0 ⟨[], [(Str.ofString "default", d)]⟩ = pure [none, some d] := by first | rfl | kernel_rfl
theorem name_max : (toString "max" ++ toString ".loop" : String) = "max.loop" := by decide
abbrev mxOk (Q : Value → Shared → Prop) (E : Value → Shared → Prop) : Result → Shared → Prop := fun r s' => match r with | .ok (.ret v) => Q v s' | .ok _ => False | .error e => E e s'
theorem call_tree_kw {id : String} {b : Builtin} {args : List Value} {kw : List (Str × Value)} {Q : Value → Shared → Prop} (hk : builtinKind id = none) (hp : plainId id = true) (hb : entryFor table id = some b) (ha : argsOk id ⟨args, kw⟩)
    (hc : wpAny (model prog w) A.in1 (b ⟨args, kw⟩) (fun fin s' => match fin with
      | .done f => mxOk Q E (Except.ok f) s'
      | .again c' => c'.quiet = true ∧ codeAny (model prog w) A c' (mxOk Q E) s') E s) : wpAny (model prog w) A (call (.builtin id) args kw) Q E s := by
  refine wpAny_call (codeAny_call_builtin hp hb ?_)
  simp only [checkBuiltinCall, hk]
  cases hs : Manifest.signature? id with
  | none => exact wpAny_pure hc
  | some sg =>
    have h2 : Bind.checkArgs id sg ⟨args, kw⟩ = pure () := by simpa only [argsOk, hs] using ha
    show wpAny _ A.in1 (Bind.checkArgs id sg ⟨args, kw⟩) _ _ s
    rw [h2]
    exact wpAny_pure hc
end
section
variable {prog : Program} {w : World} {A : Around} {R : Result → Shared → Prop} {I S : Addr} {fp wr : List Addr} {n : Nat} {P : Nat → Value → Prop} {St : Nat → Heap → Prop} {bt : Nat → Nat → Bool} {kw : List (Str × Value)}
abbrev two (vb : Value) (c : Nat) : Obj := { cls := .type "list", dict := none, data := .seq #[vb, vb] c, slots := #[] }
/-- what max's loop ends with -/
def MxEnd (bt : Nat → Nat → Bool) (S : Addr) (wr : List Addr) (n : Nat) (P : Nat → Value → Prop) (R : Result → Shared → Prop) (s : Shared) : Prop :=
  ∀ v h' tk, P (argBest bt (n - 1)) v → (∀ b o, b ∉ wr → b ≠ S → s.heap.get? b = some o → h'.get? b = some o) → R (.ok (.ret v)) { s with heap := h', toks := tk }
theorem mx_loop (W : Walks prog w A.in1 I fp wr n P St) (hcmp : CmpOf prog w A.in1 .Gt P bt) (hf : S ∉ fp) : ∀ (k j : Nat) (s : Shared) (vb : Value) (c : Nat), j + 1 + k = n → St (j + 1) s.heap → P (argBest bt j) vb →
    s.heap.get? S = some (two vb c) → MxEnd bt S wr n P R s → codeAny (model prog w) A (.builtin "max.loop" ⟨[.ref I, .none, .ref S], kw⟩) R s
  | 0, j, s, vb, c, hn, st, hP, hS, hR => by
    refine codeAny_builtin F.entry_max_loop ?_
    rw [Around.under_plainId F.plain_max_loop _]
    show wpAny _ A.in1 (seqItems? (.ref S) >>= _) _ _ s
    refine wpAny_bind (wpAny_seqItems hS rfl ?_)
    show wpAny _ A.in1 (tryCatch (pyNext (.ref I)) _ >>= _) _ _ s
    have en : j + 1 = n := hn
    refine wpAny_bind (wpAny_tryCatch (W.done s _ _ (en ▸ st) fun h' tk hk => ?_))
    have hS' := hk S _ (fun z => hf (W.sub _ z)) hS
    show wpAny _ A.in1 (updateSeq S (fun _ => #[]) >>= _) _ _ _
    refine wpAny_bind ?_
    refine wpAny_updateSeq hS' rfl (wpAny_bind (wpAny_letGo (wpAny_pure ?_)))
    exact hR vb _ tk (by rw [← en]; exact hP) fun b o h1 h2 e => (Heap.get?_update_other _ _ (Ne.symm h2)).trans (hk b o h1 e)
  | k + 1, j, s, vb, c, hn, st, hP, hS, hR => by
    refine codeAny_builtin F.entry_max_loop ?_
    rw [Around.under_plainId F.plain_max_loop _]
    show wpAny _ A.in1 (seqItems? (.ref S) >>= _) _ _ s
    refine wpAny_bind (wpAny_seqItems hS rfl ?_)
    show wpAny _ A.in1 (tryCatch (pyNext (.ref I)) _ >>= _) _ _ s
    refine wpAny_bind (wpAny_tryCatch (W.item (j + 1) s _ _ (by omega) st fun v h' tk hv st' hk => ?_))
    have hS' := hk S _ (fun z => hf (W.sub _ z)) hS
    show wpAny _ A.in1 (tryCatch (holding [v, v] (richCompare .Gt v vb >>= _)) _ >>= _) _ _ _
    refine wpAny_bind (wpAny_tryCatch (wpAny_holding (wpAny_bind (hcmp (j + 1) (argBest bt j) v vb _ _ _ hv hP ?_))))
    refine wpAny_bind (wpAny_holding (wpAny_truthy_bool ?_))
    refine wpAny_bind (wpAny_letGo (wpAny_pure ?_))
    have eb : argBest bt (j + 1) = if bt (j + 1) (argBest bt j) = true then j + 1 else argBest bt j := rfl
    cases q : bt (j + 1) (argBest bt j) with
    | true =>
      rw [q, if_pos rfl] at eb
      simp only [if_true]
      refine wpAny_bind (wpAny_updateSeq hS' rfl (wpAny_bind (wpAny_letGo ?_)))
      rw [name_max]
      refine wpAny_pure ⟨plainId_quiet F.plain_max_loop _, mx_loop W hcmp hf k (j + 1) _ v _ (by omega) (W.frame _ _ _ st' fun b hb o e => ?_) (by rw [eb]; exact hv) (Heap.get?_update_self _ hS' rfl) fun v2 h2 tk2 hv2 hk2 => ?_⟩
      · exact (Heap.get?_update_other _ _ fun z : S = b => hf (z ▸ hb)).trans e
      · exact hR v2 h2 tk2 hv2 fun b o h3 h4 e => hk2 b o h3 h4 ((Heap.get?_update_other _ _ (Ne.symm h4)).trans (hk b o h3 e))
    | false =>
      rw [q, if_neg Bool.false_ne_true] at eb
      simp only [Bool.false_eq_true, if_false]
      refine wpAny_bind (wpAny_letGo ?_)
      rw [name_max]
      exact wpAny_pure ⟨plainId_quiet F.plain_max_loop _, mx_loop W hcmp hf k (j + 1) _ vb c (by omega) st' (by rw [eb]; exact hP) hS' fun v2 h2 tk2 hv2 hk2 => hR v2 h2 tk2 hv2 fun b o h3 h4 e => hk2 b o h3 h4 (hk b o h3 e)⟩
abbrev none0 (c : Nat) : Obj := { cls := .type "list", dict := none, data := .seq #[] c, slots := #[] }
theorem mx_first (W : Walks prog w A.in1 I fp wr n P St) (hcmp : CmpOf prog w A.in1 .Gt P bt) (hf : S ∉ fp) (hn : 0 < n) {s : Shared} {c : Nat} (st : St 0 s.heap) (hS : s.heap.get? S = some (none0 c)) (hR : MxEnd bt S wr n P R s) :
    codeAny (model prog w) A (.builtin "max.loop" ⟨[.ref I, .none, .ref S], kw⟩) R s := by
  refine codeAny_builtin F.entry_max_loop ?_
  rw [Around.under_plainId F.plain_max_loop _]
  show wpAny _ A.in1 (seqItems? (.ref S) >>= _) _ _ s
  refine wpAny_bind (wpAny_seqItems hS rfl ?_)
  show wpAny _ A.in1 (tryCatch (pyNext (.ref I)) _ >>= _) _ _ s
  refine wpAny_bind (wpAny_tryCatch (W.item 0 s _ _ hn st fun v h' tk hv st' hk => ?_))
  have hS' := hk S _ (fun z => hf (W.sub _ z)) hS
  show wpAny _ A.in1 (updateSeq S (fun _ => #[v, v]) >>= _) _ _ _
  refine wpAny_bind (wpAny_updateSeq hS' rfl ?_)
  rw [name_max]
  refine wpAny_pure ⟨plainId_quiet F.plain_max_loop _, mx_loop W hcmp hf (n - 1) 0 _ v _ (by omega) (W.frame _ _ _ st' fun b hb o e => ?_) hv (Heap.get?_update_self _ hS' rfl) fun v2 h2 tk2 hv2 hk2 => ?_⟩
  · exact (Heap.get?_update_other _ _ fun z : S = b => hf (z ▸ hb)).trans e
  · exact hR v2 h2 tk2 hv2 fun b o h3 h4 e => hk2 b o h3 h4 ((Heap.get?_update_other _ _ (Ne.symm h4)).trans (hk b o h3 e))
theorem mx_none (W : Walks prog w A.in1 I fp wr 0 P St) {s : Shared} {c : Nat} {d : Value} {x : Str} (st : St 0 s.heap) (hS : s.heap.get? S = some (none0 c)) (hR : ∀ h' tk, (∀ b o, b ∉ wr → s.heap.get? b = some o → h'.get? b = some o) → R (.ok (.ret d)) { s with heap := h', toks := tk }) :
    codeAny (model prog w) A (.builtin "max.loop" ⟨[.ref I, .none, .ref S], [(x, d)]⟩) R s := by
  refine codeAny_builtin F.entry_max_loop ?_
  rw [Around.under_plainId F.plain_max_loop _]
  show wpAny _ A.in1 (seqItems? (.ref S) >>= _) _ _ s
  refine wpAny_bind (wpAny_seqItems hS rfl ?_)
  show wpAny _ A.in1 (tryCatch (pyNext (.ref I)) _ >>= _) _ _ s
  refine wpAny_bind (wpAny_tryCatch (W.done s _ _ st fun h' tk hk => ?_))
  show wpAny _ A.in1 (rule _ >>= _) _ _ _
  exact wpAny_bind (wpAny_rule (wpAny_pure (hR h' tk hk)))
end
section
variable {prog : Program} {w : World} {A : Around} {E : Value → Shared → Prop} {s : Shared}
theorem call_maxD {l : Addr} {its : List Value} {ns : List Int} {d : Value} {Q : Value → Shared → Prop} (hh : A.handled = none) (hl : s.heap.IsList l its.toArray) (hi : IntsAre its ns)
    (h0 : ns = [] → ∀ h' tk, (∀ b o, s.heap.get? b = some o → h'.get? b = some o) → Q d { s with heap := h', toks := tk })
    (h1 : ∀ h' tk M t', (∀ b o, s.heap.get? b = some o → h'.get? b = some o) → M ∈ ns → (∀ a, a ∈ ns → a ≤ M) → Q (.int M t') { s with heap := h', toks := tk }) :
    wpAny (model prog w) A (call (.builtin "max") [.ref l] [(Str.ofString "default", d)]) Q E s := by
  obtain ⟨xs, e⟩ := hi.allInts.items
  have hns : ns = xs.toList.map (·.1) := by rw [← hi.numsOf, ← nums_intItems, ← e]
  rw [e] at hl
  refine call_tree_kw F.kind_max F.plain_max F.entry_max (args_maxD _ _) ?_
  show wpAny _ A.in1 (Builtin.Builtins.bindParams "max" ["key", "default"] 0 ⟨[], [(Str.ofString "default", d)]⟩ >>= _) _ _ s
  refine wpAny_bind (wpAny_of_eq (bind_maxD d) ?_)
  refine wpAny_bind (wpAny_pure ?_)
  refine wpAny_bind (iter_intList hl fun s₂ e2 st hfp hlI => ?_)
  subst e2
  refine wpAny_bind (wpAny_newObj_type ?_)
  have W := Walks.list (prog := prog) (w := w) (A := A.in1) hh s.heap.objs.size l hlI (intItems xs)
  generalize hs2 : (s.heap.push { cls := .type "list_iterator", data := .fields #[.ref l, .int 0 0] } : Heap) = h2 at st hfp ⊢
  have hSf : h2.objs.size ∉ [s.heap.objs.size, l] := fun hm => Nat.lt_irrefl _ (hfp _ hm)
  rw [name_max]
  have old : ∀ {h' : Heap} {o2 : Obj}, (∀ b o, b ∉ [s.heap.objs.size] → b ≠ h2.objs.size → (h2.push o2).get? b = some o → h'.get? b = some o) → ∀ b o, s.heap.get? b = some o → h'.get? b = some o := fun {h' o2} hk b o eb => by
    have e3 : h2.get? b = some o := by rw [← hs2]; exact Heap.get?_push_of_some _ eb
    exact hk b o (fun hm => Nat.ne_of_lt (Heap.lt_size eb) (List.mem_singleton.mp hm)) (Nat.ne_of_lt (Heap.lt_size e3)) (Heap.get?_push_of_some _ e3)
  by_cases z : 0 < xs.size
  · refine wpAny_pure ⟨plainId_quiet F.plain_max_loop _, mx_first W (CmpOf.ints_gt (numAt xs) (fun _ _ => intItems_at)) hSf (by simpa [intItems] using z) (W.frame _ _ _ st fun b _ o e => Heap.get?_push_of_some _ e) (Heap.get?_push_size _ rfl) fun v h' tk hv hk => ?_⟩
    show Q v _
    have hv' : (intItems xs)[argBest (fun i j => decide (numAt xs i > numAt xs j)) (xs.size - 1)]? = some v := by simpa [intItems] using hv
    obtain ⟨t, rfl⟩ := intItems_at hv'
    obtain ⟨g1, g2⟩ := argBest_gt (numAt xs) (xs.size - 1)
    refine h1 h' tk _ t (old hk) ?_ fun a ha => ?_
    · rw [hns, numAt_eq]; exact PySem.getD_mem (by rw [List.length_map, Array.length_toList]; omega)
    · rw [hns] at ha
      obtain ⟨j, hj, rfl⟩ := mem_getD ha
      rw [List.length_map, Array.length_toList] at hj
      rw [← numAt_eq]; exact g2 j (by omega)
  · have ez : xs = #[] := by
      have : xs.size = 0 := by omega
      exact Array.eq_empty_of_size_eq_zero this
    subst ez
    have W0 : Walks prog w A.in1 s.heap.objs.size [s.heap.objs.size, l] [s.heap.objs.size] 0 (fun i v => (intItems #[])[i]? = some v) (fun i h => h.IsListIter s.heap.objs.size l i ∧ h.IsList l (intItems #[])) := by
      have h9 := W
      rw [show (intItems (#[] : Array (Int × Tok))).size = 0 by simp [intItems]] at h9
      exact h9
    refine wpAny_pure ⟨plainId_quiet F.plain_max_loop _, mx_none W0 (W0.frame _ _ _ st fun b _ o e => Heap.get?_push_of_some _ e) (Heap.get?_push_size _ rfl) fun h' tk hk => ?_⟩
    show Q d _
    exact h0 (by rw [hns]; rfl) h' tk (old fun b o h2 _ e3 => hk b o h2 e3)
end
section
variable {X : Cx}
/-- max(xs, default=d) -/
def rMaxD (K : PySem.W.Frag) : List V → List V → Hp → VK → Prop := fun vs zs H Q => ∃ (a : Addr) (ns : List Int) (d : Int), vs = [V.ref a] ∧ zs = [.int d] ∧ SqL K H a (ns.map V.int) ∧ (ns = [] → Q (.int d) H) ∧ ∀ m, m ∈ ns → (∀ y, y ∈ ns → y ≤ m) → Q (.int m) H
theorem cr_maxD (hc : X.calm = true) : CallRK X (.builtin "max") [Str.ofString "default"] (rMaxD X.K) := by
  intro pins s σ H vs zs us ws Q I r rz h
  obtain ⟨a, ns, d, rfl, rfl, hs, q0, q1⟩ := h
  obtain ⟨its, rv, hl, _⟩ := I.list hs
  obtain rfl := Vals.ref1 r
  obtain ⟨w1, rfl, e1⟩ := vals1 rz
  obtain ⟨t, rfl⟩ := e1
  exact call_maxD (I.ok.hd hc) hl.isList rv.ints (fun z h' tk hk => ⟨.int _, H, I.kept hk, ⟨_, rfl⟩, q0 z⟩) fun h' tk m t' hk g1 g2 => ⟨.int _, H, I.kept hk, ⟨_, rfl⟩, q1 m g1 g2⟩
end
section
variable {K : PySem.W.Frag} {M : List Addr} {H : Hp} {σ : L2.St} {te ta : TE}
/-- the greatest of a list, or what stands for none -/
def maxD (l : List Int) (d : Int) : Int := match l with
  | [] => d
  | x :: xs => xs.foldl max x
theorem hv_maxD {ns : List Int} {d : Int} (h : HS K M te σ H ns) (hd : Hv K M ta σ H d) : Hv K M (tCKw (rMaxD K) (tCons te tNil) (tCons ta tNil)) σ H (maxD ns d) := fun H1 e m Q q =>
  h H1 e m _ fun a vs H2 e2 s ds => hd H2 (e.trans e2) (m.ex e2) _ fun v H3 e3 dv => by
    have ev := Dt.int dv
    subst ev
    refine ⟨a, ns, d, rfl, rfl, ?_, fun z => ?_, fun x hx hy => ?_⟩
    · rw [← ints_of ds]; exact ex_l e3 s
    · rw [z] at q
      exact q _ H3 (e2.trans e3) (Dt.ofInt _)
    · have ex : maxD ns d = maxL ns := by
        cases ns with
        | nil => cases hx
        | cons y ys => rfl
      rw [ex] at q
      rw [maxL_eq hx hy]
      exact q _ H3 (e2.trans e3) (Dt.ofInt _)
end
end Ly
namespace Ly
open PySem PySem.Spec PyProof.Rows L2 Evl
open PySem.W (Datum DatumOrd Tup T3 T4)
/-! ### what is drawn: texts and page numbers -/
inductive Drw where
  | text (x y n : Int) (g : List Int)
  | page (x y n f : Int) (s : Str)
  deriving DecidableEq
def Drw.x : Drw → List Xd
  | .text x y n g => [.str (Str.ofString "text"), .int x, .int y, .int n, .tuple (g.map .int)]
  | .page x y n f s => [.str (Str.ofString "page"), .int x, .int y, .int n, .int f, .str s]
def Drw.d : Drw → List PyData
  | .text x y n g => [.str (Str.ofString "text"), .int x, .int y, .int n, .tuple (g.map .int)]
  | .page x y n f s => [.str (Str.ofString "page"), .int x, .int y, .int n, .int f, .str s]
instance : Dx Drw := ⟨fun i => .tuple i.x⟩
instance : SomeX Drw := ⟨fun _ e => by cases e⟩
theorem tp_ne : decide (Str.ofString "text" = Str.ofString "page") = false := by decide +kernel
theorem pt_ne : decide (Str.ofString "page" = Str.ofString "text") = false := by decide +kernel
theorem Drw.eqv (a b : Drw) : PyData.eqvAll a.d b.d = decide (a = b) := by
  cases a <;> cases b <;> simp only [Drw.d, PyData.eqvAll, eqvI, eqvS, eqvG, tp_ne, pt_ne, Bool.false_and] <;> simp [Bool.and_assoc]
instance : Datum Drw where
  toD i := .tuple i.d
  plain i := by
    have hg : ∀ g : List Int, PyData.plain (.tuple (g.map .int)) = true := fun g => Datum.plain (α := Tup Int) ⟨g⟩
    cases i <;> simp only [Drw.d, PyData.plain, PyData.plainAll, Bool.and_self, Bool.and_true, Bool.true_and]
    rename_i x y n g
    have := hg g
    simpa only [PyData.plain] using this
  eqv a b := by simp only [PyData.eqv]; exact Drw.eqv a b
  depth := 2
  depth_le i := by
    have hg : ∀ g : List Int, PyData.depth (.tuple (g.map .int)) ≤ 1 := fun g => Datum.depth_le (α := Tup Int) ⟨g⟩
    cases i <;> simp only [Drw.d, PyData.depth, PyData.depthAll] <;> try (first | decide | omega)
    rename_i x y n g
    have := hg g
    simp only [PyData.depth] at this
    omega
instance : DxD Drw := ⟨fun {K H v i} h => by
  cases h with
  | tup s a =>
    refine .tup s ?_
    cases i with
    | text x y n g =>
      cases a with | cons a1 a => cases a with | cons a2 a => cases a with | cons a3 a => cases a with | cons a4 a => cases a with | cons a5 a =>
      cases a
      cases a1; cases a2; cases a3; cases a4
      cases a5 with | tup s2 b => exact .cons (.str _) (.cons (.int _) (.cons (.int _) (.cons (.int _) (.cons (.tup s2 (ints_link b)) .nil))))
    | page x y n f s =>
      cases a with | cons a1 a => cases a with | cons a2 a => cases a with | cons a3 a => cases a with | cons a4 a => cases a with | cons a5 a => cases a with | cons a6 a =>
      cases a
      cases a1; cases a2; cases a3; cases a4; cases a5; cases a6
      exact .cons (.str _) (.cons (.int _) (.cons (.int _) (.cons (.int _) (.cons (.int _) (.cons (.str _) .nil)))))⟩
/-! ### an item with another thing at its third place -/
def Itm.put2 : Itm → Int → Itm
  | .box w _ g, n => .box w n g
  | .hyp w _ c, n => .hyp w n c
  | .page w _ f s, n => .page w n f s
  | i, _ => i
section
variable {K : PySem.W.Frag} {M : List Addr} {H : Hp} {σ : L2.St} {te ta : TE} {i : Itm}
noncomputable local instance : DecidableEq Xd := fun a b => Classical.propDecidable (a = b)
noncomputable local instance : Dx Xd := ⟨id⟩
theorem hv_raw (h : Hv K M te σ H i) : Hv K M te σ H (Tup.mk i.x : Tup Xd) := fun H1 e m Q q => h H1 e m Q fun v H2 e2 d => q v H2 e2 (by
  show Xp _ _ _ (.tuple (i.x.map id))
  rw [List.map_id]
  exact d)
theorem hv_unraw {ds : List Xd} (h : Hv K M te σ H (Tup.mk ds : Tup Xd)) (e : i.x = ds) : Hv K M te σ H i := fun H1 e1 m Q q => h H1 e1 m Q fun v H2 e2 d => q v H2 e2 (by
  have d' : Xp K (msk M H2) v (.tuple (ds.map id)) := d
  rw [List.map_id] at d'
  show Xp _ _ _ (.tuple i.x)
  rw [e]
  exact d')
theorem hv_asX {n : Int} (h : Hv K M ta σ H n) : Hv K M ta σ H (Dx.toX n : Xd) := fun H1 e m Q q => h H1 e m Q q
theorem hv_put2 {n : Int} (h : Hv K M te σ H i) (hn : Hv K M ta σ H n) (s : i.tag = 0 ∨ i.tag = 3 ∨ i.tag = 7) : Hv K M (tOp (rCatA K) (tOp (rCatA K) (tSl (rSlA K) te tNoPart (tPart (tC (.int 2)))) (tTup (tCons ta tNil))) (tSl (rSlA K) te (tPart (tC (.int 3))) tNoPart)) σ H (i.put2 n) :=
  hv_unraw (hv_catT (hv_catT (hv_sliceV (hv_raw h) ho_none (ho_some (K := K) (hv_int 2))) (hv_tupv (has_cons (hv_asX hn) has_nil) (Nat.le_of_ble_eq_true rfl)) (by cases i <;> first | (exfalso; simp [Itm.tag] at s; done) | exact Nat.le_of_ble_eq_true rfl))
    (hv_sliceV (hv_raw h) (ho_some (K := K) (hv_int 3)) ho_none) (by cases i <;> first | (exfalso; simp [Itm.tag] at s; done) | exact Nat.le_of_ble_eq_true rfl)) (by cases i <;> first | (exfalso; simp [Itm.tag] at s; done) | rfl)
end
end Ly
namespace Ly
open PySem PySem.Spec PyProof.Rows L2 Evl
open PySem.W (Datum DatumOrd Tup T3 T4)
/-! ### for x, y in zip(a tuple, a list) -/
section
variable {K : PySem.W.Frag} {Mc M : List Addr} {He H : Hp} {is : Ims} {ms : Mus} {σ : L2.St} {tl tl2 te ta : TE} {tu tz : TS} {g : TG} {D : Ends} {α β : Type} [DecidableEq α] [Dx α] [DecidableEq β] [Dx β]
theorem zq_forZM {xs : Tup α} {ys : List β} (s : Sg K Mc He H is ms) (h : Hv K (muA ms ++ Mc) tl σ H xs) (h' : Hv K (muA ms ++ Mc) tl2 σ H ys) (hn : ys.length = xs.items.length) (Pv : V → V → Nat → L2.St → Hp → Prop)
    (h0 : ∀ v u H1, Sg K Mc He H1 ((u, Dx.toX ys) :: (v, Dx.toX xs) :: is) ms → Pv v u 0 σ H1)
    (hl : ∀ v u i σ' H', Pv v u i σ' H' → Dt K (msk (muA ms ++ Mc) H') v xs ∧ Dt K (msk (muA ms ++ Mc) H') u ys ∧ MOk (muA ms ++ Mc) H')
    (hs : ∀ v u i x w σ' H' H'', (zipL xs.items ys)[i]? = some x → Pv v u i σ' H' → Ex H' H'' → Dt K (msk (muA ms ++ Mc) H'') w x → g w σ' H'' fun σ2 H2 => tu { D with nx := Pv v u (i + 1), ct := Pv v u (i + 1), bk := tz D } σ2 H2)
    (hd : ∀ v u σ' H', Pv v u (zipL xs.items ys).length σ' H' → tz D σ' H') : tSeq (tFor (iZipM K (tCons tl (tCons tl2 tNil))) g tu) tz D σ H :=
  h H (Ex.refl H) s.mok _ fun v H1 e d => h' H1 e (s.mok.ex e) _ fun u H2 e2 d' => by
    have lz : (zipL xs.items ys).length = xs.items.length := by rw [zipL_len]; omega
    obtain ⟨a, vs, rfl, s1, ds⟩ := (Dt.mono (msk_ex e2) d).tupv
    obtain ⟨b, ws, rfl, s2, ds2⟩ := d'.list
    refine ⟨a, b, vs, ws, rfl, ex_t msk_le s1, ex_l msk_le s2, fun i m σ' H' => m = xs.items.length - i ∧ i ≤ xs.items.length ∧ Pv (.ref a) (.ref b) i σ' H', ⟨xs.items.length, by simp, Nat.zero_le _, h0 _ _ H2 (((s.ex (e.trans e2)).put (Dt.mono (msk_ex e2) d)).put d')⟩, ?_⟩
    rintro i m σ' H' ⟨rfl, hi, p⟩
    obtain ⟨dd, dd', mk⟩ := hl _ _ i σ' H' p
    obtain ⟨a', us, e', q1, du⟩ := dd.tupv
    cases e'
    obtain ⟨b', us', e', q1', du'⟩ := dd'.list
    cases e'
    have q : SqT K H' a us := ex_t msk_le q1
    have q' : SqL K H' b us' := ex_l msk_le q1'
    have el := du.len
    have el' := du'.len
    by_cases hlt : i < xs.items.length
    · refine .inr ⟨⟨us, us', us[i]'(by omega), us'[i]'(by omega), ⟨q, by simp [show i < us.length by omega]⟩, q', by simp [show i < us'.length by omega]⟩, Pv (.ref a) (.ref b) (i + 1), fun σ2 H2 p' => ⟨xs.items.length - (i + 1), by omega, rfl, hlt, p'⟩, fun x H3 y => ?_⟩
      obtain ⟨T, x1, x2, ⟨rfl, nT, rfl⟩, f1, f2⟩ := y
      have gx : xs.items[i]? = some xs.items[i] := by simp [hlt]
      have gy : ys[i]? = some (ys[i]'(by omega)) := by simp [show i < ys.length by omega]
      have eT : Ex H' (upd H' T (.tup [x1, x2])) := Ex.new nT
      have nTD : T ∉ muA ms ++ Mc := fun z => (mk T z) nT
      have dm : Dt K (msk (muA ms ++ Mc) (upd H' T (.tup [x1, x2]))) x1 xs.items[i] := by
        obtain ⟨w, w1, w2⟩ := (Dts.mono (msk_ex eT) du).at gx
        have : x1 = w := Option.some.inj ((f1 us q).symm.trans w1)
        subst this; exact w2
      have dm2 : Dt K (msk (muA ms ++ Mc) (upd H' T (.tup [x1, x2]))) x2 (ys[i]'(by omega)) := by
        obtain ⟨w, w1, w2⟩ := (Dts.mono (msk_ex eT) du').at gy
        have : x2 = w := Option.some.inj ((f2 us' q').symm.trans w1)
        subst this; exact w2
      exact hs _ _ i _ (.ref T) σ' H' _ (zipL_get gx gy) p eT (Dt.ofPair (SqT.of (by rw [msk_out nTD]; exact upd_same)) dm dm2)
    · have e : i = xs.items.length := by omega
      subst e
      exact .inl ⟨⟨us, us', q, q', by omega, by omega, .inl (by omega)⟩, hd _ _ σ' H' (by rw [lz]; exact p)⟩
end
end Ly

namespace Ly
open PySem PySem.Spec PyProof.Rows L2 Evl
open PySem.W (Datum DatumOrd Tup T3 T4)
/-! ### dicts with tuples of any length as keys; d.get(k, x) -/
theorem inl_map : ∀ {xs ys : List Int}, (xs.map Sum.inl : List Key) = ys.map Sum.inl → xs = ys
  | [], [], _ => rfl
  | [], _ :: _, h => by cases h
  | _ :: _, [], h => by cases h
  | x :: xs, y :: ys, h => by
    have h' := List.cons.inj h
    have hx : x = y := Sum.inl.inj h'.1
    rw [hx, inl_map h'.2]
instance : KyT (Tup Int) := ⟨fun t => t.items.map Sum.inl, fun {a b} e => by
  have := inl_map e
  cases a; cases b
  exact congrArg Tup.mk this⟩
section
variable {κ β : Type} [DecidableEq κ] [KyT κ] [DecidableEq β] [Dx β]
variable {K : PySem.W.Frag} {M : List Addr} {H : Hp} {σ : L2.St} {td ty ta tb : TE} {tr : TA}
/-- a written key of one place, of two, as tuples of any length -/
theorem hk_v1 {i : Int} (ha : Hv K M ta σ H i) : HK M (tCons ta tNil) σ H (Tup.mk [i]) := fun H1 e m Q q =>
  ha H1 e m _ fun v H2 e2 d => q [v] H2 e2 (by rw [d.int]; rfl)
theorem hk_v2 {i j : Int} (ha : Hv K M ta σ H i) (hb : Hv K M tb σ H j) : HK M (tCons ta (tCons tb tNil)) σ H (Tup.mk [i, j]) := fun H1 e m Q q =>
  ha H1 e m _ fun v H2 e2 d => hb H2 (e.trans e2) (m.ex e2) _ fun u H3 e3 d' => q [v, u] H3 (e2.trans e3) (by rw [d.int, d'.int]; rfl)
theorem hv_dget2T {d : Dk κ β} {x : κ} {y : β} (hd : Hv K M td σ H d) (hk : HK M tr σ H x) (hl : (KyT.toK x).length ≤ 100000) (hy : Hv K M ty σ H y) : Hv K M (tDGet2 td (tTup tr) ty) σ H ((d.get x).getD y) := fun H1 e m Q q =>
  hd H1 e m _ fun v H2 e2 dv => by
    obtain ⟨a, kvs, rfl, r, h2⟩ := dv.dicT
    refine ⟨a, rfl, ?_, hk H2 (e.trans e2) (m.ex e2) _ fun vs H3 e3 dvs => ⟨sz_of (by rw [dvs, List.length_map]; exact hl), fun p hp => ?_⟩⟩
    · exact .inr ⟨kvs, rd_msk r⟩
    · have e4 : Ex H3 (upd H3 p (.tup vs)) := Ex.new hp
      refine hy _ ((e.trans e2).trans (e3.trans e4)) ((m.ex e2).ex (e3.trans e4)) _ fun z H5 e5 dz => ?_
      have e9 : Ex H2 H5 := (e3.trans e4).trans e5
      have rb : Rd H5 a (.dT kvs) := ex_rd e9 (rd_msk r)
      have hb : H5 p = some (.tup ((KyT.toK x).map kV)) := e5 _ _ (by rw [upd_same, dvs])
      rcases (h2.mono (msk_ex e9)).get x with ⟨w, z', g1, g2, g3⟩ | ⟨g1, g2⟩
      · refine ⟨some w, .inr ⟨kvs, KyT.toK x, p, rb, rfl, hb, g1.symm⟩, ?_⟩
        rw [show d.get x = some z' from g2] at q
        exact q w H5 (e2.trans e9) g3
      · refine ⟨none, .inr ⟨kvs, KyT.toK x, p, rb, rfl, hb, g1.symm⟩, ?_⟩
        rw [show d.get x = none from g2] at q
        exact q z H5 (e2.trans e9) dz
end
end Ly

namespace Ly
open PySem PySem.Spec PyProof.Rows L2 Evl
open PySem.W (Datum DatumOrd Tup T3 T4)
/-! ### own objects that methods change -/
/-- how the value of an own object stands in the ledger -/
abbrev Rep (α : Type) := α → Addr → Mus → Prop
theorem msk_msk {M N : List Addr} {H : Hp} : msk M (msk N H) = msk (N ++ M) H := by
  funext a
  by_cases q : a ∈ M
  · rw [msk_in q, msk_in (List.mem_append_right _ q)]
  · rw [msk_out q]
    by_cases z : a ∈ N
    · rw [msk_in z, msk_in (List.mem_append_left _ z)]
    · rw [msk_out z, msk_out (by simp [q, z])]
theorem mem3 {a : Addr} {X A C : List Addr} : a ∈ A ++ X ++ C ↔ a ∈ X ++ (A ++ C) := by
  simp only [List.mem_append]
  constructor
  · rintro ((h | h) | h)
    · exact .inr (.inl h)
    · exact .inl h
    · exact .inr (.inr h)
  · rintro (h | h | h)
    · exact .inl (.inr h)
    · exact .inl (.inl h)
    · exact .inr h
theorem muA_app {a b : Mus} : muA (a ++ b) = muA a ++ muA b := List.map_append
section
variable {K : PySem.W.Frag} {Mc M : List Addr} {He H H1 H2 : Hp} {is js : Ims} {ms ms0 om om' : Mus} {σ : L2.St} {te ta tb tl td tk : TE} {tt : TT} {g : TG} {tu tq : TS} {tr : TA} {D : Ends}
variable {α β γ κ : Type} [DecidableEq α] [Dx α] [DecidableEq β] [Dx β]
/-- what stands there stays readable -/
def Own (K : PySem.W.Frag) (M : List Addr) (H : Hp) (om : Mus) : Prop := ∀ H1, Ex H H1 → ∀ e ∈ om, ∃ o, H1 e.1 = some o ∧ MvOk K (msk M H1) o e.2
theorem Own.sg (s : Sg K Mc He H is ms) {n : Nat} (q : ms.drop n = om) : Own K (muA ms ++ Mc) H om := fun H1 e1 e he =>
  mu_iff.mp (s.ex e1).mu e (List.mem_of_mem_drop (q ▸ he))
theorem Own.lent (s : Sg K Mc He H is ms) (w : Mu K (msk Mc He) He om) : Own K (muA ms ++ Mc) H om := fun H1 e1 e he => by
  obtain ⟨o, h1, h2⟩ := mu_iff.mp w e he
  exact ⟨o, (s.all.trans e1) _ _ h1, h2.mono (s.entry.trans (msk_ex e1))⟩
/-- the promise of a method that reads its object -/
def PrQ (K : PySem.W.Frag) (R : Rep α) (self : γ → α) (args : γ → List Xd) (pre : γ → Prop) (F : γ → β) : Sp := fun vs H Q _ =>
  ∃ (Mc : List Addr) (p : Addr) (om : Mus) (ws : List V) (c : γ), vs = .ref p :: ws ∧ MOk Mc H ∧ (∀ a ∈ muA om, a ∈ Mc) ∧ R (self c) p om ∧ Mu K (msk Mc H) H om ∧ XpAll K (msk Mc H) ws (args c) ∧ pre c ∧
  ∀ w H', Ex H H' → Dt K (msk Mc H') w (F c) → Q w H'
/-- the promise of a method that changes its object -/
def PrO (K : PySem.W.Frag) (R : Rep α) (self : γ → α) (args : γ → List Xd) (pre : γ → Prop) (F : γ → β) (G : γ → α) : Sp := fun vs H Q _ =>
  ∃ (Mc : List Addr) (p : Addr) (om : Mus) (ws : List V) (c : γ), vs = .ref p :: ws ∧ MOk Mc H ∧ (∀ a ∈ muA om, a ∉ Mc) ∧ (muA om).Nodup ∧ R (self c) p om ∧ Mu K (msk (muA om ++ Mc) H) H om ∧ XpAll K (msk (muA om ++ Mc) H) ws (args c) ∧ pre c ∧
  ∀ w H' om', R (G c) p om' → Sg K Mc (msk (muA om) H) H' [(w, Dx.toX (F c))] om' → Q w H'
/-- the promise of an __init__ whose object stays own -/
def PrIO (K : PySem.W.Frag) (cn : Str) (R : Rep α) (args : γ → List Xd) (pre : γ → Prop) (G : γ → α) : Sp := fun vs H Q _ =>
  ∃ (Mc : List Addr) (p C dx : Addr) (ws : List V) (c : γ), vs = .ref p :: ws ∧ MOk (p :: Mc) H ∧ p ∉ Mc ∧ PySem.W.nsIn K mainGlobals cn = some (some (.ref C)) ∧ H p = some (.ins C dx []) ∧ XpAll K (msk (p :: Mc) H) ws (args c) ∧ pre c ∧
  ∀ H' om', R (G c) p om' → Sg K Mc (msk [p] H) H' [] om' → Q .non H'
theorem Sg.enterO (m : MOk Mc H) (dj : ∀ a ∈ muA om, a ∉ Mc) (nd : (muA om).Nodup) (w : Mu K (msk (muA om ++ Mc) H) H om) (im : Im K (msk (muA om ++ Mc) H) is) : Sg K Mc (msk (muA om) H) H is om :=
  ⟨Ex.refl _, fun l hl => by rw [msk_out (fun z => dj l z hl)]; exact m l hl, nd, im, w⟩
theorem Im.app : ∀ {is js : Ims}, Im K H is → Im K H js → Im K H (is ++ js)
  | [], _, _, h => h
  | (_, _) :: _, _, h, h2 => ⟨h.1, Im.app h.2 h2⟩
/-- what a def left behind of what was given to it, put back beside the rest -/
theorem Sg.join {B : List Addr} (ext : Ex He (msk (B ++ muA ms0) H)) (okc : MOk Mc He) (nd : (muA ms0).Nodup) (dj : ∀ a ∈ muA ms0, a ∉ B) (im : Im K (msk (B ++ (muA ms0 ++ Mc)) H) is) (mu : Mu K (msk (B ++ (muA ms0 ++ Mc)) H) H ms0)
    (s' : Sg K (muA ms0 ++ Mc) (msk B H) H' js om') : Sg K Mc He H' (js ++ is) (ms0 ++ om') := by
  have key : Ex (msk (B ++ (muA ms0 ++ Mc)) H) (msk (muA om' ++ (muA ms0 ++ Mc)) H') := by
    have := s'.entry
    rwa [msk_msk] at this
  have cg : msk (muA om' ++ (muA ms0 ++ Mc)) H' = msk (muA (ms0 ++ om') ++ Mc) H' := msk_congr fun a => by
    rw [muA_app]; exact mem3.symm
  have dj2 : ∀ a ∈ muA ms0, a ∉ muA om' := fun a ha z => by
    have h1 := s'.new_of z
    rw [msk_out (dj a ha)] at h1
    obtain ⟨e, he, rfl⟩ := List.mem_map.mp ha
    obtain ⟨o, ho, _⟩ := mu_iff.mp mu e he
    rw [ho] at h1
    cases h1
  refine ⟨fun a o h => ?_, okc, ?_, ?_, ?_⟩
  · have h1 := ext a o h
    by_cases q : a ∈ B ++ muA ms0
    · rw [msk_in q] at h1; cases h1
    · rw [msk_out q] at h1
      have q' : a ∉ B ∧ a ∉ muA ms0 := by simpa using q
      have h2 := s'.ext a o (by rw [msk_out q'.1]; exact h1)
      by_cases z : a ∈ muA om'
      · rw [msk_in z] at h2; cases h2
      · rw [msk_out z] at h2
        rw [msk_out (by rw [muA_app]; simp [q'.2, z])]
        exact h2
  · rw [muA_app]
    exact List.nodup_append.mpr ⟨nd, s'.nd, fun a ha b hb e => dj2 a ha (e ▸ hb)⟩
  · rw [← cg]; exact Im.app s'.im (im.mono key)
  · rw [← cg]
    refine mu_iff.mpr fun e he => ?_
    rcases List.mem_append.mp he with h | h
    · obtain ⟨o, h1, h2⟩ := mu_iff.mp mu e h
      refine ⟨o, s'.all _ _ ?_, h2.mono key⟩
      rw [msk_out (dj _ (List.mem_map.mpr ⟨e, h, rfl⟩))]
      exact h1
    · exact mu_iff.mp s'.mu e h
theorem Sg.after {H' : Hp} (s : Sg K Mc He H is ms) {n : Nat} (q : ms.drop n = om) (s' : Sg K (muA (ms.take n) ++ Mc) (msk (muA om) H) H' js om') : Sg K Mc He H' (js ++ is) (ms.take n ++ om') := by
  have em : ms = ms.take n ++ om := by rw [← q, List.take_append_drop]
  have ea : muA ms = muA (ms.take n) ++ muA om := by rw [← muA_app, ← em]
  have nd := s.nd
  rw [ea] at nd
  have nd' := List.nodup_append.mp nd
  have cg : msk (muA ms ++ Mc) H = msk (muA om ++ (muA (ms.take n) ++ Mc)) H := msk_congr fun a => by
    rw [ea]; exact mem3
  refine Sg.join (B := muA om) ?_ s.okc nd'.1 (fun a ha z => nd'.2.2 a ha a z rfl) ?_ ?_ s'
  · have := s.ext
    rw [ea] at this
    rwa [msk_congr (M := muA om ++ muA (ms.take n)) (N := muA (ms.take n) ++ muA om) fun a => by simp only [List.mem_append]; exact Or.comm]
  · rw [← cg]; exact s.im
  · rw [← cg]; exact mu_iff.mpr fun e he => mu_iff.mp s.mu e (List.mem_of_mem_take he)
/-- forgetting what stands in the ledger -/
theorem Sg.sub (s : Sg K Mc He H is (ms0 ++ ms)) : Sg K Mc He H is ms := by
  have sub : ∀ {N : List Addr}, Ex (msk (muA (ms0 ++ ms) ++ N) H) (msk (muA ms ++ N) H) := fun {N} => msk_sub fun a ha => by
    rw [muA_app]
    rcases List.mem_append.mp ha with h | h <;> simp [h]
  have nd := s.nd
  rw [muA_app] at nd
  refine ⟨?_, s.okc, (List.nodup_append.mp nd).2.1, s.im.mono sub, ?_⟩
  · have := s.ext.trans (by simpa using sub (N := []))
    exact this
  · exact mu_iff.mpr fun e he => by
      obtain ⟨o, h1, h2⟩ := mu_iff.mp s.mu e (List.mem_append_right _ he)
      exact ⟨o, h1, h2.mono sub⟩
end
section
variable {K : PySem.W.Frag} {Mc M : List Addr} {He H H1 H2 : Hp} {is js : Ims} {ms ms0 om om' : Mus} {σ : L2.St} {te ta tb tl td tk : TE} {tt : TT} {g : TG} {tu tq : TS} {tr : TA} {D : Ends}
variable {ω β γ κ : Type} [DecidableEq β] [Dx β]
/-- the object itself -/
def RI (R : Rep ω) (C : Addr) (ns : List Str) : Prop := ∀ o p om, R o p om → ∃ dx nds, (p, Mv.ins C dx nds) ∈ om ∧ nds.map (·.1) = ns
/-- a field that holds data -/
def RF (R : Rep ω) (C : Addr) (f : Str) (gf : ω → β) : Prop := ∀ o p om, R o p om → ∃ dx nds, (p, Mv.ins C dx nds) ∈ om ∧ (nds.map (·.1)).Nodup ∧ (f, Dx.toX (gf o)) ∈ nds
theorem fld_at {C dx p : Addr} {nds : List (Str × Xd)} {f cn : Str} {d : Xd} (w : Own K M H om) (t : Ct K cn C) (na : NoAttr K C f) (ho : Ev ta σ H (.ref p)) (h1 : (p, Mv.ins C dx nds) ∈ om) (h2 : (nds.map (·.1)).Nodup) (h3 : (f, d) ∈ nds) :
    ∀ H1, Ex H H1 → ∀ Q : VK, (∀ v H2, Ex H1 H2 → Xp K (msk M H2) v d → Q v H2) → tFld K ta f σ H1 Q := fun H1 e1 Q q =>
  ho H1 e1 _ fun H2 e2 => by
    obtain ⟨u, hu, fs, rfl, h4, h5⟩ := w H2 (e1.trans e2) _ h1
    obtain ⟨i, hi⟩ := List.getElem?_of_mem h3
    obtain ⟨v, hv, hx⟩ := lookup_at (i := i) (f := f) (d := d) (by rw [h4]; exact h2) h5 (by rw [h4, List.getElem?_map, hi]; rfl) (by rw [List.getElem?_map, hi]; rfl)
    exact ⟨p, C, dx, fs, v, rfl, hu, t.cl, na, hv, q v H2 e2 hx⟩
theorem hv_fldO {R : Rep ω} {C p : Addr} {f cn : Str} {gf : ω → β} {o : ω} (rf : RF R C f gf) (w : Own K M H om) (r : R o p om) (t : Ct K cn C) (na : NoAttr K C f) (ho : Ev ta σ H (.ref p)) : Hv K M (tFld K ta f) σ H (gf o) := fun H1 e1 m Q q => by
  obtain ⟨dx, nds, h1, h2, h3⟩ := rf o p om r
  exact fld_at w t na ho h1 h2 h3 H1 e1 Q q
theorem ev_ptrO {C dx p a : Addr} {nds : List (Str × Xd)} {f cn : Str} (w : Own K M H om) (t : Ct K cn C) (na : NoAttr K C f) (ho : Ev ta σ H (.ref p)) (h1 : (p, Mv.ins C dx nds) ∈ om) (h2 : (nds.map (·.1)).Nodup) (h3 : (f, Xd.ptr a) ∈ nds) : Ev (tFld K ta f) σ H (.ref a) := fun H1 e1 Q q =>
  fld_at w t na ho h1 h2 h3 H1 e1 Q fun v H2 e2 x => by cases x; exact q H2 e2
/-- x.m(..), as a statement -/
theorem zq_callO {R : Rep ω} {self : γ → ω} {args : γ → List Xd} {pre : γ → Prop} {F : γ → β} {G : γ → ω} {E : XK} {C p : Addr} {m : Str} {ns : List Str} (c : γ) (ri : RI R C ns) (nm : m ∉ ns) (s : Sg K Mc He H is ms) {n : Nat} (q : ms.drop n = om) (r : R (self c) p om) (ho : Ev ta σ H (.ref p)) (ha : HD K (muA ms ++ Mc) tr σ H (args c)) (hp : pre c)
    (k : ∀ o', o' = G c → ∀ om' H1, R o' p om' → Sg K Mc He H1 is (ms.take n ++ om') → tq D σ H1) : tSeq (tDrop (tMeth C m (PrO K R self args pre F G) [] E ta tr)) tq D σ H :=
  ho H (Ex.refl H) _ fun H1 e1 => by
    obtain ⟨dx, nds, h1, h2⟩ := ri _ _ _ r
    obtain ⟨u, hu, fs, rfl, h4, h5⟩ := Own.sg s q H1 e1 _ h1
    refine ⟨p, dx, fs, rfl, hu, lookup_none (by rw [h4, h2]; exact nm), ?_⟩
    refine ha H1 e1 ((s.ex e1).mok) _ fun vs H2 e2 ds => ?_
    have s2 := (s.ex e1).ex e2
    have em : ms = ms.take n ++ om := by rw [← q, List.take_append_drop]
    have ea : muA ms = muA (ms.take n) ++ muA om := by rw [← muA_app, ← em]
    have nd := s.nd
    rw [ea] at nd
    have nd' := List.nodup_append.mp nd
    have cg : msk (muA ms ++ Mc) H2 = msk (muA om ++ (muA (ms.take n) ++ Mc)) H2 := msk_congr fun a => by
      rw [ea]; exact mem3
    refine ⟨muA (ms.take n) ++ Mc, p, om, vs ++ [], c, rfl, fun l hl => s2.mok l ?_, fun a ha z => ?_, nd'.2.1, r, ?_, ?_, hp, fun w H' om' r' s' => k _ rfl om' H' r' ((Sg.after s2 q s').keep fun _ h => h.2)⟩
    · rw [ea]; rcases List.mem_append.mp hl with h | h <;> simp [h]
    · rcases List.mem_append.mp z with h | h
      · exact nd'.2.2 a h a ha rfl
      · exact s.notc (ea ▸ List.mem_append_right _ ha) h
    · rw [← cg]; exact mu_iff.mpr fun e he => mu_iff.mp s2.mu e (by rw [em]; exact List.mem_append_right _ he)
    · rw [List.append_nil, ← cg]; exact ds
/-- x.m(..) of a method that reads its object only -/
theorem hv_methQ {R : Rep ω} {self : γ → ω} {args : γ → List Xd} {pre : γ → Prop} {F : γ → β} {E : XK} {C p : Addr} {m : Str} {ns : List Str} (c : γ) (ri : RI R C ns) (nm : m ∉ ns) (w : Own K M H om) (hs : ∀ a ∈ muA om, a ∈ M) (r : R (self c) p om) (ho : Ev ta σ H (.ref p)) (ha : HD K M tr σ H (args c)) (hp : pre c) :
    Hv K M (tMeth C m (PrQ K R self args pre F) [] E ta tr) σ H (F c) := fun H1 e1 mk Q q =>
  ho H1 e1 _ fun H2 e2 => by
    obtain ⟨dx, nds, h1, h2⟩ := ri _ _ _ r
    obtain ⟨u, hu, fs, rfl, h4, h5⟩ := w H2 (e1.trans e2) _ h1
    refine ⟨p, dx, fs, rfl, hu, lookup_none (by rw [h4, h2]; exact nm), ?_⟩
    refine ha H2 (e1.trans e2) (mk.ex e2) _ fun vs H3 e3 ds => ?_
    refine ⟨M, p, om, vs ++ [], c, rfl, (mk.ex e2).ex e3, hs, r, mu_iff.mpr fun e he => w H3 ((e1.trans e2).trans e3) e he, by rw [List.append_nil]; exact ds, hp, fun v H4 e4 d4 => q v H4 ((e2.trans e3).trans e4) d4⟩
theorem own_in (s : Sg K Mc He H is ms) {n : Nat} (q : ms.drop n = om) : ∀ a ∈ muA om, a ∈ muA ms ++ Mc := fun a ha => by
  obtain ⟨e, he, rfl⟩ := List.mem_map.mp ha
  exact List.mem_append_left _ (List.mem_map.mpr ⟨e, List.mem_of_mem_drop (q ▸ he), rfl⟩)
/-- x = C(..), the object own -/
theorem z_makeO {R : Rep ω} {args : γ → List Xd} {pre : γ → Prop} {G : γ → ω} {E : XK} {cn : Str} {C : Addr} {i : Nat} (c : γ) (t : Ct K cn C) (s : Sg K Mc He H is ms) (h : HD K (muA ms ++ Mc) tr σ H (args c)) (hp : pre c)
    (k : ∀ o', o' = G c → ∀ p om' H1, R o' p om' → Sg K Mc He H1 is (ms ++ om') → tq D (σ.set i (some (.ref p))) H1) : tSeq (tAsg (tMake C (PrIO K cn R args pre G) [] E tr) (gName i)) tq D σ H :=
  h H (Ex.refl H) s.mok _ fun vs H2 e2 ds x dx hx hdx ne => by
    have s2 := s.ex e2
    have m2 := s2.mok
    have hx2 : upd H2 dx (.own x) x = none := by rw [upd_ne (fun z => ne z.symm)]; exact hx
    have ea : Ex H2 (upd H2 dx (.own x)) := Ex.new hdx
    have eb : Ex (upd H2 dx (.own x)) (upd (upd H2 dx (.own x)) x (.ins C dx [])) := Ex.new hx2
    have hxM : x ∉ muA ms ++ Mc := fun z => m2 x z hx
    have s3 := s2.ex ea
    have key : Ex (msk (muA ms ++ Mc) (upd H2 dx (.own x))) (msk (x :: (muA ms ++ Mc)) (upd (upd H2 dx (.own x)) x (.ins C dx []))) := msk_new hx2
    refine ⟨muA ms ++ Mc, x, C, dx, vs, c, by rw [List.append_nil], ?_, hxM, t.ns, upd_same, dpa_mono ((msk_ex ea).trans key) ds, hp, fun H' om' r' s' => ⟨rfl, ?_⟩⟩
    · intro l hl
      rcases List.mem_cons.mp hl with rfl | hl
      · rw [upd_same]; exact fun z => nomatch z
      · exact ((m2.ex ea).ex eb) l hl
    · refine k _ rfl x om' H' r' (Sg.join (B := [x]) (js := []) ?_ s.okc s.nd (fun a ha z => ?_) ?_ ?_ s')
      · exact s3.ext.trans (msk_new hx2)
      · exact hxM (List.mem_append_left _ (by have : a = x := by simpa using z
                                              exact this ▸ ha))
      · exact s3.im.mono key
      · exact s3.mu.mono key eb
/-! ### own dicts in fields -/
section
variable [DecidableEq κ] [Dx κ] [Ky κ]
/-- the shell of a dict that is only read -/
def HSd (K : PySem.W.Frag) (M : List Addr) (te : TE) (σ : L2.St) (H : Hp) (d : Dc κ β) : Prop :=
  ∀ H1, Ex H H1 → MOk M H1 → ∀ Q : VK, (∀ a kvs H2, Ex H1 H2 → Rd H2 a (.dK kvs) → Kd K (msk M H2) kvs d.kvs → Q (.ref a) H2) → te σ H1 Q
theorem hv_dinH {d : Dc κ β} {x : κ} (hk : Hv K M ta σ H x) (hd : HSd K M td σ H d) : Hv K M (tDIn ta td) σ H (d.has x) := fun H1 e1 m Q q =>
  hk H1 e1 m _ fun v H2 e2 dv => hd H2 (e1.trans e2) (m.ex e2) _ fun a kvs H3 e3 r h2 => by
    refine ⟨a, valV kvs (Ky.toK x), rfl, .inl ⟨kvs, Ky.toK x, r, Ky.link dv, rfl⟩, ?_⟩
    have hb : (valV kvs (Ky.toK x)).isSome = d.has x := by rw [← valV_any, h2.any]; rfl
    rw [hb]
    exact q _ H3 (e2.trans e3) (Dt.ofBool _)
theorem hv_dninH {d : Dc κ β} {x : κ} (hk : Hv K M ta σ H x) (hd : HSd K M td σ H d) : Hv K M (tDNotIn ta td) σ H (!d.has x) := fun H1 e1 m Q q =>
  hk H1 e1 m _ fun v H2 e2 dv => hd H2 (e1.trans e2) (m.ex e2) _ fun a kvs H3 e3 r h2 => by
    refine ⟨a, valV kvs (Ky.toK x), rfl, .inl ⟨kvs, Ky.toK x, r, Ky.link dv, rfl⟩, ?_⟩
    have hb : (valV kvs (Ky.toK x)).isSome = d.has x := by rw [← valV_any, h2.any]; rfl
    rw [hb]
    exact q _ H3 (e2.trans e3) (Dt.ofBool _)
theorem hv_dgetH {d : Dc κ β} {x : κ} {y : β} (hd : HSd K M td σ H d) (hk : Hv K M ta σ H x) (hg : d.get x = some y) : Hv K M (tDGet td ta) σ H y := fun H1 e1 m Q q =>
  hd H1 e1 m _ fun a kvs H2 e2 r h2 => hk H2 (e1.trans e2) (m.ex e2) _ fun v H3 e3 dv => by
    rcases h2.get x with ⟨w, z, g1, g2, g3⟩ | ⟨_, g2⟩
    · rw [hg] at g2
      cases g2
      exact ⟨a, w, rfl, .inl ⟨kvs, Ky.toK x, ex_rd e3 r, Ky.link dv, g1.symm⟩, q w H3 (e2.trans e3) (g3.mono (msk_ex e3))⟩
    · rw [hg] at g2; cases g2
/-- a field that holds an own dict -/
def RD (R : Rep ω) (C : Addr) (f : Str) (gd : ω → Dc κ β) (st : ω → Dc κ β → ω) : Prop := ∀ o p om, R o p om → ∃ dx nds a rest, (p, Mv.ins C dx nds) ∈ rest ∧ (nds.map (·.1)).Nodup ∧ (f, Xd.ptr a) ∈ nds ∧ om.Perm ((a, (gd o).m) :: rest) ∧
  ∀ d', ∃ om', R (st o d') p om' ∧ om'.Perm ((a, d'.m) :: rest)
theorem own_dic {a : Addr} {d : Dc κ β} (w : Own K M H om) (h : (a, d.m) ∈ om) (e : Ex H H1) : ∃ kvs, H1 a = some (.dK kvs) ∧ Kd K (msk M H1) kvs d.kvs := by
  obtain ⟨o, h1, h2⟩ := w H1 e _ h
  obtain ⟨kvs, rfl, h3, h4⟩ := h2
  refine ⟨kvs, h1, kd_of ?_ ?_⟩
  · rw [h3, List.map_map]; rfl
  · rw [List.map_map] at h4; exact h4
theorem hsd_fldO {R : Rep ω} {C p : Addr} {f cn : Str} {gd : ω → Dc κ β} {st : ω → Dc κ β → ω} {o : ω} (rd : RD R C f gd st) (w : Own K M H om) (r : R o p om) (t : Ct K cn C) (na : NoAttr K C f) (ho : Ev ta σ H (.ref p)) : HSd K M (tFld K ta f) σ H (gd o) := fun H1 e1 m Q q => by
  obtain ⟨dx, nds, a, rest, h1, h2, h3, pm, _⟩ := rd o p om r
  refine ev_ptrO w t na ho (pm.mem_iff.mpr (List.mem_cons_of_mem _ h1)) h2 h3 H1 e1 Q fun H2 e2 => ?_
  obtain ⟨kvs, h4, h5⟩ := own_dic w (pm.mem_iff.mpr List.mem_cons_self) (e1.trans e2)
  exact q a kvs H2 e2 (.inl h4) h5
theorem Sg.upd1 {ms' rest : Mus} {a : Addr} {m m' : Mv} {o : HO} (s : Sg K Mc He H is ms) (pm : ms.Perm ((a, m) :: rest)) (ok : MvOk K (msk (muA ms ++ Mc) H) o m') (pm' : ms'.Perm ((a, m') :: rest)) : Sg K Mc He (upd H a o) is ms' := by
  have cg : msk (muA ms ++ Mc) H = msk (muA ((a, m) :: rest) ++ Mc) H := msk_congr fun b => by rw [List.mem_append, List.mem_append, (show b ∈ muA ms ↔ b ∈ muA ((a, m) :: rest) from (pm.map (·.1)).mem_iff)]
  rw [cg] at ok
  exact ((s.perm pm).set (k := 0) rfl ok).perm pm'.symm
/-- x.f[k] = e -/
theorem z_dputO {R : Rep ω} {C p : Addr} {f cn : Str} {gd : ω → Dc κ β} {st : ω → Dc κ β → ω} {o : ω} {x : κ} {y : β} (rd : RD R C f gd st) (s : Sg K Mc He H is ms) {n : Nat} (q : ms.drop n = om) (r : R o p om) (t : Ct K cn C) (na : NoAttr K C f) (ho : Ev ta σ H (.ref p)) (hv : Hv K (muA ms ++ Mc) te σ H y) (hk : Hv K (muA ms ++ Mc) tk σ H x) (hz : (gd o).kvs.length ≤ 100000)
    (k : ∀ o', o' = st o ((gd o).put x y) → ∀ om' H1, R o' p om' → Sg K Mc He H1 is (ms.take n ++ om') → tq D σ H1) : tSeq (sDPut (tFld K ta f) tk te) tq D σ H :=
  hv H (Ex.refl H) s.mok _ fun v H1 e1 dv => by
    obtain ⟨dx, nds, a, rest, h1, h2, h3, pm, nw⟩ := rd o p om r
    refine ev_ptrO (Own.sg s q) t na ho (pm.mem_iff.mpr (List.mem_cons_of_mem _ h1)) h2 h3 H1 e1 _ fun H2 e2 => hk H2 (e1.trans e2) (s.mok.ex (e1.trans e2)) _ fun u H3 e3 du => ?_
    have s3 := ((s.ex e1).ex e2).ex e3
    obtain ⟨kvs, h4, h5⟩ := own_dic (Own.sg s q) (pm.mem_iff.mpr List.mem_cons_self) ((e1.trans e2).trans e3)
    have hl : kvs.length < sizeLine := by
      have hs : sizeLine = 16777216 := sizeLine_eq
      rw [h5.len]; omega
    obtain ⟨om', r', pm'⟩ := nw ((gd o).put x y)
    have em : ms = ms.take n ++ om := by rw [← q, List.take_append_drop]
    refine ⟨a, _, rfl, by rw [Ky.link du]; exact DPut.k h4 hl, k _ rfl om' _ r' (s3.upd1 (a := a) (m := (gd o).m) (m' := ((gd o).put x y).m) (rest := ms.take n ++ rest) ?_ (dic_ok ?_) ?_)⟩
    · conv => lhs; rw [em]
      exact (pm.append_left _).trans List.perm_middle
    · exact h5.put (Dt.mono (msk_ex (e2.trans e3)) dv)
    · exact (pm'.append_left _).trans List.perm_middle
/-! ### dicts of own lists in fields -/
structure Pt where
  a : Addr
  deriving DecidableEq
instance : Dx Pt := ⟨fun p => .ptr p.a⟩
def nestD (a : Addr) (dp : Dc κ Pt) (d : Dc κ (List β)) : Mus := (a, dp.m) :: nestM (dp.kvs.map (·.2.a)) (d.kvs.map (·.2))
def RN (R : Rep ω) (C : Addr) (f : Str) (gd : ω → Dc κ (List β)) (st : ω → Dc κ (List β) → ω) : Prop := ∀ o p om, R o p om → ∃ dx nds a dp rest, (p, Mv.ins C dx nds) ∈ rest ∧ (nds.map (·.1)).Nodup ∧ (f, Xd.ptr a) ∈ nds ∧ dp.kvs.map (·.1) = (gd o).kvs.map (·.1) ∧ ((gd o).kvs.map (·.1)).Nodup ∧ om.Perm (nestD a dp (gd o) ++ rest) ∧
  ∀ d' dp', dp'.kvs.map (·.1) = d'.kvs.map (·.1) → (d'.kvs.map (·.1)).Nodup → ∃ om', R (st o d') p om' ∧ om'.Perm (nestD a dp' d' ++ rest)
theorem nest_app {x : κ} {xs : List β} : ∀ {l1 : List (κ × Pt)} {l2 : List (κ × List β)}, l1.map (·.1) = l2.map (·.1) → (l2.map (·.1)).Nodup → Dc.get ⟨l2⟩ x = some xs → ∃ l rest, Dc.get ⟨l1⟩ x = some ⟨l⟩ ∧ (nestM (l1.map (·.2.a)) (l2.map (·.2))).Perm ((l, .lst (xs.map Dx.toX)) :: rest) ∧
    ∀ ys : List β, (nestM (l1.map (·.2.a)) ((l2.map fun p => if p.1 = x then (p.1, ys) else p).map (·.2))).Perm ((l, .lst (ys.map Dx.toX)) :: rest)
  | [], [], _, _, h => by cases h
  | [], _ :: _, h, _, _ => by cases h
  | _ :: _, [], h, _, _ => by cases h
  | (k1, b) :: l1, (k2, vs) :: l2, h, nd, hg => by
    have h' := List.cons.inj h
    have e1 : k1 = k2 := h'.1
    subst e1
    have nd' := List.nodup_cons.mp (show (k1 :: l2.map (·.1)).Nodup from nd)
    by_cases q : k1 = x
    · subst q
      have : vs = xs := by simpa [Dc.get] using hg
      subst this
      refine ⟨b.a, nestM (l1.map (·.2.a)) (l2.map (·.2)), by simp [Dc.get], .refl _, fun ys => ?_⟩
      have : (l2.map fun p => if p.1 = k1 then (p.1, ys) else p) = l2 := by
        conv => rhs; rw [← List.map_id l2]
        refine List.map_congr_left fun p hp => ?_
        rw [if_neg fun z => nd'.1 (List.mem_map.mpr ⟨p, hp, z⟩)]; rfl
      simp only [List.map_cons, if_true, this]
      exact .refl _
    · have hg' : Dc.get ⟨l2⟩ x = some xs := by simpa [Dc.get, q] using hg
      obtain ⟨l, rest, g1, g2, g3⟩ := nest_app h'.2 nd'.2 hg'
      refine ⟨l, (b.a, .lst (vs.map Dx.toX)) :: rest, by simpa [Dc.get, q] using g1, ?_, fun ys => ?_⟩
      · exact (List.Perm.cons _ g2).trans (.swap ..)
      · simp only [List.map_cons, if_neg q]
        exact (List.Perm.cons _ (g3 ys)).trans (.swap ..)
theorem any_keys {τ ρ : Type} {x : κ} : ∀ {l1 : List (κ × τ)} {l2 : List (κ × ρ)}, l1.map (·.1) = l2.map (·.1) → (l1.any fun p => decide (p.1 = x)) = l2.any fun p => decide (p.1 = x)
  | [], [], _ => rfl
  | [], _ :: _, h => by cases h
  | _ :: _, [], h => by cases h
  | p :: l1, q :: l2, h => by
    have h' := List.cons.inj h
    rw [List.any_cons, List.any_cons, any_keys h'.2]
    rw [show p.1 = q.1 from h'.1]
theorem put_keys {τ : Type} [DecidableEq τ] [Dx τ] (d : Dc κ τ) (x : κ) (y : τ) : (d.put x y).kvs.map (·.1) = if (d.kvs.any fun p => decide (p.1 = x)) = true then d.kvs.map (·.1) else d.kvs.map (·.1) ++ [x] := by
  unfold Dc.put
  dsimp only
  split
  · rw [List.map_map]
    refine List.map_congr_left fun p _ => ?_
    show (if p.1 = x then (p.1, y) else p).1 = p.1
    split <;> rfl
  · rw [List.map_append]; rfl
theorem put_keys_nd {τ : Type} [DecidableEq τ] [Dx τ] {d : Dc κ τ} {x : κ} {y : τ} (h : (d.kvs.map (·.1)).Nodup) : ((d.put x y).kvs.map (·.1)).Nodup := by
  rw [put_keys]
  split
  · exact h
  · rename_i n
    refine List.nodup_append.mpr ⟨h, by simp, fun a ha b hb e => n ?_⟩
    have : b = x := by simpa using hb
    subst this e
    obtain ⟨p, hp, e⟩ := List.mem_map.mp ha
    exact List.any_eq_true.mpr ⟨p, hp, by simpa using e⟩
theorem put_keys_eq {τ ρ : Type} [DecidableEq τ] [Dx τ] [DecidableEq ρ] [Dx ρ] {d1 : Dc κ τ} {d2 : Dc κ ρ} {x : κ} {y : τ} {z : ρ} (h : d1.kvs.map (·.1) = d2.kvs.map (·.1)) : (d1.put x y).kvs.map (·.1) = (d2.put x z).kvs.map (·.1) := by
  rw [put_keys, put_keys, any_keys h, h]
theorem nest_rep {x : κ} {b : Addr} {ys : List β} : ∀ {l1 : List (κ × Pt)} {l2 : List (κ × List β)}, l1.map (·.1) = l2.map (·.1) → (l2.map (·.1)).Nodup → (l2.any fun p => decide (p.1 = x)) = true →
    ∃ e, ((b, Mv.lst (ys.map Dx.toX)) :: nestM (l1.map (·.2.a)) (l2.map (·.2))).Perm (e :: nestM ((l1.map fun p => if p.1 = x then (p.1, ⟨b⟩) else p).map (·.2.a)) ((l2.map fun p => if p.1 = x then (p.1, ys) else p).map (·.2)))
  | [], [], _, _, h => by cases h
  | [], _ :: _, h, _, _ => by cases h
  | _ :: _, [], h, _, _ => by cases h
  | (k1, c) :: l1, (k2, vs) :: l2, h, nd, ha => by
    have h' := List.cons.inj h
    have e1 : k1 = k2 := h'.1
    subst e1
    have nd' := List.nodup_cons.mp (show (k1 :: l2.map (·.1)).Nodup from nd)
    by_cases q : k1 = x
    · subst q
      refine ⟨(c.a, .lst (vs.map Dx.toX)), ?_⟩
      have r2 : (l2.map fun p => if p.1 = k1 then (p.1, ys) else p) = l2 := by
        conv => rhs; rw [← List.map_id l2]
        refine List.map_congr_left fun p hp => ?_
        rw [if_neg fun z => nd'.1 (List.mem_map.mpr ⟨p, hp, z⟩)]; rfl
      have r1 : (l1.map fun p => if p.1 = k1 then (p.1, (⟨b⟩ : Pt)) else p) = l1 := by
        conv => rhs; rw [← List.map_id l1]
        refine List.map_congr_left fun p hp => ?_
        rw [if_neg fun z => nd'.1 (by rw [← h'.2]; exact List.mem_map.mpr ⟨p, hp, z⟩)]; rfl
      simp only [List.map_cons, if_true, r1, r2]
      exact .swap ..
    · have ha' : (l2.any fun p => decide (p.1 = x)) = true := by simpa [q] using ha
      obtain ⟨e, pe⟩ := nest_rep (b := b) (ys := ys) h'.2 nd'.2 ha'
      refine ⟨e, ?_⟩
      simp only [List.map_cons, if_neg q]
      exact (List.Perm.swap ..).trans ((List.Perm.cons _ pe).trans (.swap ..))
theorem nest_put {dp : Dc κ Pt} {d : Dc κ (List β)} {x : κ} {b : Addr} {ys : List β} (h : dp.kvs.map (·.1) = d.kvs.map (·.1)) (nd : (d.kvs.map (·.1)).Nodup) :
    ∃ junk : Mus, ((b, Mv.lst (ys.map Dx.toX)) :: nestM (dp.kvs.map (·.2.a)) (d.kvs.map (·.2))).Perm (junk ++ nestM ((dp.put x ⟨b⟩).kvs.map (·.2.a)) ((d.put x ys).kvs.map (·.2))) := by
  unfold Dc.put
  rw [any_keys h]
  by_cases q : (d.kvs.any fun p => decide (p.1 = x)) = true
  · simp only [if_pos q]
    obtain ⟨e, pe⟩ := nest_rep (b := b) (ys := ys) h nd q
    exact ⟨[e], pe⟩
  · simp only [if_neg q]
    refine ⟨[], ?_⟩
    rw [List.nil_append, List.map_append, List.map_append]
    show List.Perm _ (nestM (_ ++ [b]) (_ ++ [ys]))
    rw [nestM_snoc (by rw [List.length_map, List.length_map]; simpa using congrArg List.length h)]
    exact List.perm_append_comm (l₁ := [_])
/-- x.f[k] = a new list -/
theorem z_dnewO {R : Rep ω} {C p : Addr} {f cn : Str} {gd : ω → Dc κ (List β)} {st : ω → Dc κ (List β) → ω} {o : ω} {x : κ} {ys : List β} (rd : RN R C f gd st) (s : Sg K Mc He H is ms) {n : Nat} (q : ms.drop n = om) (r : R o p om) (t : Ct K cn C) (na : NoAttr K C f) (ho : Ev ta σ H (.ref p)) (hv : HF K (muA ms ++ Mc) te σ H ys) (hk : Hv K (muA ms ++ Mc) tk σ H x) (hz : (gd o).kvs.length ≤ 100000)
    (k : ∀ o', o' = st o ((gd o).put x ys) → ∀ om' H1, R o' p om' → Sg K Mc He H1 is (ms.take n ++ om') → tq D σ H1) : tSeq (sDPut (tFld K ta f) tk te) tq D σ H :=
  hv H (Ex.refl H) s.mok _ fun b vs H1 hb e1 hb1 db => by
    obtain ⟨dx, nds, a, dp, rest, h1, h2, h3, ek, nd, pm, nw⟩ := rd o p om r
    refine ev_ptrO (Own.sg s q) t na ho (pm.mem_iff.mpr (List.mem_append_right _ h1)) h2 h3 H1 e1 _ fun H2 e2 => hk H2 (e1.trans e2) (s.mok.ex (e1.trans e2)) _ fun u H3 e3 du => ?_
    have s1 := s.newF hb e1 hb1 db
    have s3 := (s1.ex e2).ex e3
    have em : ms = ms.take n ++ om := by rw [← q, List.take_append_drop]
    obtain ⟨kvs, h4, h5⟩ := own_dic (d := dp) (Own.sg s3 (n := 1) (om := ms) rfl) (by rw [em]; exact List.mem_append_right _ (pm.mem_iff.mpr (List.mem_append_left _ List.mem_cons_self))) (Ex.refl H3)
    have hl : kvs.length < sizeLine := by
      have hs : sizeLine = 16777216 := sizeLine_eq
      have : dp.kvs.length = (gd o).kvs.length := by simpa using congrArg List.length ek
      rw [h5.len]; omega
    obtain ⟨om', r', pm'⟩ := nw ((gd o).put x ys) (dp.put x ⟨b⟩) (put_keys_eq ek) (put_keys_nd nd)
    obtain ⟨junk, pj⟩ := nest_put (x := x) (b := b) (ys := ys) ek nd
    refine ⟨a, _, rfl, by rw [Ky.link du]; exact DPut.k h4 hl, k _ rfl om' _ r' (Sg.sub (ms0 := junk) (s3.upd1 (a := a) (m := dp.m) (m' := (dp.put x ⟨b⟩).m) (rest := (b, Mv.lst (ys.map Dx.toX)) :: (nestM (dp.kvs.map (·.2.a)) ((gd o).kvs.map (·.2)) ++ (ms.take n ++ rest))) ?_ (dic_ok ?_) ?_))⟩
    · have p1 : ms.Perm ((a, dp.m) :: (nestM (dp.kvs.map (·.2.a)) ((gd o).kvs.map (·.2)) ++ (ms.take n ++ rest))) := by
        conv => lhs; rw [em]
        refine (pm.append_left _).trans ?_
        unfold nestD
        rw [List.cons_append]
        refine List.perm_middle.trans (.cons _ ?_)
        rw [← List.append_assoc, ← List.append_assoc]
        exact List.perm_append_comm.append_right _
      exact (List.Perm.cons _ p1).trans (.swap ..)
    · exact h5.put (Xp.ptr b)
    · refine (List.Perm.append_left _ (pm'.append_left _)).trans ?_
      unfold nestD
      have p2 := pj.append_right (ms.take n ++ rest)
      rw [List.cons_append] at p2
      refine List.Perm.trans ?_ (List.Perm.cons _ p2.symm)
      rw [List.cons_append]
      refine (List.Perm.append_left _ List.perm_middle).trans (List.perm_middle.trans (.cons _ ?_))
      rw [List.append_assoc]
      refine List.Perm.append_left _ ?_
      rw [← List.append_assoc, ← List.append_assoc]
      exact List.perm_append_comm.append_right _
/-- x.f[k], an own list, read -/
theorem hs_dgetO {R : Rep ω} {C p : Addr} {f cn : Str} {gd : ω → Dc κ (List β)} {st : ω → Dc κ (List β) → ω} {o : ω} {x : κ} {xs : List β} (rd : RN R C f gd st) (w : Own K M H om) (r : R o p om) (t : Ct K cn C) (na : NoAttr K C f) (ho : Ev ta σ H (.ref p)) (hk : Hv K M tk σ H x) (hg : (gd o).get x = some xs) : HS K M (tDGet (tFld K ta f) tk) σ H xs := fun H1 e1 m Q k => by
  obtain ⟨dx, nds, a, dp, rest, h1, h2, h3, ek, nd, pm, _⟩ := rd o p om r
  refine ev_ptrO w t na ho (pm.mem_iff.mpr (List.mem_append_right _ h1)) h2 h3 H1 e1 _ fun H2 e2 => hk H2 (e1.trans e2) (m.ex e2) _ fun u H3 e3 du => ?_
  obtain ⟨kvs, h4, h5⟩ := own_dic (d := dp) w (pm.mem_iff.mpr (List.mem_append_left _ List.mem_cons_self)) ((e1.trans e2).trans e3)
  obtain ⟨l, rest2, g1, g2, _⟩ := nest_app ek nd hg
  obtain ⟨o3, ho3, vs, rfl, hx⟩ := w H3 ((e1.trans e2).trans e3) (l, .lst (xs.map Dx.toX)) (pm.mem_iff.mpr (List.mem_append_left _ (List.mem_cons_of_mem _ (g2.mem_iff.mpr List.mem_cons_self))))
  rcases h5.get x with ⟨v, z, f1, f2, f3⟩ | ⟨_, f2⟩
  · rw [show Dc.get ⟨dp.kvs⟩ x = some ⟨l⟩ from g1] at f2
    cases f2
    cases (show Xp K _ v (.ptr l) from f3)
    exact ⟨a, .ref l, rfl, .inl ⟨kvs, Ky.toK x, .inl h4, Ky.link du, f1.symm⟩, k l vs H3 (e2.trans e3) (SqL.of ho3) hx⟩
  · rw [show Dc.get ⟨dp.kvs⟩ x = some ⟨l⟩ from g1] at f2; cases f2
/-- x.f[k].append(e) -/
theorem zq_appO {R : Rep ω} {C p : Addr} {f cn : Str} {gd : ω → Dc κ (List β)} {st : ω → Dc κ (List β) → ω} {o : ω} {x : κ} {xs : List β} {y : β} (rd : RN R C f gd st) (s : Sg K Mc He H is ms) {n : Nat} (q : ms.drop n = om) (r : R o p om) (t : Ct K cn C) (na : NoAttr K C f) (ho : Ev ta σ H (.ref p)) (hk : Hv K (muA ms ++ Mc) tk σ H x) (hv : Hv K (muA ms ++ Mc) te σ H y) (hg : (gd o).get x = some xs) (hz : xs.length < 100000)
    (k : ∀ o', o' = st o ((gd o).put x (xs ++ [y])) → ∀ om' H1, R o' p om' → Sg K Mc He H1 is (ms.take n ++ om') → tq D σ H1) : tSeq (tDrop (tBM K "list" rAppend (tDGet (tFld K ta f) tk) (tCons te tNil))) tq D σ H := by
  obtain ⟨dx, nds, a, dp, rest, h1, h2, h3, ek, nd, pm, nw⟩ := rd o p om r
  obtain ⟨l, rest2, g1, g2, g3⟩ := nest_app ek nd hg
  have em : ms = ms.take n ++ om := by rw [← q, List.take_append_drop]
  have w := Own.sg s q
  have hev : Ev (tDGet (tFld K ta f) tk) σ H (.ref l) := fun H1 e1 Q k2 => by
    refine ev_ptrO w t na ho (pm.mem_iff.mpr (List.mem_append_right _ h1)) h2 h3 H1 e1 _ fun H2 e2 => hk H2 (e1.trans e2) ((s.mok.ex e1).ex e2) _ fun u H3 e3 du => ?_
    obtain ⟨kvs, h4, h5⟩ := own_dic (d := dp) w (pm.mem_iff.mpr (List.mem_append_left _ List.mem_cons_self)) ((e1.trans e2).trans e3)
    rcases h5.get x with ⟨v, z, f1, f2, f3⟩ | ⟨_, f2⟩
    · rw [show Dc.get ⟨dp.kvs⟩ x = some ⟨l⟩ from g1] at f2
      cases f2
      cases (show Xp K _ v (.ptr l) from f3)
      exact ⟨a, .ref l, rfl, .inl ⟨kvs, Ky.toK x, .inl h4, Ky.link du, f1.symm⟩, k2 H3 (e2.trans e3)⟩
    · rw [show Dc.get ⟨dp.kvs⟩ x = some ⟨l⟩ from g1] at f2; cases f2
  have hany : (dp.kvs.any fun p => decide (p.1 = x)) = true := by
    obtain ⟨z, hz1, hz2⟩ := Option.map_eq_some_iff.mp (show (dp.kvs.find? fun p => decide (p.1 = x)).map (·.2) = some _ from g1)
    exact List.any_eq_true.mpr ⟨z, List.mem_of_find?_eq_some hz1, by simpa using List.find?_some hz1⟩
  obtain ⟨om', r', pm'⟩ := nw ((gd o).put x (xs ++ [y])) dp (by rw [put_keys, ← any_keys ek, if_pos hany, ek]) (put_keys_nd nd)
  have p1 : ms.Perm ((l, .lst (xs.map Dx.toX)) :: ((a, dp.m) :: (rest2 ++ (ms.take n ++ rest)))) := by
    conv => lhs; rw [em]
    refine (pm.append_left _).trans ?_
    unfold nestD
    rw [List.cons_append]
    refine List.perm_middle.trans ((List.Perm.cons _ ?_).trans (.swap ..))
    refine (List.Perm.append_left _ (g2.append_right _)).trans ?_
    rw [List.cons_append]
    refine List.perm_middle.trans (.cons _ ?_)
    rw [← List.append_assoc, ← List.append_assoc]
    exact List.perm_append_comm.append_right _
  have sP := s.perm p1
  have hmask : msk (muA ms ++ Mc) = msk (muA ((l, Mv.lst (xs.map Dx.toX)) :: ((a, dp.m) :: (rest2 ++ (ms.take n ++ rest)))) ++ Mc) := by
    funext H'
    exact msk_congr fun b => by rw [List.mem_append, List.mem_append, (show b ∈ muA ms ↔ b ∈ muA ((l, Mv.lst (xs.map Dx.toX)) :: ((a, dp.m) :: (rest2 ++ (ms.take n ++ rest)))) from (p1.map (·.1)).mem_iff)]
  have hv' : Hv K (muA ((l, Mv.lst (xs.map Dx.toX)) :: ((a, dp.m) :: (rest2 ++ (ms.take n ++ rest)))) ++ Mc) te σ H y := fun H1 e1 m Q q2 => hv H1 e1 (s.mok.ex e1) Q fun v H2 e2 d => q2 v H2 e2 (by rw [← hmask]; exact d)
  refine zq_app (kk := 0) sP rfl hev hv' hz fun H1 s1 => k _ rfl om' H1 r' (s1.perm ?_)
  refine List.Perm.symm ?_
  refine (pm'.append_left _).trans ?_
  unfold nestD
  have hany2 : ((gd o).kvs.any fun p => decide (p.1 = x)) = true := by rw [← any_keys ek]; exact hany
  have e2 : ((gd o).put x (xs ++ [y])).kvs = (gd o).kvs.map fun p => if p.1 = x then (p.1, xs ++ [y]) else p := by
    unfold Dc.put
    rw [if_pos hany2]
  rw [e2, List.cons_append]
  refine List.perm_middle.trans ((List.Perm.cons _ ?_).trans (.swap ..))
  refine (List.Perm.append_left _ ((g3 _).append_right _)).trans ?_
  rw [List.cons_append]
  refine List.perm_middle.trans (.cons _ ?_)
  rw [← List.append_assoc, ← List.append_assoc]
  exact List.perm_append_comm.append_right _
end
end
end Ly

namespace Ly
open PySem PySem.Spec PyProof.Rows L2 Evl
open PySem.W (Datum DatumOrd Tup T3 T4)
/-! ### <= of tuples -/
section
variable {K : PySem.W.Frag} {M : List Addr} {H H1 H2 : Hp} {σ : L2.St} {te ta tb tl : TE}
variable {α : Type} [DecidableEq α] [Dx α] [DatumOrd α]
def rLeT (α : Type) [DecidableEq α] [Dx α] [DatumOrd α] (K : PySem.W.Frag) : R2 := fun x y H Q => ∃ a b : α, Dt K H x a ∧ Dt K H y b ∧ Q (.bl (!DatumOrd.lt b a)) H
theorem op_leT [DxD α] {X : Cx} (hu : X.A.units + Datum.depth α < cLine) : OpR X (compareOp .LtE) (rLeT α X.K) := by
  intro pins s σ H x y v u Q I rx ry h
  obtain ⟨a, b, da, db, q⟩ := h
  exact PySem.W.le_datum (dt_holds I da rx) (dt_holds I db ry) hu ⟨.bl _, H, I, rfl, q⟩
theorem hv_leT {x y : α} (ha : Hv K [] ta σ H x) (hb : Hv K [] tb σ H y) : Hv K M (tOp (rLeT α K) ta tb) σ H (!DatumOrd.lt y x) := fun H1 e m Q q =>
  ha H1 e (fun _ z => nomatch z) _ fun v H2 e2 d => hb H2 (e.trans e2) (fun _ z => nomatch z) _ fun u H3 e3 d' => by
    rw [msk_nil] at d d'
    exact ⟨x, y, d.mono e3, d', q _ H3 (e2.trans e3) (Dt.ofBool _)⟩
end
/-! ### enumerate(xs, start=k) -/
theorem callWith_typeKw {M : Model} {A : Around} {E : Value → Shared → Prop} {s : Shared} {env : Env} {pos : Pos} {T : String} {e : Expr} {rest : List Expr} {kws : List Keyword} {Q : Value → Shared → Prop}
    (h : wpAny M A (spliced (backTo pos (starEach (e :: rest) env))) (fun vs s₁ => wpAny M A (evalAll ((backToKw pos (keywordEach kws env)).map (·.2)))
      (fun kvs s₂ => wpAny M A (call (.type T) vs (((backToKw pos (keywordEach kws env)).filterMap (·.1)).zip kvs)) Q E s₂) E s₁) E s)
    (he : backTo pos (starEach (e :: rest) env) = (false, eval e env) :: backTo pos (starEach rest env) := by rfl)
    (hplain : (backTo pos (starEach (e :: rest) env)).any (·.1) = false := by rfl)
    (hall : (backToKw pos (keywordEach kws env)).all (·.1.isSome) = true := by rfl)
    (hkw : (backToKw pos (keywordEach kws env)).any (·.1.isNone) = false := by rfl) :
    wpAny M A (callWith pos (.type T) [] (backTo pos (starEach (e :: rest) env)) (backToKw pos (keywordEach kws env))) Q E s := by
  have h' : wpAny M A (evalArgs (.type T) true (backTo pos (starEach (e :: rest) env)) (backToKw pos (keywordEach kws env))) (fun a s₁ => wpAny M A (call (.type T) ([] ++ a.pos) a.kw) Q E s₁) E s := by
    rw [he] at h ⊢
    exact evalArgs_kwB hall h
  unfold callWith
  refine wpAny_bind (wpAny_holding (wpAny_mono h' (fun a s₁ h₁ => wpAny_bind (wpAny_standAt ?_)) fun _ _ x => x))
  simp only [hplain, hkw, Bool.or_false]
  refine wpAny_bind (wpAny_pure ?_)
  exact wpAny_bind (wpAny_mono h₁ (fun r s₂ hr => wpAny_bind (wpAny_holding (wpAny_point (wpAny_pure hr)))) fun _ _ x => x)
def ItS (K : PySem.W.Frag) (k0 : Int) (a : Addr) : It :=
  ⟨fun i H => ∃ (xs : List V) (x : V), SqL K H a xs ∧ xs[i]? = some x, fun i H v H' => ∃ T x, v = .ref T ∧ H T = none ∧ H' = upd H T (.tup [.int (k0 + (i : Nat)), x]) ∧ ∀ xs, SqL K H a xs → xs[i]? = some x, fun i H => ∃ xs : List V, SqL K H a xs ∧ xs.length = i⟩
theorem lst_not_it {a it : Addr} {n : Nat} {h : Heap} {l : Array Value} (pa : h.IsList a l) (c : h.IsListIter it a n) : a ≠ it := fun q => by
  obtain ⟨oa, ha, ka, _⟩ := pa
  obtain ⟨ob, hb, kb, _⟩ := c
  rw [q, hb] at ha; cases ha
  rw [kb] at ka
  exact absurd (Value.type.inj ka) (by decide)
theorem lst_not_en {a e it : Addr} {k : Int} {old : Value} {h : Heap} {l : Array Value} (pa : h.IsList a l) (he : IsEnum h e it k old) : a ≠ e := fun q => by
  obtain ⟨oa, ha, ka, _⟩ := pa
  have hb : h.get? e = some _ := he
  rw [← q, ha] at hb
  cases hb
  exact absurd (Value.type.inj ka) (by decide)
theorem turn_enumS {P : Program} {w : World} {K : PySem.W.Frag} {elts : List Expr} {kk : Nat} {tpos : Pos} (k0 : Int) (a e it : Addr) (hne : e ≠ it) :
    Turn P w K (.Tuple elts kk tpos) (ItS K k0 a) [e, it] e (fun i h => (∃ old, IsEnum h e it (k0 + ((i : Nat) : Int)) old) ∧ h.IsListIter it a i) where
  mem := by simp
  obj := fun i h st b hb => by
    obtain ⟨⟨old, he⟩, ⟨o, ho, hc, hd⟩⟩ := st
    have z : b = e ∨ b = it := by simpa using hb
    rcases z with z | z
    · rw [z]; exact ⟨_, he, fun v q => nomatch q⟩
    · rw [z]; exact ⟨o, ho, fun v q => by rw [hd] at q; cases q⟩
  keep := fun i h h' st k => by
    obtain ⟨⟨old, he⟩, hi⟩ := st
    exact ⟨⟨old, k e (by simp) _ he⟩, hi.at fun o q => k it (by simp) o q⟩
  item := by
    intro X hP hw hK hc i pins s σ H E I hf st hg
    subst hP hw hK
    obtain ⟨us, v, hq, hx⟩ := hg
    obtain ⟨⟨old, he⟩, hit⟩ := st
    obtain ⟨la, ra, pa', _⟩ := I.list hq
    have pa := pa'.isList
    obtain ⟨ua, ga, xa⟩ := ra.get hx
    have na := lst_not_it pa hit
    have ne := lst_not_en pa he
    have dr := Draws.list (prog := X.prog) (w := X.w) (show X.A.in1.handled = none from I.ok.hd hc) it a na la.toArray
    have lt : i < la.toArray.size := by
      have := (List.getElem?_eq_some_iff.mp ga).1
      simpa using this
    refine wpAny_pyNext_enum_itemC dr he ⟨hit, pa⟩ lt hne (by simp only [List.mem_cons, List.not_mem_nil, or_false, not_or]; exact ⟨hne, fun z => ne z.symm⟩) fun x1 h1 tk y1 y2 y3 y4 y5 y6 => ?_
    have e1 : x1 = ua := by
      have : la[i]? = some x1 := by simpa using y1
      exact Option.some.inj (this.symm.trans ga)
    subst e1
    refine ⟨_, rfl, wpAny_letOwnedTupleGo_enum (s := { s with heap := h1, toks := tk + 1 }) y2 fun h2 f1 f2 => ?_⟩
    have pe : s.heap.objs.size ≠ e := Nat.ne_of_gt (Heap.lt_size he)
    have pn : h2.get? s.heap.objs.size = some { cls := .type "tuple", data := .seq #[.int (k0 + (i : Int)) tk, x1] } := (f2.2 _ pe).trans y4
    have ok : ObjOk X.prog X.w (upd H s.heap.objs.size (.tup [.int (k0 + (i : Nat)), v])) h2 s.heap.objs.size (.tup [.int (k0 + (i : Nat)), v]) := ⟨show 2 ≤ sizeLine by decide, [.int (k0 + (i : Int)) tk, x1], .cons ⟨_, rfl⟩ (.cons xa .nil), _, pn, rfl, _, rfl⟩
    have old' : ∀ c o, c ∉ [e, it] → s.heap.get? c = some o → h2.get? c = some o := fun c o n q => by
      have m1 : c ≠ e := fun t => n (by rw [t]; simp)
      have m2 : c ≠ it := fun t => n (by rw [t]; simp)
      exact (f2.2 c m1).trans (y6 c o m1 m2 q)
    refine ⟨.ref s.heap.objs.size, upd H s.heap.objs.size (.tup [.int (k0 + (i : Nat)), v]), I.turnedNew (t' := tk + 1) (ch := [e, it]) old' hf (Nat.le_refl _) ok, rfl, ⟨_, v, rfl, I.hok.fresh (Nat.le_refl _), rfl, fun l t => ?_⟩, ⟨⟨x1, ?_⟩, ?_⟩, fun c m => ?_⟩
    · rw [I.list_inj t hq]; exact hx
    · have e2 : k0 + ((i + 1 : Nat) : Int) = k0 + (i : Int) + 1 := by omega
      rw [e2]; exact f1
    · exact y3.1.at fun o q => (f2.2 it (Ne.symm hne)).trans q
    · have lc : c < s.heap.objs.size := by
        rcases (by simpa using m : c = e ∨ c = it) with rfl | rfl
        · exact Heap.lt_size he
        · obtain ⟨_, q, _⟩ := hit; exact Heap.lt_size q
      rw [upd_ne (Nat.ne_of_lt lc)]
      exact (hf c m).1
  done := by
    intro X hP hw hK hc i pins s σ H E I hf st hg
    subst hP hw hK
    obtain ⟨us, hq, rfl⟩ := hg
    obtain ⟨⟨old, he⟩, hit⟩ := st
    obtain ⟨la, ra, pa', _⟩ := I.list hq
    have pa := pa'.isList
    have na := lst_not_it pa hit
    have dr := Draws.list (prog := X.prog) (w := X.w) (show X.A.in1.handled = none from I.ok.hd hc) it a na la.toArray
    have sz : us.length = la.toArray.size := by rw [List.size_toArray]; exact ra.length
    rw [sz] at hit he
    refine wpAny_pyNext_enum_endD dr he ⟨hit, pa⟩ fun h1 d => ⟨rfl, ?_⟩
    refine I.turnedL (t' := s.toks) (ch := [e, it]) (fun c o n q => ?_) hf
    exact d c o (fun t => n (by rw [t]; simp)) q
  self := fun A i s Q E st h => by
    obtain ⟨⟨_, he⟩, _⟩ := st
    exact wpAny_pyIter_enum he h
def iEnumS (K : PySem.W.Frag) (ta tk : TA) : TI := fun σ H R => ta σ H fun vs H1 => tk σ H1 fun zs H2 => ∃ a us k0, vs = [.ref a] ∧ zs = [.int k0] ∧ SqL K H2 a us ∧ -(2 ^ 63) ≤ k0 ∧ k0 < 2 ^ 63 ∧ R (ItS K k0 a) H2
theorem pi_enumS {X : Cx} {e : Expr} {kws : List Keyword} {ta tk : TA} {p pos tpos : Pos} {elts : List Expr} {kk : Nat} (hg : Gl X "enumerate") (hm : X.mg "enumerate" = none) (ha : PA X [e] ta) (hk : PK X kws tk)
    (he : backTo pos (starEach [e] X.env) = (false, eval e X.env) :: backTo pos (starEach [] X.env) := by rfl) (hpl : (backTo pos (starEach [e] X.env)).any (·.1) = false := by rfl)
    (hall : (backToKw pos (keywordEach kws X.env)).all (·.1.isSome) = true := by rfl) (hnone : (backToKw pos (keywordEach kws X.env)).any (·.1.isNone) = false := by rfl) (hks : (backToKw pos (keywordEach kws X.env)).filterMap (·.1) = [Str.ofString "start"] := by rfl) :
    PI X (.Tuple elts kk tpos) (.Call (.Name "enumerate" p) [e] kws pos) (iEnumS X.K ta tk) := by
  constructor
  intro pins s σ H R I h
  refine wpAny_Call_Name_kw (ld_blt I hg hm boot_enumerate ?_)
  refine callWith_typeKw (thn (ha.run pos pins s σ H _ I h) fun us s1 ⟨vs, H1, I1, r1, q1⟩ => thn (hk.run pos pins s1 σ H1 _ I1 q1) fun ws s2 ⟨zs, H2, I2, r2, q2⟩ => ?_) he hpl hall hnone
  rw [hks]
  obtain ⟨a, xs, k0, rfl, rfl, hq, b1, b2, q⟩ := q2
  obtain ⟨u, rfl, eu⟩ := vals1 r1
  obtain ⟨w, rfl, ew⟩ := vals1 r2
  cases eu
  obtain ⟨t, rfl⟩ := ew
  obtain ⟨la, ra, pa, _⟩ := I2.list hq
  refine enum_begins_start (begins_list a la.toArray) pa.isList b1 b2 fun h' he hit hsz hk => wpAny_pyIter_enum he ?_
  refine ⟨s2.heap.objs.size + 1, [s2.heap.objs.size + 1, s2.heap.objs.size], _, _, H2, rfl, I2.kept (t' := s2.toks) hk, turn_enumS k0 a (s2.heap.objs.size + 1) s2.heap.objs.size (Nat.succ_ne_self _), ⟨⟨.none, by simpa using he⟩, ⟨_, hit, rfl, rfl⟩⟩, fun b hb => ?_, q⟩
  have le : s2.heap.objs.size ≤ b := by
    rcases (by simpa using hb : b = s2.heap.objs.size + 1 ∨ b = s2.heap.objs.size) with rfl | rfl <;> omega
  exact I2.fpOk le (I2.hok.fresh le)
section
variable {α : Type} [DecidableEq α] [Dx α]
def enumS (k0 : Int) (xs : List α) : List (Int × α) := (enumL xs).map fun p => (k0 + p.1, p.2)
theorem enumS_len (k0 : Int) (xs : List α) : (enumS k0 xs).length = xs.length := by unfold enumS; rw [List.length_map, enumL_len]
theorem enumS_get {k0 : Int} {xs : List α} {i : Nat} {x : α} (h : xs[i]? = some x) : (enumS k0 xs)[i]? = some (k0 + (i : Int), x) := by
  unfold enumS; rw [List.getElem?_map, enumL_get h]; rfl
end
/-! ### loops in which own objects are changed -/
section
variable {K : PySem.W.Frag} {Mc M : List Addr} {He H : Hp} {is : Ims} {ms : Mus} {σ : L2.St} {tl te ta tk : TE} {tu tz : TS} {g : TG} {D : Ends} {α : Type} [DecidableEq α] [Dx α]
theorem zq_forW {xs : List α} (s : Sg K Mc He H is ms) (h : Hv K (muA ms ++ Mc) tl σ H xs) (Pv : V → Nat → L2.St → Hp → Prop) (h0 : ∀ v H1, Sg K Mc He H1 ((v, Dx.toX xs) :: is) ms → Pv v 0 σ H1)
    (hl : ∀ v i σ' H', Pv v i σ' H' → ∃ M, Dt K (msk M H') v xs)
    (hs : ∀ v i x w σ' H', xs[i]? = some x → Pv v i σ' H' → (∀ M, Dt K (msk M H') v xs → Dt K (msk M H') w x) → g w σ' H' fun σ2 H2 => tu { D with nx := Pv v (i + 1), ct := Pv v (i + 1), bk := tz D } σ2 H2)
    (hd : ∀ v σ' H', Pv v xs.length σ' H' → tz D σ' H') : tSeq (tFor (iList K tl) g tu) tz D σ H :=
  h H (Ex.refl H) s.mok _ fun v H1 e d => by
    obtain ⟨a, vs, rfl, s1, ds⟩ := d.list
    refine ⟨a, rfl, ⟨vs, ex_l msk_le s1⟩, fun i m σ' H' => m = xs.length - i ∧ i ≤ xs.length ∧ Pv (.ref a) i σ' H', ⟨xs.length, by simp, Nat.zero_le _, h0 _ H1 ((s.ex e).put d)⟩, ?_⟩
    rintro i m σ' H' ⟨rfl, hi, p⟩
    obtain ⟨M', dd⟩ := hl _ i σ' H' p
    obtain ⟨a', us, e', q1, du⟩ := dd.list
    cases e'
    have q : SqL K H' a us := ex_l msk_le q1
    have el := du.len
    by_cases hlt : i < xs.length
    · refine .inr ⟨⟨us, us[i]'(by omega), q, by simp [show i < us.length by omega]⟩, Pv (.ref a) (i + 1), fun σ2 H2 p' => ⟨xs.length - (i + 1), by omega, rfl, hlt, p'⟩, fun x H2 y => ?_⟩
      obtain ⟨rfl, f2⟩ := y
      have gx : xs[i]? = some xs[i] := by simp [hlt]
      refine hs _ i _ x σ' _ gx p fun M2 d2 => ?_
      obtain ⟨a2, us2, e2, q2, du2⟩ := d2.list
      cases e2
      obtain ⟨w, w1, w2⟩ := du2.at gx
      have : x = w := Option.some.inj ((f2 us2 (ex_l msk_le q2)).symm.trans w1)
      subst this
      exact w2
    · have e : i = xs.length := by omega
      subst e
      exact .inl ⟨⟨us, q, by omega⟩, hd _ σ' H' p⟩
theorem zq_forSW {xs : List α} {k0 : Int} (s : Sg K Mc He H is ms) (h : Hv K (muA ms ++ Mc) tl σ H xs) (hk : Hv K (muA ms ++ Mc) tk σ H k0) (hb : -100000 ≤ k0 ∧ k0 ≤ 100000) (Pv : V → Nat → L2.St → Hp → Prop) (h0 : ∀ v H1, Sg K Mc He H1 ((v, Dx.toX xs) :: is) ms → Pv v 0 σ H1)
    (hl : ∀ v i σ' H', Pv v i σ' H' → ∃ M, Dt K (msk M H') v xs)
    (hs : ∀ v i x w σ' H' H'', (enumS k0 xs)[i]? = some x → Pv v i σ' H' → Ex H' H'' → (∀ M, MOk M H' → Dt K (msk M H') v xs → Dt K (msk M H'') w x) → g w σ' H'' fun σ2 H2 => tu { D with nx := Pv v (i + 1), ct := Pv v (i + 1), bk := tz D } σ2 H2)
    (hd : ∀ v σ' H', Pv v (enumS k0 xs).length σ' H' → tz D σ' H') : tSeq (tFor (iEnumS K (tCons tl tNil) (tCons tk tNil)) g tu) tz D σ H :=
  h H (Ex.refl H) s.mok _ fun v H0 e0 d0 => hk H0 e0 (s.mok.ex e0) _ fun kv H1 e1 dk => by
    have d := Dt.mono (msk_ex e1) d0
    obtain ⟨a, vs, rfl, s1, ds⟩ := d.list
    have s2 := (s.ex e0).ex e1
    refine ⟨a, vs, k0, rfl, by rw [dk.int], ex_l msk_le s1, by omega, by omega, fun i m σ' H' => m = xs.length - i ∧ i ≤ xs.length ∧ Pv (.ref a) i σ' H', ⟨xs.length, by simp, Nat.zero_le _, h0 _ H1 (s2.put d)⟩, ?_⟩
    rintro i m σ' H' ⟨rfl, hi, p⟩
    obtain ⟨M', dd⟩ := hl _ i σ' H' p
    obtain ⟨a', us, e', q1, du⟩ := dd.list
    cases e'
    have q : SqL K H' a us := ex_l msk_le q1
    have el := du.len
    by_cases hlt : i < xs.length
    · refine .inr ⟨⟨us, us[i]'(by omega), q, by simp [show i < us.length by omega]⟩, Pv (.ref a) (i + 1), fun σ2 H2 p' => ⟨xs.length - (i + 1), by omega, rfl, hlt, p'⟩, fun x H2 y => ?_⟩
      obtain ⟨T, x1, rfl, nT, rfl, f2⟩ := y
      have gx : xs[i]? = some xs[i] := by simp [hlt]
      have eT : Ex H' (upd H' T (.tup [.int (k0 + (i : Int)), x1])) := Ex.new nT
      refine hs _ i (k0 + (i : Int), xs[i]) (.ref T) σ' H' _ (enumS_get gx) p eT fun M2 mk d2 => ?_
      have nTD : T ∉ M2 := fun z => (mk T z) nT
      have dm : Dt K (msk M2 (upd H' T (.tup [.int (k0 + (i : Int)), x1]))) x1 xs[i] := by
        obtain ⟨a2, us2, e2, q2, du2⟩ := d2.list
        cases e2
        obtain ⟨w, w1, w2⟩ := (Dts.mono (msk_ex eT) du2).at gx
        have : x1 = w := Option.some.inj ((f2 us2 (ex_l msk_le q2)).symm.trans w1)
        subst this; exact w2
      exact Dt.ofPair (SqT.of (by rw [msk_out nTD]; exact upd_same)) (Dt.ofInt _) dm
    · have e : i = xs.length := by omega
      subst e
      exact .inl ⟨⟨us, q, by omega⟩, hd _ σ' H' (by rw [enumS_len]; exact p)⟩
end
/-! ### an own dict as a field of an object that is made; ends -/
section
variable {K : PySem.W.Frag} {Mc M : List Addr} {He H : Hp} {is : Ims} {ms om : Mus} {σ : L2.St} {te ta td tk : TE} {tz tq : TS} {g : TG} {D : Ends} {α β κ ω : Type} [DecidableEq α] [Dx α] [DecidableEq β] [Dx β] [DecidableEq κ] [Dx κ] [Ky κ]
theorem z_fldP (κ β : Type) [DecidableEq κ] [Dx κ] [Ky κ] [DecidableEq β] [Dx β] {k : Nat} {l C dx : Addr} {nds : List (Str × Xd)} {f cn : Str} (s : Sg K Mc He H is ms) (e : ms[k]? = some (l, .ins C dx nds)) (t : Ct K cn C) (na : NoAttr K C f) (ho : Ev ta σ H (.ref l)) (hz : nds.length < 1000) (hn : f ∉ nds.map (·.1))
    (q : ∀ p H1, Sg K Mc He H1 is ((p, (Dc.mk [] : Dc κ β).m) :: ms.set k (l, .ins C dx (nds ++ [(f, Xd.ptr p)]))) → tz D σ H1) : tSeq (sFld K ta tDNewK f) tz D σ H := fun p hp => by
  have s1 := s.new (p := p) (m := (Dc.mk [] : Dc κ β).m) hp (dic_ok .nil)
  refine ho _ (Ex.new hp) _ fun H2 e2 => ?_
  have s2 := s1.ex e2
  obtain ⟨fs, h1, h2, h3⟩ := s2.ins (k := k + 1) (l := l) (C := C) (dx := dx) (nds := nds) e
  refine ⟨l, C, dx, fs, rfl, h1, t.cl, na, ?_, ?_⟩
  · have : (fs.map (·.1)).length = (nds.map (·.1)).length := by rw [h2]
    rw [List.length_map, List.length_map] at this
    omega
  · rw [putF_new (by rw [h2]; exact hn)]
    refine q p _ (s2.set (k := k + 1) (m' := .ins C dx (nds ++ [(f, Xd.ptr p)])) e ⟨_, rfl, ?_, ?_⟩)
    · rw [List.map_append, List.map_append, h2]; rfl
    · rw [List.map_append, List.map_append]
      exact dpa_app h3 (.cons (.ptr p) .nil)
theorem zq_retS {x : α} (s : Sg K Mc He H is ms) (h : Hv K (muA ms ++ Mc) te σ H x) (k : ∀ v H1, Sg K Mc He H1 ((v, Dx.toX x) :: is) ms → D.rt v H1) : tSeq (tRet te) tz D σ H :=
  h H (Ex.refl H) s.mok _ fun v H1 e d => k v H1 ((s.ex e).put d)
/-! ### all items of the lists in an own dict -/
theorem upd_upd {H : Hp} {a : Addr} {o u : HO} : upd (upd H a o) a u = upd H a u := by
  funext b
  by_cases q : b = a
  · subst q; rw [upd_same, upd_same]
  · rw [upd_ne q, upd_ne q, upd_ne q]
theorem get_ofnd : ∀ {l : List (κ × β)} {i : Nat} {k : κ} {x : β}, (l.map (·.1)).Nodup → l[i]? = some (k, x) → Dc.get ⟨l⟩ k = some x
  | [], _, _, _, _, h => by simp at h
  | p :: l, 0, k, x, _, h => by
    simp at h
    subst h
    simp [Dc.get]
  | p :: l, i + 1, k, x, nd, h => by
    have nd' := List.nodup_cons.mp (show (p.1 :: l.map (·.1)).Nodup from nd)
    have h' : l[i]? = some (k, x) := by simpa using h
    have ne : p.1 ≠ k := fun z => nd'.1 (z ▸ List.mem_map.mpr ⟨(k, x), List.mem_of_getElem? h', rfl⟩)
    have := get_ofnd nd'.2 h'
    simpa [Dc.get, ne] using this
theorem flat_snoc {xss : List (List β)} {i : Nat} {xs : List β} (h : xss[i]? = some xs) : (xss.take (i + 1)).flatten = (xss.take i).flatten ++ xs := by
  rw [take_snoc h, List.flatten_append]; simp
theorem hv_flatO {R : Rep ω} {C p : Addr} {f cn : Str} {gd : ω → Dc κ (List β)} {st : ω → Dc κ (List β) → ω} {o : ω} {i0 jt jm : Nat} {vs vs1 : List Nat} (rd : RN R C f gd st) (w : Own K M H om) (hsub : ∀ a ∈ muA om, a ∈ M) (r : R o p om) (t : Ct K cn C) (na : NoAttr K C f)
    (h1 : σ[i0]? = some (some (.ref p))) (h2 : ∀ y, ((wipe σ vs).set jt y)[i0]? = some (some (.ref p))) (h3 : ∀ y, wipe ((wipe σ vs).set jt y) vs = wipe σ vs) (h4 : ∀ y z, wipe ((wipe ((wipe σ vs).set jt y) vs1).set jm z) vs1 = wipe ((wipe σ vs).set jt y) vs1)
    (h5 : ∀ y, ((wipe σ vs).set jt y)[jt]? = some y) (h6 : ∀ y z, ((wipe ((wipe σ vs).set jt y) vs1).set jm z)[jm]? = some z) (hz : (((gd o).kvs.map (·.2)).flatten).length ≤ 100000) :
    Hv K M (tLockE (tLc2 (iKeys (tFld K (tVar i0) f)) (gName jt) tYes (iList K (tDGet (tFld K (tVar i0) f) (tVar jt))) (gName jm) tYes (tVar jm) vs vs1)) σ H (((gd o).kvs.map (·.2)).flatten) := fun H1 e1 m Q q => by
  obtain ⟨dx, nds, a, dp, rest, g1, g2, g3, ek, nd, pm, _⟩ := rd o p om r
  have ma : (a, dp.m) ∈ om := pm.mem_iff.mpr (List.mem_append_left _ List.mem_cons_self)
  have mp : (p, Mv.ins C dx nds) ∈ om := pm.mem_iff.mpr (List.mem_append_right _ g1)
  obtain ⟨kvs, k1, k2⟩ := own_dic (d := dp) w ma e1
  obtain ⟨up, p1, fs, rfl, p3, p4⟩ := w H1 e1 _ mp
  have hap : p ≠ a := fun z => by rw [z] at p1; rw [k1] at p1; cases p1
  have aM : a ∈ M := hsub a (List.mem_map.mpr ⟨_, ma, rfl⟩)
  refine ⟨a, .dK kvs, k1, True.intro, fun od => ?_⟩
  generalize hHL : upd H1 a (.frz od (.dK kvs)) = HL
  have HLa : HL a = some (.frz od (.dK kvs)) := by rw [← hHL]; exact upd_same
  have HLb : ∀ {b o}, b ≠ a → H1 b = some o → HL b = some o := fun {b o} n h => by rw [← hHL, upd_ne n]; exact h
  have mskL : msk M HL = msk M H1 := by rw [← hHL]; exact msk_upd aM
  have mL : MOk M HL := fun l hl z => by
    by_cases q1 : l = a
    · rw [q1, HLa] at z; cases z
    · rw [← hHL, upd_ne q1] at z; exact m l hl z
  -- the field, read in any heap behind
  have hfld : ∀ (σ2 : L2.St) (H2 : Hp), σ2[i0]? = some (some (.ref p)) → Ex HL H2 → ∀ Q2 : VK, Q2 (.ref a) H2 → tFld K (tVar i0) f σ2 H2 Q2 := fun σ2 H2 hσ e2 Q2 q2 => by
    obtain ⟨i, hi⟩ := List.getElem?_of_mem g3
    obtain ⟨v, hv, hx⟩ := lookup_at (i := i) (f := f) (d := Xd.ptr a) (by rw [p3]; exact g2) p4 (by rw [p3, List.getElem?_map, hi]; rfl) (by rw [List.getElem?_map, hi]; rfl)
    cases hx
    exact ⟨_, hσ, p, C, dx, fs, _, rfl, e2 _ _ (HLb hap p1), t.cl, na, hv, q2⟩
  unfold tLc2 iKeys
  refine hfld σ HL h1 (Ex.refl _) _ ?_
  refine ⟨a, od, rfl, .inl ⟨kvs, HLa, fun D hD => ?_⟩⟩
  have hDM : D ∉ M := fun z => mL D z hD
  have hDa : a ≠ D := fun z => by rw [z, hD] at HLa; cases HLa
  generalize hL : (gd o).kvs.map (·.2) = L at hz
  have lenk : kvs.length = L.length := by
    rw [← hL, List.length_map, k2.len]
    simpa using congrArg List.length ek
  -- what stands at a turn's beginning
  refine ⟨fun i m H' => m = L.length - i ∧ i ≤ L.length ∧ Ex HL H' ∧ ∃ acc, H' D = some (.lst acc) ∧ Dts K (msk (D :: M) H') acc (L.take i).flatten, ⟨L.length, by simp, Nat.zero_le _, Ex.new hD, [], upd_same, by simpa using Dts.nil⟩, ?_⟩
  rintro i m' H' ⟨rfl, hi, eH, acc, hacc, dacc⟩
  by_cases hlt : i < L.length
  · refine .inr ⟨⟨eH _ _ HLa, by omega⟩, fun H' => (i + 1) ≤ L.length ∧ Ex HL H' ∧ ∃ acc, H' D = some (.lst acc) ∧ Dts K (msk (D :: M) H') acc (L.take (i + 1)).flatten, fun H3 p3 => ⟨L.length - (i + 1), by omega, rfl, p3.1, p3.2⟩, fun x H2 y => ?_⟩
    obtain ⟨rfl, k, v, hkv, rfl⟩ := y
    have hxs : L[i]? = some L[i] := by simp [hlt]
    have hkx : ∃ kx, (gd o).kvs[i]? = some (kx, L[i]) ∧ Ky.toK kx = k := by
      have h7 : ((gd o).kvs.map (·.2))[i]? = some L[i] := by rw [hL]; exact hxs
      rw [List.getElem?_map] at h7
      obtain ⟨pr, hpr, hpr2⟩ := Option.map_eq_some_iff.mp h7
      refine ⟨pr.1, by rw [hpr, ← hpr2], ?_⟩
      have h8 := congrArg (fun l => l[i]?) k2.keys
      have h9 : (dp.kvs.map (·.1))[i]? = some pr.1 := by rw [ek, List.getElem?_map, hpr]; rfl
      rw [List.getElem?_map] at h9
      obtain ⟨pd, hpd, hpd2⟩ := Option.map_eq_some_iff.mp h9
      simp only [List.getElem?_map, hkv, hpd, Option.map_some, Option.some.injEq] at h8
      rw [h8, hpd2]
    obtain ⟨kx, hkx, rfl⟩ := hkx
    have hget : (gd o).get kx = some L[i] := get_ofnd nd hkx
    obtain ⟨l, rest2, f1, f2, _⟩ := nest_app ek nd hget
    have ml : (l, Mv.lst (L[i].map Dx.toX)) ∈ om := pm.mem_iff.mpr (List.mem_append_left _ (List.mem_cons_of_mem _ (f2.mem_iff.mpr List.mem_cons_self)))
    obtain ⟨ol, l1, us, rfl, l2⟩ := w H1 e1 _ ml
    have hla : l ≠ a := fun z => by rw [z] at l1; rw [k1] at l1; cases l1
    show wipe ((wipe σ vs).set jt (some (kV (Ky.toK kx)))) vs = wipe σ vs ∧ _
    refine ⟨h3 _, ?_⟩
    simp only [tYes, if_true]
    unfold iList tDGet
    refine hfld _ _ (h2 _) eH _ ?_
    rcases k2.get kx with ⟨v', z, n1, n2, n3⟩ | ⟨_, n2⟩
    · rw [show Dc.get ⟨dp.kvs⟩ kx = some ⟨l⟩ from f1] at n2
      cases n2
      cases (show Xp K _ v' (.ptr l) from n3)
      refine ⟨_, h5 _, a, .ref l, rfl, .inl ⟨kvs, Ky.toK kx, .inr ⟨od, eH _ _ HLa⟩, rfl, n1.symm⟩, ?_⟩
      have sl : H2 l = some (.lst us) := eH _ _ (HLb hla l1)
      refine ⟨l, rfl, ⟨us, SqL.of sl⟩, fun j n H' => n = L[i].length - j ∧ j ≤ L[i].length ∧ Ex HL H' ∧ ∃ acc, H' D = some (.lst acc) ∧ Dts K (msk (D :: M) H') acc ((L.take i).flatten ++ L[i].take j), ⟨L[i].length, by simp, Nat.zero_le _, eH, acc, hacc, by simpa using dacc⟩, ?_⟩
      rintro j n H3 ⟨rfl, hj, eH3, acc3, hacc3, dacc3⟩
      have dl : Dts K (msk (D :: M) H3) us L[i] := by
        have : Dts K (msk M H1) us L[i] := l2
        rw [← mskL] at this
        exact this.mono (msk_newD eH3 hD)
      have sl3 : H3 l = some (.lst us) := eH3 _ _ (HLb hla l1)
      have hus : us.length = L[i].length := dl.len
      have bound : ((L.take i).flatten ++ L[i].take j).length ≤ 100000 := by
        have b1 : ((L.take (i + 1)).flatten).length ≤ (L.flatten).length := by
          conv => rhs; rw [← List.take_append_drop (i + 1) L, List.flatten_append, List.length_append]
          omega
        rw [flat_snoc hxs, List.length_append] at b1
        rw [List.length_append, List.length_take]
        omega
      by_cases hjl : j < L[i].length
      · refine .inr ⟨⟨us, us[j]'(by omega), SqL.of sl3, by simp [show j < us.length by omega]⟩, fun H' => (j + 1) ≤ L[i].length ∧ Ex HL H' ∧ ∃ acc, H' D = some (.lst acc) ∧ Dts K (msk (D :: M) H') acc ((L.take i).flatten ++ L[i].take (j + 1)), fun H4 p4 => ⟨L[i].length - (j + 1), by omega, rfl, p4.1, p4.2⟩, fun x H4 y => ?_⟩
        obtain ⟨rfl, y2⟩ := y
        have gx : L[i][j]? = some L[i][j] := by simp [hjl]
        obtain ⟨wv, w1, w2⟩ := dl.at gx
        have : x = wv := Option.some.inj ((y2 us (SqL.of sl3)).symm.trans w1)
        subst this
        refine ⟨h4 _ _, ?_⟩
        have bnd : ((L.take i).flatten).length + L[i].length ≤ 100000 := by
          have b1 : ((L.take (i + 1)).flatten).length ≤ (L.flatten).length := by
            conv => rhs; rw [← List.take_append_drop (i + 1) L, List.flatten_append, List.length_append]
            omega
          rw [flat_snoc hxs, List.length_append] at b1
          omega
        refine ⟨x, h6 _ _, acc3, hacc3, sz_lt (by rw [dacc3.len, List.length_append, List.length_take]; omega), hjl, Ex.mut eH3 hD, _, upd_same, ?_⟩
        have e5 : L[i].take (j + 1) = L[i].take j ++ [L[i][j]] := take_snoc gx
        rw [e5, ← List.append_assoc]
        have cg : msk (D :: M) (upd H4 D (.lst (acc3 ++ [x]))) = msk (D :: M) H4 := msk_upd List.mem_cons_self
        rw [cg]
        exact dacc3.snoc w2
      · have ej : j = L[i].length := by omega
        subst ej
        refine .inl ⟨⟨us, SqL.of sl3, by omega⟩, hlt, eH3, acc3, hacc3, ?_⟩
        rw [flat_snoc hxs]
        rwa [List.take_length] at dacc3
    · rw [show Dc.get ⟨dp.kvs⟩ kx = some ⟨l⟩ from f1] at n2; cases n2
  · have ei : i = L.length := by omega
    subst ei
    rw [List.take_length] at dacc
    refine .inl ⟨⟨eH _ _ HLa, by omega⟩, eH _ _ HLa, ?_⟩
    have cg : msk M (upd H' a (.dK kvs)) = msk M H' := msk_upd aM
    have hD1 : H1 D = none := by rw [← hHL, upd_ne (Ne.symm hDa)] at hD; exact hD
    refine q _ _ (fun b ob hb => ?_) ?_
    · by_cases qb : b = a
      · subst qb; rw [upd_same]; rw [k1] at hb; exact hb
      · rw [upd_ne qb]; exact eH _ _ (HLb qb hb)
    · rw [cg, hL]
      exact Dt.ofList (SqL.of (by rw [msk_out hDM]; exact hacc)) (dacc.mono (msk_sub fun b hb => List.mem_cons_of_mem _ hb))
theorem z_forRR {tu : TS} {j : Nat} {n : Int} (s : Sg K Mc He H is ms) (h : Hv K (muA ms ++ Mc) te σ H n) (hn : 0 ≤ n ∧ n ≤ 100000) (Pv : Nat → L2.St → Hp → Prop) (h0 : ∀ H1, Sg K Mc He H1 is ms → Pv 0 σ H1)
    (hs : ∀ (i : Nat) (x : Int) σ' H', x = n - 1 - ((0 : Int) + (i : Int)) → i < n.toNat → Pv i σ' H' → tu { D with nx := Pv (i + 1), ct := Pv (i + 1), bk := D.nx } (σ'.set j (some (.int x))) H') (hd : ∀ σ' H', Pv n.toNat σ' H' → D.nx σ' H') : tFor (iRevR (tRg1 te)) (gName j) tu D σ H :=
  zq_forRR (tz := fun _ => D.nx) (D := D) s h hn Pv h0 hs hd
theorem ob_p1 {α : Type} (x : α) (a : List α) : (x :: a).Perm (a ++ [x]) := List.perm_append_comm (l₁ := [x])
theorem ob_p20 {α : Type} (x : α) (a b : List α) : (x :: (a ++ b)).Perm (a ++ (x :: b)) := List.perm_middle.symm
theorem ob_p21 {α : Type} (x : α) (a b : List α) : (x :: (a ++ b)).Perm (b ++ (x :: a)) := (List.Perm.cons _ List.perm_append_comm).trans List.perm_middle.symm
theorem ob_p30 {α : Type} (x : α) (a b c : List α) : (x :: (a ++ (b ++ c))).Perm (a ++ (x :: (b ++ c))) := List.perm_middle.symm
theorem ob_p31 {α : Type} (x : α) (a b c : List α) : (x :: (a ++ (b ++ c))).Perm (b ++ (x :: (a ++ c))) := by
  refine (List.Perm.cons _ ?_).trans List.perm_middle.symm
  rw [← List.append_assoc, ← List.append_assoc]
  exact List.perm_append_comm.append_right _
theorem ob_p32 {α : Type} (x : α) (a b c : List α) : (x :: (a ++ (b ++ c))).Perm (c ++ (x :: (a ++ b))) := by
  refine (List.Perm.cons _ ?_).trans List.perm_middle.symm
  rw [← List.append_assoc]
  exact List.perm_append_comm
theorem hf_slice {xs : List α} {lo hi : Option Int} {tlo thi : TO} (h : HS K M te σ H xs) (h1 : HO' M tlo σ H lo) (h2 : HO' M thi σ H hi) : HF K M (L2.tSl (rSlL K) te tlo thi) σ H (cutL xs lo hi) := fun H1 e m Q q =>
  h H1 e m _ fun a vs H2 e2 s d => h1 H2 (e.trans e2) (m.ex e2) _ fun H3 e3 => h2 H3 ((e.trans e2).trans e3) ((m.ex e2).ex e3) _ fun H4 e4 =>
    ⟨a, vs, rfl, ex_l (e3.trans e4) s, fun p hp => by
      have e5 : Ex H4 (upd H4 p (.lst (cutV vs lo hi))) := Ex.new hp
      exact q p _ _ (fresh_back ((e2.trans e3).trans e4) hp) (((e2.trans e3).trans e4).trans e5) upd_same ((Dts.mono (msk_new hp) (d.mono (msk_ex (e3.trans e4)))).cut)⟩
end
end Ly

namespace Ly
open PySem PySem.Spec PyProof.Rows L2 Evl
open PySem.W (Datum DatumOrd Tup T3 T4 SomeDatum)
/-! ### tuples of five -/
structure T5 (α β γ δ ε : Type) where
  a : α
  b : β
  c : γ
  d : δ
  e : ε
  deriving DecidableEq
theorem T5.same {α β γ δ ε : Type} : ∀ {p q : T5 α β γ δ ε}, p.a = q.a → p.b = q.b → p.c = q.c → p.d = q.d → p.e = q.e → p = q
  | ⟨_, _, _, _, _⟩, ⟨_, _, _, _, _⟩, rfl, rfl, rfl, rfl, rfl => rfl
section
variable {α β γ δ ε : Type} [DecidableEq α] [DecidableEq β] [DecidableEq γ] [DecidableEq δ] [DecidableEq ε]
instance [Datum α] [Datum β] [Datum γ] [Datum δ] [Datum ε] : Datum (T5 α β γ δ ε) where
  toD p := .tuple [Datum.toD p.a, Datum.toD p.b, Datum.toD p.c, Datum.toD p.d, Datum.toD p.e]
  plain p := by simp only [PyData.plain, PyData.plainAll, Datum.plain, Bool.and_self]
  eqv p q := by
    simp only [PyData.eqv, PyData.eqvAll]
    rw [Datum.eqv, Datum.eqv, Datum.eqv, Datum.eqv, Datum.eqv, Bool.and_true, ← Bool.decide_and, ← Bool.decide_and, ← Bool.decide_and, ← Bool.decide_and]
    exact decide_eq_decide.mpr ⟨fun e => T5.same e.1 e.2.1 e.2.2.1 e.2.2.2.1 e.2.2.2.2, fun e => by rw [e]; exact ⟨rfl, rfl, rfl, rfl, rfl⟩⟩
  depth := max (max (max (max (Datum.depth α) (Datum.depth β)) (Datum.depth γ)) (Datum.depth δ)) (Datum.depth ε) + 1
  depth_le p := by
    simp only [PyData.depth, PyData.depthAll]
    have h0 := Datum.depth_le p.a
    have h1 := Datum.depth_le p.b
    have h2 := Datum.depth_le p.c
    have h3 := Datum.depth_le p.d
    have h4 := Datum.depth_le p.e
    omega
variable [Dx α] [Dx β] [Dx γ] [Dx δ] [Dx ε]
instance : Dx (T5 α β γ δ ε) := ⟨fun p => .tuple [Dx.toX p.a, Dx.toX p.b, Dx.toX p.c, Dx.toX p.d, Dx.toX p.e]⟩
instance : SomeX (T5 α β γ δ ε) := ⟨fun _ e => by cases e⟩
instance [Datum α] [DxD α] [Datum β] [DxD β] [Datum γ] [DxD γ] [Datum δ] [DxD δ] [Datum ε] [DxD ε] : DxD (T5 α β γ δ ε) := ⟨fun h => by
  cases h with
  | tup s a =>
    cases a with
    | cons a1 a =>
      cases a with
      | cons a2 a =>
        cases a with
        | cons a3 a =>
          cases a with
          | cons a4 a =>
            cases a with
            | cons a5 a =>
              cases a
              exact .tup s (.cons (DxD.link a1) (.cons (DxD.link a2) (.cons (DxD.link a3) (.cons (DxD.link a4) (.cons (DxD.link a5) .nil)))))⟩
instance [Datum α] [SomeDatum α] [DxD α] : DxD (Option α) := ⟨fun {K H v x} h => by
  cases x with
  | none => cases (show Xp K H v .none from h); exact .non
  | some y => exact DxD.link (x := y) h⟩
variable {K : PySem.W.Frag} {M : List Addr} {H : Hp} {v : V} {σ : L2.St} {ta tb tc td te : TE}
theorem Dt.t5 {p : T5 α β γ δ ε} (h : Dt K H v p) : ∃ l a b c d e, v = .ref l ∧ SqT K H l [a, b, c, d, e] ∧ Dt K H a p.a ∧ Dt K H b p.b ∧ Dt K H c p.c ∧ Dt K H d p.d ∧ Dt K H e p.e := by
  cases (show Xp K H v (.tuple [_, _, _, _, _]) from h) with
  | tup s b =>
    cases b with
    | cons b1 b =>
      cases b with
      | cons b2 b =>
        cases b with
        | cons b3 b =>
          cases b with
          | cons b4 b =>
            cases b with
            | cons b5 b =>
              cases b
              exact ⟨_, _, _, _, _, _, rfl, s, b1, b2, b3, b4, b5⟩
theorem Dt.ofT5 {l : Addr} {a b c d e : V} {x : α} {y : β} {z : γ} {u : δ} {w : ε} (s : SqT K H l [a, b, c, d, e]) (ha : Dt K H a x) (hb : Dt K H b y) (hc : Dt K H c z) (hd : Dt K H d u) (he : Dt K H e w) : Dt K H (.ref l) (T5.mk x y z u w) := Xp.tup s (.cons ha (.cons hb (.cons hc (.cons hd (.cons he .nil)))))
instance : TyNm (T5 α β γ δ ε) := ⟨"tuple", fun d => by obtain ⟨l, a, b, c, d, e, rfl, s, _⟩ := d.t5; exact tyx_T s⟩
theorem hv_tup5 {x : α} {y : β} {z : γ} {w : δ} {u : ε} (ha : Hv K M ta σ H x) (hb : Hv K M tb σ H y) (hc : Hv K M tc σ H z) (hd : Hv K M td σ H w) (he : Hv K M te σ H u) : Hv K M (tTup (tCons ta (tCons tb (tCons tc (tCons td (tCons te tNil)))))) σ H (T5.mk x y z w u) := fun H1 e m Q q =>
  ha H1 e m _ fun v H2 e2 d => hb H2 (e.trans e2) (m.ex e2) _ fun u H3 e3 d' => hc H3 ((e.trans e2).trans e3) ((m.ex e2).ex e3) _ fun w H4 e4 d'' => hd H4 (((e.trans e2).trans e3).trans e4) (((m.ex e2).ex e3).ex e4) _ fun r H5 e5 d3 => he H5 ((((e.trans e2).trans e3).trans e4).trans e5) ((((m.ex e2).ex e3).ex e4).ex e5) _ fun r2 H6 e6 d4 => ⟨sz_of (by show 5 ≤ 100000; decide), fun p hp => by
    have m4 : MOk M H6 := m.ex ((((e2.trans e3).trans e4).trans e5).trans e6)
    have e7 : Ex H6 (upd H6 p (.tup [v, u, w, r, r2])) := Ex.new hp
    exact q _ _ (((((e2.trans e3).trans e4).trans e5).trans e6).trans e7) (Dt.ofT5 (SqT.of (msk_at m4 hp)) (d.mono (msk_ex ((((e3.trans e4).trans e5).trans e6).trans e7))) (d'.mono (msk_ex (((e4.trans e5).trans e6).trans e7))) (d''.mono (msk_ex ((e5.trans e6).trans e7))) (d3.mono (msk_ex (e6.trans e7))) (d4.mono (msk_ex e7)))⟩
theorem hv_t50 {p : T5 α β γ δ ε} (ha : Hv K M ta σ H p) : Hv K M (tOp (rIxT K) ta (tC (.int 0))) σ H p.a := fun H1 e m Q q =>
  ha H1 e m _ fun v H2 e2 d => by
    obtain ⟨l, a, b, c, d', e', rfl, s, d1, d2, d3, d4, d5⟩ := d.t5
    exact ⟨l, [a, b, c, d', e'], 0, a, rfl, rfl, ex_t msk_le s, at_of (j := 0) rfl rfl, q a H2 e2 d1⟩
theorem hv_t51 {p : T5 α β γ δ ε} (ha : Hv K M ta σ H p) : Hv K M (tOp (rIxT K) ta (tC (.int 1))) σ H p.b := fun H1 e m Q q =>
  ha H1 e m _ fun v H2 e2 d => by
    obtain ⟨l, a, b, c, d', e', rfl, s, d1, d2, d3, d4, d5⟩ := d.t5
    exact ⟨l, [a, b, c, d', e'], 1, b, rfl, rfl, ex_t msk_le s, at_of (j := 1) rfl rfl, q b H2 e2 d2⟩
theorem hv_t52 {p : T5 α β γ δ ε} (ha : Hv K M ta σ H p) : Hv K M (tOp (rIxT K) ta (tC (.int 2))) σ H p.c := fun H1 e m Q q =>
  ha H1 e m _ fun v H2 e2 d => by
    obtain ⟨l, a, b, c, d', e', rfl, s, d1, d2, d3, d4, d5⟩ := d.t5
    exact ⟨l, [a, b, c, d', e'], 2, c, rfl, rfl, ex_t msk_le s, at_of (j := 2) rfl rfl, q c H2 e2 d3⟩
theorem hv_t53 {p : T5 α β γ δ ε} (ha : Hv K M ta σ H p) : Hv K M (tOp (rIxT K) ta (tC (.int 3))) σ H p.d := fun H1 e m Q q =>
  ha H1 e m _ fun v H2 e2 d => by
    obtain ⟨l, a, b, c, d', e', rfl, s, d1, d2, d3, d4, d5⟩ := d.t5
    exact ⟨l, [a, b, c, d', e'], 3, d', rfl, rfl, ex_t msk_le s, at_of (j := 3) rfl rfl, q d' H2 e2 d4⟩
theorem hv_t54 {p : T5 α β γ δ ε} (ha : Hv K M ta σ H p) : Hv K M (tOp (rIxT K) ta (tC (.int 4))) σ H p.e := fun H1 e m Q q =>
  ha H1 e m _ fun v H2 e2 d => by
    obtain ⟨l, a, b, c, d', e', rfl, s, d1, d2, d3, d4, d5⟩ := d.t5
    exact ⟨l, [a, b, c, d', e'], 4, e', rfl, rfl, ex_t msk_le s, at_of (j := 4) rfl rfl, q e' H2 e2 d5⟩
end
end Ly

namespace Ly
open PySem PySem.Spec PyProof.Rows L2 Evl
open PySem.W (Datum DatumOrd Tup T3 T4)
/-! ### an own dict in a name, its keys tuples, its values own lists -/
section
variable {κ β : Type} [DecidableEq κ] [KyT κ] [DecidableEq β] [Dx β]
variable {K : PySem.W.Frag} {Mc M : List Addr} {He H H1 H2 : Hp} {is js : Ims} {ms ms0 om : Mus} {σ : L2.St} {te td tk : TE} {tr : TA} {D : Ends} {tq : TS}
def nestT (a : Addr) (dp : Dk κ Pt) (d : Dk κ (List β)) : Mus := (a, dp.m) :: nestM (dp.kvs.map (·.2.a)) (d.kvs.map (·.2))
def RT (d : Dk κ (List β)) (p : Addr) (om : Mus) : Prop := ∃ dp : Dk κ Pt, dp.kvs.map (·.1) = d.kvs.map (·.1) ∧ (d.kvs.map (·.1)).Nodup ∧ om = nestT p dp d
theorem nest_appT {x : κ} {xs : List β} : ∀ {l1 : List (κ × Pt)} {l2 : List (κ × List β)}, l1.map (·.1) = l2.map (·.1) → (l2.map (·.1)).Nodup → Dk.get ⟨l2⟩ x = some xs → ∃ l rest, Dk.get ⟨l1⟩ x = some ⟨l⟩ ∧ (nestM (l1.map (·.2.a)) (l2.map (·.2))).Perm ((l, .lst (xs.map Dx.toX)) :: rest) ∧
    ∀ ys : List β, (nestM (l1.map (·.2.a)) ((l2.map fun p => if p.1 = x then (p.1, ys) else p).map (·.2))).Perm ((l, .lst (ys.map Dx.toX)) :: rest)
  | [], [], _, _, h => by cases h
  | [], _ :: _, h, _, _ => by cases h
  | _ :: _, [], h, _, _ => by cases h
  | (k1, b) :: l1, (k2, vs) :: l2, h, nd, hg => by
    have h' := List.cons.inj h
    have e1 : k1 = k2 := h'.1
    subst e1
    have nd' := List.nodup_cons.mp (show (k1 :: l2.map (·.1)).Nodup from nd)
    by_cases q : k1 = x
    · subst q
      have : vs = xs := by simpa [Dk.get] using hg
      subst this
      refine ⟨b.a, nestM (l1.map (·.2.a)) (l2.map (·.2)), by simp [Dk.get], .refl _, fun ys => ?_⟩
      have : (l2.map fun p => if p.1 = k1 then (p.1, ys) else p) = l2 := by
        conv => rhs; rw [← List.map_id l2]
        refine List.map_congr_left fun p hp => ?_
        rw [if_neg fun z => nd'.1 (List.mem_map.mpr ⟨p, hp, z⟩)]; rfl
      simp only [List.map_cons, if_true, this]
      exact .refl _
    · have hg' : Dk.get ⟨l2⟩ x = some xs := by simpa [Dk.get, q] using hg
      obtain ⟨l, rest, g1, g2, g3⟩ := nest_appT h'.2 nd'.2 hg'
      refine ⟨l, (b.a, .lst (vs.map Dx.toX)) :: rest, by simpa [Dk.get, q] using g1, ?_, fun ys => ?_⟩
      · exact (List.Perm.cons _ g2).trans (.swap ..)
      · simp only [List.map_cons, if_neg q]
        exact (List.Perm.cons _ (g3 ys)).trans (.swap ..)
omit [KyT κ] in
theorem any_keysT {τ ρ : Type} {x : κ} : ∀ {l1 : List (κ × τ)} {l2 : List (κ × ρ)}, l1.map (·.1) = l2.map (·.1) → (l1.any fun p => decide (p.1 = x)) = l2.any fun p => decide (p.1 = x)
  | [], [], _ => rfl
  | [], _ :: _, h => by cases h
  | _ :: _, [], h => by cases h
  | p :: l1, q :: l2, h => by
    have h' := List.cons.inj h
    rw [List.any_cons, List.any_cons, any_keysT h'.2]
    rw [show p.1 = q.1 from h'.1]
theorem putT_keys {τ : Type} [DecidableEq τ] [Dx τ] (d : Dk κ τ) (x : κ) (y : τ) : (d.put x y).kvs.map (·.1) = if (d.kvs.any fun p => decide (p.1 = x)) = true then d.kvs.map (·.1) else d.kvs.map (·.1) ++ [x] := by
  unfold Dk.put
  dsimp only
  split
  · rw [List.map_map]
    refine List.map_congr_left fun p _ => ?_
    show (if p.1 = x then (p.1, y) else p).1 = p.1
    split <;> rfl
  · rw [List.map_append]; rfl
theorem putT_nd {τ : Type} [DecidableEq τ] [Dx τ] {d : Dk κ τ} {x : κ} {y : τ} (h : (d.kvs.map (·.1)).Nodup) : ((d.put x y).kvs.map (·.1)).Nodup := by
  rw [putT_keys]
  split
  · exact h
  · rename_i n
    refine List.nodup_append.mpr ⟨h, by simp, fun a ha b hb e => n ?_⟩
    have : b = x := by simpa using hb
    subst this e
    obtain ⟨p, hp, e⟩ := List.mem_map.mp ha
    exact List.any_eq_true.mpr ⟨p, hp, by simpa using e⟩
theorem putT_eq {τ ρ : Type} [DecidableEq τ] [Dx τ] [DecidableEq ρ] [Dx ρ] {d1 : Dk κ τ} {d2 : Dk κ ρ} {x : κ} {y : τ} {z : ρ} (h : d1.kvs.map (·.1) = d2.kvs.map (·.1)) : (d1.put x y).kvs.map (·.1) = (d2.put x z).kvs.map (·.1) := by
  rw [putT_keys, putT_keys, any_keysT h, h]
theorem nest_repT {x : κ} {b : Addr} {ys : List β} : ∀ {l1 : List (κ × Pt)} {l2 : List (κ × List β)}, l1.map (·.1) = l2.map (·.1) → (l2.map (·.1)).Nodup → (l2.any fun p => decide (p.1 = x)) = true →
    ∃ e, ((b, Mv.lst (ys.map Dx.toX)) :: nestM (l1.map (·.2.a)) (l2.map (·.2))).Perm (e :: nestM ((l1.map fun p => if p.1 = x then (p.1, ⟨b⟩) else p).map (·.2.a)) ((l2.map fun p => if p.1 = x then (p.1, ys) else p).map (·.2)))
  | [], [], _, _, h => by cases h
  | [], _ :: _, h, _, _ => by cases h
  | _ :: _, [], h, _, _ => by cases h
  | (k1, c) :: l1, (k2, vs) :: l2, h, nd, ha => by
    have h' := List.cons.inj h
    have e1 : k1 = k2 := h'.1
    subst e1
    have nd' := List.nodup_cons.mp (show (k1 :: l2.map (·.1)).Nodup from nd)
    by_cases q : k1 = x
    · subst q
      refine ⟨(c.a, .lst (vs.map Dx.toX)), ?_⟩
      have r2 : (l2.map fun p => if p.1 = k1 then (p.1, ys) else p) = l2 := by
        conv => rhs; rw [← List.map_id l2]
        refine List.map_congr_left fun p hp => ?_
        rw [if_neg fun z => nd'.1 (List.mem_map.mpr ⟨p, hp, z⟩)]; rfl
      have r1 : (l1.map fun p => if p.1 = k1 then (p.1, (⟨b⟩ : Pt)) else p) = l1 := by
        conv => rhs; rw [← List.map_id l1]
        refine List.map_congr_left fun p hp => ?_
        rw [if_neg fun z => nd'.1 (by rw [← h'.2]; exact List.mem_map.mpr ⟨p, hp, z⟩)]; rfl
      simp only [List.map_cons, if_true, r1, r2]
      exact .swap ..
    · have ha' : (l2.any fun p => decide (p.1 = x)) = true := by simpa [q] using ha
      obtain ⟨e, pe⟩ := nest_repT (b := b) (ys := ys) h'.2 nd'.2 ha'
      refine ⟨e, ?_⟩
      simp only [List.map_cons, if_neg q]
      exact (List.Perm.swap ..).trans ((List.Perm.cons _ pe).trans (.swap ..))
theorem nest_putT {dp : Dk κ Pt} {d : Dk κ (List β)} {x : κ} {b : Addr} {ys : List β} (h : dp.kvs.map (·.1) = d.kvs.map (·.1)) (nd : (d.kvs.map (·.1)).Nodup) :
    ∃ junk : Mus, ((b, Mv.lst (ys.map Dx.toX)) :: nestM (dp.kvs.map (·.2.a)) (d.kvs.map (·.2))).Perm (junk ++ nestM ((dp.put x ⟨b⟩).kvs.map (·.2.a)) ((d.put x ys).kvs.map (·.2))) := by
  unfold Dk.put
  rw [any_keysT h]
  by_cases q : (d.kvs.any fun p => decide (p.1 = x)) = true
  · simp only [if_pos q]
    obtain ⟨e, pe⟩ := nest_repT (b := b) (ys := ys) h nd q
    exact ⟨[e], pe⟩
  · simp only [if_neg q]
    refine ⟨[], ?_⟩
    rw [List.nil_append, List.map_append, List.map_append]
    show List.Perm _ (nestM (_ ++ [b]) (_ ++ [ys]))
    rw [nestM_snoc (by rw [List.length_map, List.length_map]; simpa using congrArg List.length h)]
    exact List.perm_append_comm (l₁ := [_])
/-- x = {} -/
theorem z_newT (κ β : Type) [DecidableEq κ] [KyT κ] [DecidableEq β] [Dx β] {i : Nat} (s : Sg K Mc He H is ms) (k : ∀ y, y = (⟨[]⟩ : Dk κ (List β)) → ∀ p om H1, RT y p om → Sg K Mc He H1 is (ms ++ om) → tq D (σ.set i (some (.ref p))) H1) :
    tSeq (tAsg tDNewT (gName i)) tq D σ H := fun p hp => k ⟨[]⟩ rfl p _ _ ⟨⟨[]⟩, rfl, List.nodup_nil, rfl⟩ ((s.new hp (dicT_ok (d := (⟨[]⟩ : Dk κ Pt)) .nil)).perm (List.perm_append_comm (l₁ := [_])))
theorem RT.at {d : Dk κ (List β)} {p : Addr} {n : Nat} {dp : Dk κ Pt} (q : ms.drop n = nestT p dp d) : ms[n]? = some (p, dp.m) := by
  have : (ms.drop n)[0]? = some (p, dp.m) := by rw [q]; rfl
  rw [List.getElem?_drop] at this
  exact this
/-- x[k] = a new list -/
theorem z_dnewT {d : Dk κ (List β)} {p : Addr} {x : κ} {ys : List β} (s : Sg K Mc He H is ms) {n : Nat} (q : ms.drop n = om) (r : RT d p om) (ho : Ev td σ H (.ref p)) (hv : HF K (muA ms ++ Mc) te σ H ys) (hk : HK (muA ms ++ Mc) tr σ H x) (hl : (KyT.toK x).length ≤ 100000) (hz : d.kvs.length ≤ 100000)
    (k : ∀ d', d' = d.put x ys → ∀ om' H1, RT d' p om' → Sg K Mc He H1 is (ms.take n ++ om') → tq D σ H1) : tSeq (sDPut td (tTup tr) te) tq D σ H :=
  hv H (Ex.refl H) s.mok _ fun b vs H1 hb e1 hb1 db => ho H1 e1 _ fun H2 e2 => hk H2 (e1.trans e2) (s.mok.ex (e1.trans e2)) _ fun us H3 e3 dus => ⟨sz_of (by rw [dus, List.length_map]; exact hl), fun t ht => by
    have e4 : Ex H3 (upd H3 t (.tup us)) := Ex.new ht
    obtain ⟨dp, ek, nd, eo⟩ := r
    subst eo
    have s3 := (((s.newF hb e1 hb1 db).ex e2).ex e3).ex e4
    have em : ms = ms.take n ++ nestT p dp d := by rw [← q, List.take_append_drop]
    have p1 : ((b, Mv.lst (ys.map Dx.toX)) :: ms).Perm ((p, dp.m) :: (((b, Mv.lst (ys.map Dx.toX)) :: nestM (dp.kvs.map (·.2.a)) (d.kvs.map (·.2))) ++ ms.take n)) := by
      conv => lhs; rw [em]
      unfold nestT
      refine (List.Perm.cons _ (List.perm_middle.trans (.cons _ List.perm_append_comm))).trans ?_
      exact .swap ..
    have sP := s3.perm p1
    obtain ⟨kvs, h1, h2⟩ := sP.dicT (j := 0) (l := p) (d := dp) rfl
    have hl2 : kvs.length < sizeLine := by
      have hs : sizeLine = 16777216 := sizeLine_eq
      have : dp.kvs.length = d.kvs.length := by simpa using congrArg List.length ek
      rw [h2.len]; omega
    obtain ⟨junk, pj⟩ := nest_putT (x := x) (b := b) (ys := ys) ek nd
    have s5 := sP.set (k := 0) (m' := (dp.put x ⟨b⟩).m) rfl (dicT_ok (h2.put (k := x) (x := (⟨b⟩ : Pt)) (Xp.ptr b)))
    refine ⟨p, _, rfl, DPut.t h1 (k := KyT.toK x) (by rw [upd_same, dus]) hl2, k _ rfl (nestT p (dp.put x ⟨b⟩) (d.put x ys)) _ ⟨_, putT_eq ek, putT_nd nd, rfl⟩ (Sg.sub (ms0 := junk) (s5.perm ?_))⟩
    show List.Perm ((p, (dp.put x ⟨b⟩).m) :: (((b, Mv.lst (ys.map Dx.toX)) :: nestM (dp.kvs.map (·.2.a)) (d.kvs.map (·.2))) ++ ms.take n)) _
    refine (List.Perm.cons _ (pj.append_right _)).trans ?_
    unfold nestT
    refine List.Perm.trans ?_ (List.Perm.append_left junk List.perm_middle.symm)
    refine List.Perm.trans ?_ List.perm_middle.symm
    refine List.Perm.cons _ ?_
    rw [List.append_assoc]
    exact List.Perm.append_left _ List.perm_append_comm⟩
/-- x[k].append(e) -/
theorem zq_appT {d : Dk κ (List β)} {p : Addr} {x : κ} {xs : List β} {y : β} (s : Sg K Mc He H is ms) {n : Nat} (q : ms.drop n = om) (r : RT d p om) (ho : Ev td σ H (.ref p)) (hk : HK (muA ms ++ Mc) tr σ H x) (hv : Hv K (muA ms ++ Mc) te σ H y) (hl : (KyT.toK x).length ≤ 100000) (hg : d.get x = some xs) (hz : xs.length < 100000)
    (k : ∀ d', d' = d.put x (xs ++ [y]) → ∀ om' H1, RT d' p om' → Sg K Mc He H1 is (ms.take n ++ om') → tq D σ H1) : tSeq (tDrop (tBM K "list" rAppend (tDGet td (tTup tr)) (tCons te tNil))) tq D σ H := by
  obtain ⟨dp, ek, nd, eo⟩ := r
  subst eo
  obtain ⟨l, rest2, g1, g2, g3⟩ := nest_appT ek nd hg
  have em : ms = ms.take n ++ nestT p dp d := by rw [← q, List.take_append_drop]
  have hev : Ev (tDGet td (tTup tr)) σ H (.ref l) := fun H1 e1 Q k2 => ho H1 e1 _ fun H2 e2 => hk H2 (e1.trans e2) ((s.mok.ex e1).ex e2) _ fun us H3 e3 dus => ⟨sz_of (by rw [dus, List.length_map]; exact hl), fun t ht => by
    have e4 : Ex H3 (upd H3 t (.tup us)) := Ex.new ht
    obtain ⟨kvs, h1, h2⟩ := ((((s.ex e1).ex e2).ex e3).ex e4).dicT (RT.at q)
    rcases h2.get x with ⟨v, z, f1, f2, f3⟩ | ⟨_, f2⟩
    · rw [show Dk.get ⟨dp.kvs⟩ x = some ⟨l⟩ from g1] at f2
      cases f2
      cases (show Xp K _ v (.ptr l) from f3)
      exact ⟨p, .ref l, rfl, .inr ⟨kvs, KyT.toK x, t, .inl h1, rfl, by rw [upd_same, dus], f1.symm⟩, k2 _ ((e2.trans e3).trans e4)⟩
    · rw [show Dk.get ⟨dp.kvs⟩ x = some ⟨l⟩ from g1] at f2; cases f2⟩
  have hany : (dp.kvs.any fun p => decide (p.1 = x)) = true := by
    obtain ⟨z, hz1, hz2⟩ := Option.map_eq_some_iff.mp (show (dp.kvs.find? fun p => decide (p.1 = x)).map (·.2) = some _ from g1)
    exact List.any_eq_true.mpr ⟨z, List.mem_of_find?_eq_some hz1, by simpa using List.find?_some hz1⟩
  have p1 : ms.Perm ((l, .lst (xs.map Dx.toX)) :: ((p, dp.m) :: (rest2 ++ ms.take n))) := by
    conv => lhs; rw [em]
    unfold nestT
    refine List.perm_middle.trans ?_
    refine List.Perm.trans (List.Perm.cons _ (List.perm_append_comm.trans (g2.append_right _))) (.swap ..)
  have sP := s.perm p1
  have hmask : msk (muA ms ++ Mc) = msk (muA ((l, Mv.lst (xs.map Dx.toX)) :: ((p, dp.m) :: (rest2 ++ ms.take n))) ++ Mc) := by
    funext H'
    exact msk_congr fun b => by rw [List.mem_append, List.mem_append, (show b ∈ muA ms ↔ b ∈ muA ((l, Mv.lst (xs.map Dx.toX)) :: ((p, dp.m) :: (rest2 ++ ms.take n))) from (p1.map (·.1)).mem_iff)]
  have hv' : Hv K (muA ((l, Mv.lst (xs.map Dx.toX)) :: ((p, dp.m) :: (rest2 ++ ms.take n))) ++ Mc) te σ H y := fun H1 e1 m Q q2 => hv H1 e1 (s.mok.ex e1) Q fun v H2 e2 d => q2 v H2 e2 (by rw [← hmask]; exact d)
  have hany2 : (d.kvs.any fun p => decide (p.1 = x)) = true := by rw [← any_keysT ek]; exact hany
  have e2 : (d.put x (xs ++ [y])).kvs = d.kvs.map fun p => if p.1 = x then (p.1, xs ++ [y]) else p := by
    unfold Dk.put
    rw [if_pos hany2]
  refine zq_app (kk := 0) sP rfl hev hv' hz fun H1 s1 => k _ rfl (nestT p dp (d.put x (xs ++ [y]))) H1 ⟨dp, by rw [putT_keys, if_pos hany2, ek], putT_nd nd, rfl⟩ (s1.perm ?_)
  show List.Perm ((l, Mv.lst ((xs ++ [y]).map Dx.toX)) :: ((p, dp.m) :: (rest2 ++ ms.take n))) _
  refine List.Perm.symm ?_
  unfold nestT
  rw [e2]
  refine List.perm_middle.trans ?_
  exact List.Perm.trans (List.Perm.cons _ (List.perm_append_comm.trans ((g3 _).append_right _))) (.swap ..)
/-- k not in x -/
theorem hv_ninT {d : Dk κ (List β)} {p : Addr} {x : κ} (s : Sg K Mc He H is ms) {n : Nat} (q : ms.drop n = om) (r : RT d p om) (ho : Ev td σ H (.ref p)) (hk : HK (muA ms ++ Mc) tr σ H x) (hl : (KyT.toK x).length ≤ 100000) : Hv K (muA ms ++ Mc) (tDNotIn (tTup tr) td) σ H (!d.has x) := fun H1 e1 m Q q2 =>
  hk H1 e1 m _ fun us H2 e2 dus => ⟨sz_of (by rw [dus, List.length_map]; exact hl), fun t ht => by
    have e3 : Ex H2 (upd H2 t (.tup us)) := Ex.new ht
    refine ho _ ((e1.trans e2).trans e3) _ fun H4 e4 => ?_
    obtain ⟨dp, ek, nd, eo⟩ := r
    subst eo
    obtain ⟨kvs, h1, h2⟩ := ((((s.ex e1).ex e2).ex e3).ex e4).dicT (RT.at q)
    refine ⟨p, valV kvs (KyT.toK x), rfl, .inr ⟨kvs, KyT.toK x, t, .inl h1, rfl, e4 _ _ (by rw [upd_same, dus]), rfl⟩, ?_⟩
    have hb : (valV kvs (KyT.toK x)).isSome = d.has x := by rw [← valV_any, h2.any, any_keysT ek]; rfl
    rw [hb]
    exact q2 _ H4 ((e2.trans e3).trans e4) (Dt.ofBool _)⟩
theorem kt_nest {Hm : Hp} : ∀ {kvs : List (List Key × V)} {l1 : List (κ × Pt)} {l2 : List (κ × List β)}, Kt K Hm kvs l1 → l1.map (·.1) = l2.map (·.1) → (∀ a (xs : List β), (a, Mv.lst (xs.map Dx.toX)) ∈ nestM (l1.map (·.2.a)) (l2.map (·.2)) → Dt K Hm (.ref a) xs) → Kt K Hm kvs l2
  | _, [], [], h, _, _ => by cases h; exact .nil
  | _, [], _ :: _, _, h, _ => by cases h
  | _, _ :: _, [], _, h, _ => by cases h
  | _, (k1, b) :: l1, (k2, vs) :: l2, h, e, g => by
    have e' := List.cons.inj e
    have e1 : k1 = k2 := e'.1
    subst e1
    cases h with
    | cons h1 h2 =>
      cases (show Xp K _ _ (.ptr b.a) from h1)
      exact .cons (g b.a vs List.mem_cons_self) (kt_nest h2 e'.2 fun a xs ha => g a xs (List.mem_cons_of_mem _ ha))
/-- what stands in it is read from now on -/
theorem Sg.frzN {d : Dk κ (List β)} {p : Addr} (s : Sg K Mc He H is ms) {n : Nat} (q : ms.drop n = om) (r : RT d p om) : Sg K Mc He H ((.ref p, Dx.toX d) :: is) (ms.take n) := by
  obtain ⟨dp, ek, nd, eo⟩ := r
  subst eo
  have em : ms = ms.take n ++ nestT p dp d := by rw [← q, List.take_append_drop]
  have pe : ms.Perm (nestT p dp d ++ ms.take n) := by
    conv => lhs; rw [em]
    exact List.perm_append_comm
  have s2 : Sg K Mc He H is (ms.take n) := Sg.sub (ms0 := nestT p dp d) (s.perm pe)
  have ndm := s.nd
  rw [em, muA_app] at ndm
  have dj := (List.nodup_append.mp ndm).2.2
  have nin : ∀ a m, (a, m) ∈ nestT p dp d → a ∉ muA (ms.take n) ++ Mc := fun a m ha z => by
    have hm : a ∈ muA (nestT p dp d) := List.mem_map.mpr ⟨(a, m), ha, rfl⟩
    rcases List.mem_append.mp z with z | z
    · exact dj a z a hm rfl
    · exact s.notc (by rw [em, muA_app]; exact List.mem_append_right _ hm) z
  have sub : Ex (msk (muA ms ++ Mc) H) (msk (muA (ms.take n) ++ Mc) H) := msk_sub fun a ha => by
    rw [em, muA_app]
    rcases List.mem_append.mp ha with ha | ha
    · exact List.mem_append_left _ (List.mem_append_left _ ha)
    · exact List.mem_append_right _ ha
  obtain ⟨kvs, h1, h2⟩ := s.dicT (RT.at q)
  refine s2.put (Dt.ofDicT (.inl (by rw [msk_out (nin p _ List.mem_cons_self)]; exact h1)) (kt_nest (h2.mono sub) ek fun a xs ha => ?_))
  obtain ⟨o, ho, vs, rfl, hx⟩ := mu_iff.mp s.mu (a, .lst (xs.map Dx.toX)) (by rw [em]; exact List.mem_append_right _ (List.mem_cons_of_mem _ ha))
  exact Dt.ofList (SqL.of (by rw [msk_out (nin a _ (List.mem_cons_of_mem _ ha))]; exact ho)) (dpa_mono sub hx)
end
end Ly

namespace Ly
open PySem PySem.Spec PyProof.Rows L2 L2H HotX
/-! ### a loop over a list in the suite of an except -/
section
variable {prog : Program} {w : World} {A : Around} {E : Value → Shared → Prop} {s : Shared}
theorem list_end_hot {it l x1 : Addr} {i : Nat} {items : Array Value} {Q : Option Value → Shared → Prop} (hot : HotAt A x1 s.heap) (ne : x1 ≠ it) (hit : s.heap.IsListIter it l i) (hl : s.heap.IsList l items) (hx : items[i]? = none)
    (hQ : ∀ h', (∀ b o, b ≠ it → s.heap.get? b = some o → h'.get? b = some o) → Q none { s with heap := h' }) : wpAny (model prog w) A (pyNext (.ref it)) Q E s := by
  obtain ⟨o, ho, hc, hd⟩ := id hit
  obtain ⟨ol, hol, _, nl, hdl⟩ := hl
  obtain ⟨hh, o1, vs1, h1, d1, c1⟩ := hot
  unfold pyNext
  refine wpAny_bind (wpAny_attempt (wpAny_callSpecial?_slot (name := Str.ofString "__next__") hit.typeIs slot_listiter_next
    (wpAny_call_entry slot_listiter_next hit.typeIs entry_listiter_next ?_ (args_listiter_next _))))
  show wpAny _ _ (field (.ref it) 0 >>= _) _ _ s
  refine wpAny_bind (wpAny_field ho hd (x := .ref l) rfl ?_)
  show wpAny _ _ (if (Value.ref l == Value.none) = true then _ else _) _ _ s
  rw [if_neg (show ¬ ((Value.ref l == Value.none) = true) from Bool.false_ne_true)]
  show wpAny _ _ (field (.ref it) 1 >>= _) _ _ s
  refine wpAny_bind (wpAny_field ho hd (x := .int i 0) rfl ?_)
  show wpAny _ _ (seqItems? (.ref l) >>= _) _ _ s
  refine wpAny_bind (wpAny_seqItems hol hdl ?_)
  simp only [Int.toNat_natCast, hx]
  refine wpAny_bind (wpAny_rule (wpAny_bind (wpAny_setField ho hd (by simp) ?_)))
  show wpAny _ _ (newExc (.type "StopIteration") [] >>= _) _ _ _
  refine wpAny_bind ?_
  simp only [newExc, newTuple]
  refine wpAny_bind (wpAny_newObj_type ?_ (by size_fits))
  refine wpAny_bind (m := firstArgMember _ _) (wpAny_of_eq (a := Value.none) (by first | rfl | (simp only [firstArgMember]; rfl)) ?_)
  refine wpAny_newObj_type ?_ (by size_fits)
  have g1 : ∀ b o', b ≠ it → s.heap.get? b = some o' → (s.heap.update it (Obj.mapFields (·.setIfInBounds 0 .none))).get? b = some o' := fun b o' q e => by
    rw [Heap.get?_update_other _ _ (fun z => q z.symm)]; exact e
  refine raiseNew_hot ⟨hh, o1, vs1, Heap.get?_push_of_some _ (Heap.get?_push_of_some _ (g1 _ _ ne h1)), d1, c1⟩ (Nat.ne_of_lt (Heap.lt_size (Heap.get?_push_of_some _ (g1 _ _ ne h1)))) (Heap.get?_push_size _ rfl) rfl (by first | (simp; done) | (simp; omega) | (simp only [Array.size_append]; simp; omega)) ?_
  refine wpAny_bind (wpAny_isInstance (T := "StopIteration") (b := true) ⟨_, Heap.get?_update_self _ (Heap.get?_push_size _ rfl) rfl, rfl⟩ isSubtype_stop ?_)
  refine wpAny_pure (hQ _ fun b o' q e => ?_)
  rw [Heap.get?_update_other _ _ (Nat.ne_of_gt (Heap.lt_size (Heap.get?_push_of_some _ (g1 b o' q e))))]
  exact Heap.get?_push_of_some _ (Heap.get?_push_of_some _ (g1 b o' q e))
end
theorem turn_listH {P : Program} {w : World} {K : PySem.W.Frag} {tg : Expr} (a it : Addr) : TurnH P w K tg (Itl K a) [it] it (fun i h => h.IsListIter it a i) where
  mem := by simp
  obj := fun i h st b hb => by
    have e : b = it := by simpa using hb
    subst e
    obtain ⟨o, e, c, d⟩ := st
    exact ⟨o, e, fun v z => by rw [d] at z; cases z⟩
  keep := fun i h h' st k => st.at fun o e => k it (by simp) o e
  item := by
    intro X hP hw hK hc i pins s σ H E I hf st hg
    subst hP hw hK
    obtain ⟨xs, x, hq, hx⟩ := hg
    obtain ⟨its, rv, p, hz⟩ := I.list hq
    obtain ⟨u, hu, ru⟩ := rv.get hx
    obtain ⟨f0, f1, f2, f3, f4, f5⟩ := hf it (by simp)
    refine wpAny_pyNext_list_item st p.isList (x := u) (by simpa using hu) fun h' st' sb => ?_
    have I1 : Inv X pins σ H { s with heap := h' } := I.turned (t' := s.toks) (fun b o hb e => (sb.2 b hb).trans e) f0 f1 f3 f4 f5
    obtain ⟨o, e, c, d⟩ := id st'
    exact ⟨u, rfl, go_of (s := { s with heap := h' }) e c d (by decide) ⟨x, H, I1, ru, ⟨rfl, fun ys hy => by rw [I.list_inj hy hq]; exact hx⟩, st', fun b hb => (hf b hb).1⟩⟩
  done := by
    intro X hP hw hK hc i pins s σ H E I hf st hg
    subst hP hw hK
    obtain ⟨xs, hq, hx⟩ := hg
    obtain ⟨its, rv, p, hz⟩ := I.list hq
    obtain ⟨f0, f1, f2, f3, f4, f5⟩ := hf it (by simp)
    have hl := rv.length
    obtain ⟨q, ⟨hh, v1, e1, c1⟩, hp⟩ := hc
    have hot : HotAt X.A q.1 s.heap := ⟨hh, q.2, v1, (I.pin q (List.mem_append_left _ hp)).1, e1, c1⟩
    exact list_end_hot hot (f5 q (List.mem_append_left _ hp)) st p.isList (by simp; omega) fun h' eb => ⟨rfl, I.turned (t' := s.toks) (fun b o hb e => eb b o hb e) f0 f1 f3 f4 f5⟩
  self := fun _ _ _ _ _ st h => wpAny_pyIter_listiter st h
theorem pi_listH {X : Cx} {tg l : Expr} {tl : TE} (hl : PE X l tl) : PIH X tg l (iList X.K tl) := by
  refine ⟨fun pins s σ H R I h => ?_⟩
  refine thn (hl.run pins s σ H _ I h) fun v s1 ⟨x, H1, I1, r1, q1⟩ => ?_
  obtain ⟨a, e, ⟨xs, hq⟩, q⟩ := q1
  subst e
  cases r1
  obtain ⟨its, rv, p, hz⟩ := I1.list hq
  refine wpAny_pyIter_list p.isList ?_
  refine ⟨s1.heap.objs.size, [s1.heap.objs.size], _, _, H1, rfl, I1.kept (t' := s1.toks) fun b o e => Heap.get?_push_of_some _ e, turn_listH a _, ⟨_, Heap.get?_push_size _ rfl, rfl, rfl⟩, fun b hb => ?_, q⟩
  have e : b = s1.heap.objs.size := by simpa using hb
  subst e
  exact I1.fpOk (Nat.le_refl _) (I1.hok.fresh (Nat.le_refl _))
/-! ### more methods of texts -/
section
variable {K : PySem.W.Frag} {M : List Addr} {H : Hp} {σ : L2.St} {ta tb : TE}
open Evl
theorem hv_removeprefix {a b : Str} (ha : Hv K M ta σ H a) (hb : Hv K M tb σ H b) (hz : a.length ≤ 100000) : Hv K M (tM1 (fun x xs H Q => ∃ a b, x = .str a ∧ xs = [.str b] ∧ a.length ≤ sizeLine ∧ Q (.str (Txt.removeprefix a b)) H) ta tb) σ H (Txt.removeprefix a b) := fun H1 e m Q q =>
  ha H1 e m _ fun v H2 e2 d => ⟨⟨a, d.str⟩, hb H2 (e.trans e2) (m.ex e2) _ fun u H3 e3 d' => ⟨a, b, d.str, by rw [d'.str], sz_of hz, q _ H3 (e2.trans e3) (Dt.ofStr _)⟩⟩
theorem hv_removesuffix {a b : Str} (ha : Hv K M ta σ H a) (hb : Hv K M tb σ H b) (hz : a.length ≤ 100000) : Hv K M (tM1 (fun x xs H Q => ∃ a b, x = .str a ∧ xs = [.str b] ∧ a.length ≤ sizeLine ∧ Q (.str (Txt.removesuffix a b)) H) ta tb) σ H (Txt.removesuffix a b) := fun H1 e m Q q =>
  ha H1 e m _ fun v H2 e2 d => ⟨⟨a, d.str⟩, hb H2 (e.trans e2) (m.ex e2) _ fun u H3 e3 d' => ⟨a, b, d.str, by rw [d'.str], sz_of hz, q _ H3 (e2.trans e3) (Dt.ofStr _)⟩⟩
/-- text[-1] -/
theorem hv_lastS {a : Str} (ha : Hv K M ta σ H a) (hz : a.length ≤ 100000) (h : 0 < a.length) : Hv K M (tOp rIxS ta (tUn (rU fun i => .int (-i)) (tC (.int 1)))) σ H (strAt a (a.length - 1)) := fun H1 e m Q q =>
  ha H1 e m _ fun v H2 e2 d => by
    have hl : a.length = a.cps.toList.length := by simp [Str.length]
    refine ⟨1, rfl, a, -1, a.cps.toList.getD (a.length - 1) 0, d.str, rfl, sz_of hz, ?_, q _ H2 e2 (Dt.ofStr _)⟩
    unfold atI ixN
    rw [if_neg (by decide), if_pos (by omega)]
    rw [List.getD_eq_getElem?_getD, hl, List.getElem?_eq_getElem (by omega)]
    show a.cps.toList[_]? = _
    rw [show (-1 + (a.cps.toList.length : Int)).toNat = a.cps.toList.length - 1 by omega, List.getElem?_eq_getElem (by omega)]
    rfl
theorem dts_of_strs {H : Hp} : ∀ xs : List Str, Dts K H (xs.map V.str) xs
  | [] => .nil
  | x :: xs => .cons (Dt.ofStr x) (dts_of_strs xs)
theorem hf_split {a b : Str} (ha : Hv K M ta σ H a) (hb : Hv K M tb σ H b) (hn : (b.length == 0) = false) (hz : a.length ≤ 100000) : HF K M (tM1 (fun x xs H Q => ∃ a b, x = .str a ∧ xs = [.str b] ∧ (b.length == 0) = false ∧ a.length + 2 ≤ sizeLine ∧ rNewStrs (Txt.split a b) H Q) ta tb) σ H (Txt.split a b) := fun H1 e m Q q =>
  have hs : a.length + 2 ≤ sizeLine := by
    have hs : sizeLine = 16777216 := sizeLine_eq
    omega
  ha H1 e m _ fun v H2 e2 d => ⟨⟨a, d.str⟩, hb H2 (e.trans e2) (m.ex e2) _ fun u H3 e3 d' => ⟨a, b, d.str, by rw [d'.str], hn, hs, fun p hp => q p _ _ (fresh_back (e2.trans e3) hp) ((e2.trans e3).trans (Ex.new hp)) upd_same (dts_of_strs _)⟩⟩
end
/-! ### comprehensions over texts -/
section
variable {K : PySem.W.Frag} {Mc M : List Addr} {He H H1 : Hp} {is : Ims} {ms : Mus} {σ : L2.St} {te ta tl : TE} {tt : TT} {g : TG} {β : Type} [DecidableEq β] [Dx β]
open Evl
theorem hf_lcT {vs : List Nat} (s : Sg K Mc He H is ms) {a : Str} (f : Str → Bool) (ef : Str → β) (h : Hv K (muA ms ++ Mc) tl σ H a) (hz : a.length ≤ 40000)
    (hb : ∀ D x (ys : List β) H1, Sg K Mc He H1 is ((D, .lst (ys.map Dx.toX)) :: ms) → (∃ i : Nat, (chars a)[i]? = some x) →
      ∀ Q : L2.St → Hp → Prop, (∀ σ2, wipe σ2 vs = wipe σ vs → HT (muA ((D, Mv.lst (ys.map Dx.toX)) :: ms) ++ Mc) tt σ2 H1 (f x) → (f x = true → Hv K (muA ((D, Mv.lst (ys.map Dx.toX)) :: ms) ++ Mc) te σ2 H1 (ef x)) → Q σ2 H1) → g (.str x) (wipe σ vs) H1 Q) :
    HF K (muA ms ++ Mc) (tLc (iStr tl) g tt te vs) σ H (((chars a).filter f).map ef) := fun H1 e m Q q =>
  h H1 e m _ fun v H2 e2 d => ⟨a, d.str, fun D hD => by
    have hsz : a.cps.size = (chars a).length := by rw [chars_len]; rfl
    have hsa : (chars a).length ≤ 40000 := by rw [chars_len]; exact hz
    have sA : Sg K Mc He H2 is ms := (s.ex e).ex e2
    have sB : Sg K Mc He (upd H2 D (.lst [])) is ((D, .lst (([] : List β).map Dx.toX)) :: ms) := sA.new hD ⟨[], rfl, .nil⟩
    refine lc_it (walk_str (z := a)) (fun i H' => Ex H2 H' ∧ Sg K Mc He H' is ((D, .lst (((((chars a).take i).filter f).map ef).map Dx.toX)) :: ms)) ⟨Ex.new hD, sB⟩ (fun _ _ _ _ => True.intro)
      (fun i x H' H'' hi p y => ?_) (fun H' p => ?_)
    · obtain ⟨rfl, c, hc, rfl⟩ := y
      have hx : (chars a)[i]? = some ⟨#[c]⟩ := by
        unfold chars
        rw [List.getElem?_map]
        have : a.cps.toList[i]? = some c := by rw [Array.getElem?_toList]; exact hc
        rw [this]; rfl
      refine hb D _ _ _ p.2 ⟨i, hx⟩ _ fun σ2 hw ht he => ⟨hw, ?_⟩
      have hlen : ((((chars a).take i).filter f).map ef).length < 50000 := by
        rw [List.length_map]
        have := List.length_filter_le f ((chars a).take i)
        rw [List.length_take] at this
        omega
      exact lc_turn (ms := ms) (zs := (((chars a).take (i + 1)).filter f).map ef) p.2 hlen (fun H3 => Ex H2 H3 ∧ Sg K Mc He H3 is ((D, .lst (((((chars a).take (i + 1)).filter f).map ef).map Dx.toX)) :: ms)) ht he (filter_snoc hx) (fun H3 h4 s3 => ⟨by
        obtain ⟨H4, e4, e5⟩ := h4
        rcases e5 with e5 | ⟨o, e5⟩
        · rw [e5]; exact p.1.trans e4
        · rw [e5]; exact Ex.mut (p.1.trans e4) hD, s3⟩)
    · have z := p.2
      rw [hsz, List.take_length] at z
      obtain ⟨us2, h3, h4⟩ := z.lst (k := 0) rfl
      exact q D us2 H' (fresh_back e2 hD) (e2.trans p.1) h3 h4⟩
theorem hf_lcT0 {vs : List Nat} (s : Sg K Mc He H is ms) {a : Str} (ef : Str → β) (h : Hv K (muA ms ++ Mc) tl σ H a) (hz : a.length ≤ 40000)
    (hb : ∀ D x (ys : List β) H1, Sg K Mc He H1 is ((D, .lst (ys.map Dx.toX)) :: ms) → (∃ i : Nat, (chars a)[i]? = some x) →
      ∀ Q : L2.St → Hp → Prop, (∀ σ2, wipe σ2 vs = wipe σ vs → Hv K (muA ((D, Mv.lst (ys.map Dx.toX)) :: ms) ++ Mc) te σ2 H1 (ef x) → Q σ2 H1) → g (.str x) (wipe σ vs) H1 Q) :
    HF K (muA ms ++ Mc) (tLc (iStr tl) g tYes te vs) σ H ((chars a).map ef) := by
  have key := hf_lcT (g := g) (tt := tYes) (te := te) (vs := vs) s (fun _ => true) ef h hz (fun D x ys H1 s1 hx Q k => hb D x ys H1 s1 hx Q fun σ2 hw he => k σ2 hw (fun H2 _ _ _ q => q H2 (Ex.refl H2)) fun _ => he)
  rwa [List.filter_eq_self.mpr (fun _ _ => rfl)] at key
end
end Ly

namespace My
open PySem PySem.Spec PyProof.Rows L2 Evl Ly CwR
open PySem.W (Datum DatumOrd Tup T3 T4 minOf)
def topS (i : Nat) : Stmt := PySem.Challenge.pw_folio_k09_entries.main.body.getD i (.Pass ⟨0, 0, 0, 0⟩)
def small (y : V) : Prop := ∃ i : Int, y = .int i ∧ 0 ≤ i ∧ i ≤ 1000
section
open NdefX
abbrev st_BadEntry : Stmt := inClass (topS 4) 0
theorem ini_BadEntry {CX : CXT} {P : Program} {w : World} {K : PySem.W.Frag} {mg : Str → Option Value} {base : Heap} {f C cc cda : Addr} {dV kV doc pm ct oc : Value} {an od : Option Addr} {osl : Array (Option Value)} {file : Str}
  (lk : K.lookup f = some ⟨oc, od, .func (PySem.W.fnX "__init__" "BadEntry.__init__" (defArgs st_BadEntry) (defBody st_BadEntry) (defScope st_BadEntry) [("__class__", cc)] dV kV doc pm an (.ref cda) ct), osl⟩) (hcd : PySem.W.codeIn K (.ref cda) "BadEntry.__init__" = true)
  (T : OexC K C) (Z : SupC K C f cda cc (PySem.W.fnX "__init__" "BadEntry.__init__" (defArgs st_BadEntry) (defBody st_BadEntry) (defScope st_BadEntry) [("__class__", cc)] dV kV doc pm an (.ref cda) ct) "self" file) (hno : PySem.W.findIn K (.ref C) "at" = some none)
  (hfile : ((P.main.file : Str) == file) = true) (htop : (P.main.scope.names.lookup ("super" : Str)).isSome = false) (hm : mg "super" = none) : FnOk P w K mg base CX 1 f (PySem.W.fnX "__init__" "BadEntry.__init__" (defArgs st_BadEntry) (defBody st_BadEntry) (defScope st_BadEntry) [("__class__", cc)] dV kV doc pm an (.ref cda) ct) ["self", "at"] (spOne C "at" small) := by
  refine fn_sup (N := ["self", "at", "__class__"]) lk hcd (nscope_by (by decide +kernel)) spOne_len T Z hfile htop (by rfl) hm rfl (fun A outer s H vs Q E hr h => ?_)
  obtain ⟨a, y, rfl, hp, ea, q⟩ := h
  refine ⟨_, _, a, pe_joined (.cons pe_str (.cons (pe_fmt (pv 1)) (.cons pe_str .nil))), pss_cons (ps_ost (pv 0) (pv 1)) pss_nil, rfl, ea, one_body rfl T hno (fun Q' k => ?_) ea q⟩
  obtain ⟨i, rfl, h1, h2⟩ := hp
  exact fs_int rfl (log2_few h1 (by omega)) (by decide +kernel) k
theorem bin_BadEntry {K : PySem.W.Frag} {cc : Addr} {kV doc pm ct cd : Value} {an : Option Addr} : Binds K (PySem.W.fnX "__init__" "BadEntry.__init__" (defArgs st_BadEntry) (defBody st_BadEntry) (defScope st_BadEntry) [("__class__", cc)] .none kV doc pm an cd ct) ["self", "at"] [] :=
  .all fun us hl => match us, hl with | [_, _], _ => rfl
end
structure Txt (P : Program) (K : PySem.W.Frag) (mg : Str → Option Value) where
  C_BadDemand : Addr
  g_BadDemand : mg "BadDemand" = some (.ref C_BadDemand)
  C_BadEntry : Addr
  g_BadEntry : mg "BadEntry" = some (.ref C_BadEntry)
  C_BadExample : Addr
  g_BadExample : mg "BadExample" = some (.ref C_BadExample)
  C_BadStyle : Addr
  g_BadStyle : mg "BadStyle" = some (.ref C_BadStyle)
  C_BadText : Addr
  g_BadText : mg "BadText" = some (.ref C_BadText)
  C_FolioError : Addr
  g_FolioError : mg "FolioError" = some (.ref C_FolioError)
  T_BadEntry : OexC K C_BadEntry
  fi_BadEntry : Addr
  fd_BadEntry : FuncData
  iC_BadEntry : PySem.W.findIn K (.ref C_BadEntry) "__init__" = some (some (.ref fi_BadEntry))
  tI_BadEntry : PySem.W.typeIn K (.ref fi_BadEntry) = some (.type "function")
  FI_BadEntry : ∀ (w : World) (base : Heap), FnOk P w K mg base (L2N.CX P w) 1 fi_BadEntry fd_BadEntry ["self", "at"] (spOne C_BadEntry "at" small)
  bI_BadEntry : Binds K fd_BadEntry ["self", "at"] []
  xf_BadEntry : XfC K C_BadEntry
  ec_BadEntry : ExcC K C_BadEntry
  cl_BadEntry : (PySem.W.clsIn K C_BadEntry).isSome = true
  ex_BadEntry : PySem.W.exmOne K (.ref C_BadEntry) (.ref C_BadEntry) = some true
  no_BadEntry_at : PySem.W.findIn K (.ref C_BadEntry) "at" = some none
  k_BadEntry_BadDemand : PySem.W.kitOne K (.ref C_BadEntry) (.ref C_BadDemand) = some false
  k_BadEntry_BadExample : PySem.W.kitOne K (.ref C_BadEntry) (.ref C_BadExample) = some false
  k_BadEntry_BadStyle : PySem.W.kitOne K (.ref C_BadEntry) (.ref C_BadStyle) = some false
  k_BadEntry_BadText : PySem.W.kitOne K (.ref C_BadEntry) (.ref C_BadText) = some false
  k_BadEntry_FolioError : PySem.W.kitOne K (.ref C_BadEntry) (.ref C_FolioError) = some true
  k_BadEntry_ValueError : PySem.W.kitOne K (.ref C_BadEntry) (.type "ValueError") = some true
  f_check_entries : Addr
  d_check_entries : FuncData
  u_check_entries : Fun K "check_entries" "check_entries" (topS 11) f_check_entries d_check_entries
  b_check_entries : Binds K d_check_entries ["entries"] []
  g_check_entries : mg "check_entries" = some (.ref f_check_entries)
  f_is_entry : Addr
  d_is_entry : FuncData
  u_is_entry : Fun K "is_entry" "is_entry" (topS 12) f_is_entry d_is_entry
  b_is_entry : Binds K d_is_entry ["text"] []
  g_is_entry : mg "is_entry" = some (.ref f_is_entry)
  f_is_exception : Addr
  d_is_exception : FuncData
  u_is_exception : Fun K "is_exception" "is_exception" (topS 13) f_is_exception d_is_exception
  b_is_exception : Binds K d_is_exception ["text"] []
  g_is_exception : mg "is_exception" = some (.ref f_is_exception)
  f_is_pattern : Addr
  d_is_pattern : FuncData
  u_is_pattern : Fun K "is_pattern" "is_pattern" (topS 14) f_is_pattern d_is_pattern
  b_is_pattern : Binds K d_is_pattern ["text"] []
  g_is_pattern : mg "is_pattern" = some (.ref f_is_pattern)
  f_is_word : Addr
  d_is_word : FuncData
  u_is_word : Fun K "is_word" "is_word" (topS 15) f_is_word d_is_word
  b_is_word : Binds K d_is_word ["text"] []
  g_is_word : mg "is_word" = some (.ref f_is_word)
  f_law_cell : Addr
  d_law_cell : FuncData
  u_law_cell : Fun K "_law_cell" "_law_cell" (topS 17) f_law_cell d_law_cell
  b_law_cell : Binds K d_law_cell ["script", "k"] []
  g_law_cell : mg "_law_cell" = some (.ref f_law_cell)
  f_law_draws : Addr
  d_law_draws : FuncData
  u_law_draws : Fun K "_law_draws" "_law_draws" (topS 18) f_law_draws d_law_draws
  b_law_draws : Binds K d_law_draws ["cell", "count"] []
  g_law_draws : mg "_law_draws" = some (.ref f_law_draws)
  f_law_any_text : Addr
  d_law_any_text : FuncData
  u_law_any_text : Fun K "_law_any_text" "_law_any_text" (topS 19) f_law_any_text d_law_any_text
  b_law_any_text : Binds K d_law_any_text ["cell"] []
  g_law_any_text : mg "_law_any_text" = some (.ref f_law_any_text)
  f_law_good_text : Addr
  d_law_good_text : FuncData
  u_law_good_text : Fun K "_law_good_text" "_law_good_text" (topS 20) f_law_good_text d_law_good_text
  b_law_good_text : Binds K d_law_good_text ["cell"] []
  g_law_good_text : mg "_law_good_text" = some (.ref f_law_good_text)
  f_law_is_exception : Addr
  d_law_is_exception : FuncData
  u_law_is_exception : Fun K "_law_is_exception" "_law_is_exception" (topS 21) f_law_is_exception d_law_is_exception
  b_law_is_exception : Binds K d_law_is_exception ["text"] []
  g_law_is_exception : mg "_law_is_exception" = some (.ref f_law_is_exception)
  f_law_is_pattern : Addr
  d_law_is_pattern : FuncData
  u_law_is_pattern : Fun K "_law_is_pattern" "_law_is_pattern" (topS 22) f_law_is_pattern d_law_is_pattern
  b_law_is_pattern : Binds K d_law_is_pattern ["text"] []
  g_law_is_pattern : mg "_law_is_pattern" = some (.ref f_law_is_pattern)
  f_law_is_good : Addr
  d_law_is_good : FuncData
  u_law_is_good : Fun K "_law_is_good" "_law_is_good" (topS 23) f_law_is_good d_law_is_good
  b_law_is_good : Binds K d_law_is_good ["text"] []
  g_law_is_good : mg "_law_is_good" = some (.ref f_law_is_good)
  f_law : Addr
  d_law : FuncData
  u_law : Fun K "law" "law" (topS 24) f_law d_law
  b_law : Binds K d_law ["script"] []
  g_law : mg "law" = some (.ref f_law)
  n_ValueError : mg "ValueError" = none
  n_all : mg "all" = none
  n_bool : mg "bool" = none
  n_enumerate : mg "enumerate" = none
  n_int : mg "int" = none
  n_isinstance : mg "isinstance" = none
  n_len : mg "len" = none
  n_list : mg "list" = none
  n_range : mg "range" = none
  t_LETTERS : Tok
  g_LETTERS : mg "LETTERS" = some (.str (PySem.Str.ofString "abcdefghijklmnopqrstuvwxyzABCDEFGHIJKLMNOPQRSTUVWXYZ") t_LETTERS)
  t_DIGITS : Tok
  g_DIGITS : mg "DIGITS" = some (.str (PySem.Str.ofString "0123456789") t_DIGITS)
  t_LONGEST_ENTRY : Tok
  g_LONGEST_ENTRY : mg "LONGEST_ENTRY" = some (.int (24) t_LONGEST_ENTRY)
section -- walk
variable {P : Program} {w : World} {K : PySem.W.Frag} {mg : Str → Option Value} {base : Heap}

theorem l_emp : (PySem.Str.ofString "").length = 0 := by decide +kernel
theorem l_dash : (PySem.Str.ofString "-").length = 1 := by decide +kernel
theorem l_sg : (PySem.Str.ofString "abcxyzABZ0123459.-.- *").length = 22 := by decide +kernel
theorem l_six : (PySem.Str.ofString "abcdeZ").length = 6 := by decide +kernel
theorem g_a (i : Nat) : (List.getD [(PySem.Str.ofString ""), (PySem.Str.ofString ""), (PySem.Str.ofString "1"), (PySem.Str.ofString "42")] i (PySem.Str.ofString "")).length ≤ 2 := getD_P (P := fun s => Str.length s ≤ 2) (by decide +kernel) (by decide +kernel) i
theorem g_b (i : Nat) : (List.getD [(PySem.Str.ofString ""), (PySem.Str.ofString "."), (PySem.Str.ofString "3"), (PySem.Str.ofString ".5")] i (PySem.Str.ofString "")).length ≤ 2 := getD_P (P := fun s => Str.length s ≤ 2) (by decide +kernel) (by decide +kernel) i
theorem g_c (i : Nat) : (List.getD [(PySem.Str.ofString ""), (PySem.Str.ofString "."), (PySem.Str.ofString "2.")] i (PySem.Str.ofString "")).length ≤ 2 := getD_P (P := fun s => Str.length s ≤ 2) (by decide +kernel) (by decide +kernel) i
theorem aff_len (x : Str) (o : Option (Nat × Nat)) : (Txt.affix x o).length ≤ x.length := by
  unfold Txt.affix
  split
  · split
    · exact Nat.le_refl _
    · exact strSub_length_le _ _ _
  · exact Nat.le_refl _
theorem fil_sum (a : Str) (f : Str → Bool) : ((((chars a).filter f).map fun c => c).map fun x => x.length).sum ≤ a.length := by
  rw [List.map_id', ← chars_len a]
  have : ∀ l : List Str, (∀ c ∈ l, c.length = 1) → ((l.filter f).map fun x => x.length).sum ≤ l.length := fun l => by
    induction l with
    | nil => intro _; exact Nat.le_refl _
    | cons c l ih =>
      intro h
      have ih := ih fun d hd => h d (List.mem_cons_of_mem _ hd)
      have hc := h c List.mem_cons_self
      by_cases q : f c = true
      · rw [List.filter_cons_of_pos q, List.map_cons, List.sum_cons, List.length_cons]; omega
      · rw [List.filter_cons_of_neg q, List.length_cons]; omega
  exact this _ fun c hc => by
    obtain ⟨i, hi⟩ := List.mem_iff_getElem?.mp hc
    exact chars_one hi
theorem plain_len (a : Str) (f : Str → Bool) : (Txt.join (PySem.Str.ofString "") (((chars a).filter f).map fun c => c)).length ≤ a.length := by
  show (Builtin.Str.glued _ _).length ≤ _
  rw [size_glued, l_emp, Nat.mul_zero, Nat.add_zero]
  exact fil_sum a f
theorem enumL_at {α : Type} [DecidableEq α] [Dx α] {xs : List α} {i : Nat} {x : Int × α} (h : (enumL xs)[i]? = some x) : x.1 = (i : Int) ∧ xs[i]? = some x.2 := by
  have hl := (List.getElem?_eq_some_iff.mp h).1
  rw [enumL_len] at hl
  have e := List.getElem?_eq_getElem hl
  have k := enumL_get e
  rw [h] at k
  cases k
  exact ⟨rfl, e⟩
theorem ne_emp {a : PySem.Str} (h : decide (a = (PySem.Str.ofString "")) = false) : 0 < a.length := by
  rcases Nat.eq_zero_or_pos a.length with z | z
  · refine absurd ?_ (of_decide_eq_false h)
    cases a with
    | mk c =>
      have : c = #[] := Array.eq_empty_of_size_eq_zero z
      rw [this]; rfl
  · exact z
theorem dash_len (t : PySem.Str) : (List.map (fun x => x.length) [cutS t none (some 1), cutS t (some 1) none]).sum + [cutS t none (some 1), cutS t (some 1) none].length * (PySem.Str.ofString "-").length ≤ 2 * t.length + 2 := by
  have h1 := cutS_length t none (some 1)
  have h2 := cutS_length t (some 1) none
  simp only [List.map_cons, List.map_nil, List.sum_cons, List.sum_nil, List.length_cons, List.length_nil, l_dash]
  omega

def m_is_word (text_ : PySem.Str) : Bool :=
  ((!decide (text_ = (PySem.Str.ofString ""))) && (List.all (List.map (fun (c_ : PySem.Str) => (inStr c_ (PySem.Str.ofString "abcdefghijklmnopqrstuvwxyzABCDEFGHIJKLMNOPQRSTUVWXYZ"))) (chars text_)) id))
abbrev s_is_word : Stmt := (topS 15)
theorem sc_is_word : FnScope ["text", "sign"] ["text"] (defScope s_is_word) := ⟨rfl, rfl, rfl, by decide +kernel, rfl, by decide +kernel, by decide +kernel⟩
abbrev sp_is_word (K : PySem.W.Frag) : Sp := PrD K (fun c : PySem.Str => [Dx.toX c]) (fun c => c.length ≤ 100) (fun c => (m_is_word c : Bool))
theorem ok_is_word (T : Txt P K mg) : FnOk P w K mg base CX0 1 T.f_is_word T.d_is_word ["text"] (sp_is_word K) := by
  refine T.u_is_word.ok sc_is_word (fun vs H Q E h => ?_) (fun cdv A outer s H vs Q E hr h => ?_)
  · obtain ⟨Mc, c, mok, da, pre, q⟩ := h
    exact (dpa_len da)
  · obtain ⟨Mc, c, mok, da, pre, q⟩ := h
    obtain ⟨text_, rfl⟩ : ∃ z, z = c := ⟨c, rfl⟩
    dsimp only at da pre q
    obtain ⟨v0, w0, rfl, d0, da0⟩ := dpa_inv da
    cases dpa_inv0 da0
    cases (Dt.str d0)
    have s0 : Sg K Mc H H [] [] := Sg.enter mok True.intro
    refine ⟨_, (pss_cons (ps_ret (pe_and (pe_cmpR op_ne (pv 0) pe_str (nomark _)) (pe_one (pe_callB (cr_all rfl) (by rfl) T.n_all (by decide +kernel) (pa_cons (pe_lc (own := [("sign", 1)]) (g := gName 1) rfl sc_is_word.nd (pi_str (pv 0)) (blkOk_by (own := [("sign", 1)]) (N := ["text", "sign"]) (sc := defScope s_is_word) (by decide +kernel)) (fun _ _ _ _ _ => (pg_name (i := 1) sc_is_word.nd rfl (Or.inl rfl) (.inr (by rfl)))) (fun _ _ _ _ _ => pts_nil) (fun _ _ _ _ _ => (pe_cmpR op_in_str (pv 1) (pe_glob (v := .str (PySem.Str.ofString "abcdefghijklmnopqrstuvwxyzABCDEFGHIJKLMNOPQRSTUVWXYZ")) rfl T.g_LETTERS ⟨_, rfl⟩) (by rfl)))) pa_nil))))) pss_nil), ?_⟩
    have hF1 : m_is_word text_ = ((!decide (text_ = (PySem.Str.ofString ""))) && (List.all (List.map (fun (c_ : PySem.Str) => (inStr c_ (PySem.Str.ofString "abcdefghijklmnopqrstuvwxyzABCDEFGHIJKLMNOPQRSTUVWXYZ"))) (chars text_)) id)) := (by  first | (simp only [m_is_word, if_true, if_false, Bool.false_eq_true, decide_true, decide_false, Option.getD_some, Option.isNone_none, Option.isNone_some, Bool.not_true, Bool.not_false, ↓reduceIte]; done) | (rfl; done) | ((unfold m_is_word); (dsimp only); first | done | rfl))
    exact zq_ret s0 (hv_and (hv_neS (hv_vS rfl) (hv_str _)) (fun hb0 => (hv_allL (hs_of (hv_hf (hf_lcT0 s0 (fun (c_ : PySem.Str) => (inStr c_ (PySem.Str.ofString "abcdefghijklmnopqrstuvwxyzABCDEFGHIJKLMNOPQRSTUVWXYZ"))) (hv_vS rfl) (by first | omega | decide +kernel | (simp only [List.length_cons, List.length_nil]; omega)) (fun D3 c4 ys6 Hs2 s2 hx8 Q k => by have oc4 : Str.length c4 = 1 := (by obtain ⟨_, h9⟩ := hx8; exact chars_one h9); exact k _ rfl (hv_inStr (hv_vS rfl) (hv_str _))))))))) fun v H' e d => q v H' e (by rw [hF1]; exact d)
def m_law_cell (script_ : (List Int)) (k_ : Int) : Int :=
  if (decide (k_ < ((script_).length : Int))) = true then
    (script_.getD (Int.toNat k_) 0)
  else
    (0 : Int)
abbrev s_law_cell : Stmt := (topS 17)
theorem sc_law_cell : FnScope ["script", "k"] ["script", "k"] (defScope s_law_cell) := ⟨rfl, rfl, rfl, by decide +kernel, rfl, by decide +kernel, by decide +kernel⟩
abbrev sp_law_cell (K : PySem.W.Frag) : Sp := PrD K (fun c : (List Int) × Int => [Dx.toX c.1, Dx.toX c.2]) (fun c => 0 ≤ c.2) (fun c => (m_law_cell c.1 c.2 : Int))
theorem ok_law_cell (T : Txt P K mg) : FnOk P w K mg base CX0 1 T.f_law_cell T.d_law_cell ["script", "k"] (sp_law_cell K) := by
  refine T.u_law_cell.ok sc_law_cell (fun vs H Q E h => ?_) (fun cdv A outer s H vs Q E hr h => ?_)
  · obtain ⟨Mc, c, mok, da, pre, q⟩ := h
    exact (dpa_len da)
  · obtain ⟨Mc, c, mok, da, pre, q⟩ := h
    obtain ⟨script_, k_⟩ := c
    dsimp only at da pre q
    obtain ⟨v0, w0, rfl, d0, da0⟩ := dpa_inv da
    obtain ⟨v1, w1, rfl, d1, da1⟩ := dpa_inv da0
    cases dpa_inv0 da1
    cases (Dt.int d1)
    have s0 : Sg K Mc H H [(v0, Dx.toX script_)] [] := Sg.enter mok ⟨d0, True.intro⟩
    refine ⟨_, (pss_cons (ps_if (pt_cmpR op_lt (pv 1) (pe_callB call_len (by rfl) T.n_len (by decide +kernel) (pa_cons (pv 0) pa_nil)) (nomark _)) (pss_cons (ps_ret (pe_ix ix_list (pv 0) (pv 1) (fun _ _ => rfl))) pss_nil) pss_nil) (pss_cons (ps_ret pe_int) pss_nil)), ?_⟩
    refine z_ifx (b := (decide (k_ < ((script_).length : Int)))) s0 (ht_val (K := K) (hv_lt (hv_vI rfl) (hv_len (hs_of (hv_var (x := script_) rfl s0.im.1))))) (fun hb1 Hs2 s2 => ?_) (fun hb1 Hs3 s3 => ?_)
    · have hb1P := hb1
      try simp only [decide_eq_true_eq, decide_eq_false_iff_not, Bool.not_eq_true', Bool.not_eq_false', Bool.and_eq_true, Bool.or_eq_true, Bool.or_eq_false_iff] at hb1P
      have hF4 : m_law_cell script_ k_ = (script_.getD (Int.toNat k_) 0) := (by  first | (simp only [m_law_cell, hb1, if_true, if_false, Bool.false_eq_true, decide_true, decide_false, Option.getD_some, Option.isNone_none, Option.isNone_some, Bool.not_true, Bool.not_false, ↓reduceIte]; done) | (rfl; done) | ((unfold m_law_cell); (dsimp only); (first | rw [ifT hb1] | rw [ifF hb1] | skip); (try dsimp only); first | done | rfl) | (exfalso; simp at hb1; done))
      exact zq_ret s2 (hv_at 0 (hs_of (hv_var (x := script_) rfl s2.im.1)) (hv_vI rfl) (by first | omega | decide +kernel | (simp only [List.length_cons, List.length_nil]; omega)) (by first | omega | decide +kernel | (simp only [List.length_cons, List.length_nil]; omega))) fun v H' e d => q v H' e (by rw [hF4]; exact d)
    · have hb1P := hb1
      try simp only [decide_eq_true_eq, decide_eq_false_iff_not, Bool.not_eq_true', Bool.not_eq_false', Bool.and_eq_true, Bool.or_eq_true, Bool.or_eq_false_iff] at hb1P
      have hF5 : m_law_cell script_ k_ = (0 : Int) := (by  first | (simp only [m_law_cell, hb1, if_true, if_false, Bool.false_eq_true, decide_true, decide_false, Option.getD_some, Option.isNone_none, Option.isNone_some, Bool.not_true, Bool.not_false, ↓reduceIte]; done) | (rfl; done) | ((unfold m_law_cell); (dsimp only); (first | rw [ifT hb1] | rw [ifF hb1] | skip); (try dsimp only); first | done | rfl) | (exfalso; simp at hb1; done))
      exact zq_ret s3 (hv_int 0) fun v H' e d => q v H' e (by rw [hF5]; exact d)
def m_law_draws_l0 (is_wide_ : Bool) (s_ : (List Int) × Int) (x_ : Int) : (List Int) × Int :=
  let found_ : (List Int) := s_.1
  let cell_ : Int := s_.2
  let k_ : Int := x_
  if is_wide_ = true then
    let found_ : (List Int) := found_ ++ [(cell_ % (1009 : Int))]
    let cell_ : Int := (cell_ / (1009 : Int))
    (found_, cell_)
  else
    let mixed_ : Int := (((cell_ * (48271 : Int)) + (k_ * (69621 : Int))) % (2147483647 : Int))
    let found_ : (List Int) := found_ ++ [((((mixed_ * mixed_) + (cell_ * (31 : Int))) + k_) % (1000003 : Int))]
    (found_, cell_)
def m_law_draws (cell_ : Int) (count_ : Int) : (List Int) :=
  let found_ : (List Int) := []
  let is_wide_ : Bool := (decide ((1000000000000000000 : Int) ≤ cell_))
  let r0_ : (List Int) × Int := loopN (m_law_draws_l0 is_wide_) (Int.toNat count_) (0 : Int) (found_, cell_)
  let found_ : (List Int) := r0_.1
  let cell_ : Int := r0_.2
  found_
abbrev s_law_draws : Stmt := (topS 18)
theorem sc_law_draws : FnScope ["cell", "count", "found", "is_wide", "k", "mixed"] ["cell", "count"] (defScope s_law_draws) := ⟨rfl, rfl, rfl, by decide +kernel, rfl, by decide +kernel, by decide +kernel⟩
abbrev sp_law_draws (K : PySem.W.Frag) : Sp := PrD K (fun c : Int × Int => [Dx.toX c.1, Dx.toX c.2]) (fun c => 0 ≤ c.2 ∧ c.2 ≤ 1000) (fun c => (m_law_draws c.1 c.2 : (List Int)))
theorem ok_law_draws (T : Txt P K mg) : FnOk P w K mg base CX0 1 T.f_law_draws T.d_law_draws ["cell", "count"] (sp_law_draws K) := by
  refine T.u_law_draws.ok sc_law_draws (fun vs H Q E h => ?_) (fun cdv A outer s H vs Q E hr h => ?_)
  · obtain ⟨Mc, c, mok, da, pre, q⟩ := h
    exact (dpa_len da)
  · obtain ⟨Mc, c, mok, da, pre, q⟩ := h
    obtain ⟨cell_, count_⟩ := c
    dsimp only at da pre q
    obtain ⟨v0, w0, rfl, d0, da0⟩ := dpa_inv da
    obtain ⟨v1, w1, rfl, d1, da1⟩ := dpa_inv da0
    cases dpa_inv0 da1
    cases (Dt.int d0)
    cases (Dt.int d1)
    have s0 : Sg K Mc H H [] [] := Sg.enter mok True.intro
    refine ⟨_, (pss_cons (ps_set (i := 2) sc_law_draws.nd rfl (.inl rfl) (pe_lst pa_nil)) (pss_cons (ps_set (i := 3) sc_law_draws.nd rfl (.inl rfl) (pe_cmpR op_ge (pv 0) (pe_op op_pow pe_int pe_int) (nomark _))) (pss_cons (ps_for PassesOwn.never rfl (pi_range1 (by rfl) T.n_range (pa_cons (pv 1) pa_nil)) (pg_name (i := 4) sc_law_draws.nd rfl (.inl rfl)) (pss_cons (ps_if (pt_val (pv 3)) (pss_cons (ps_expr (pe_bm PySem.F.plainAttrs_list PySem.F.slot_list_append PySem.F.type_list_append mt_append (pv 2) (pa_cons (pe_op op_mod (pe_callTy call_int1 (by rfl) T.n_int (by decide +kernel) (pa_cons (pv 0) pa_nil)) pe_int) pa_nil))) (pss_cons (ps_set (i := 0) sc_law_draws.nd rfl (.inl rfl) (pe_op op_fdivW (pv 0) pe_int)) pss_nil)) (pss_cons (ps_set (i := 5) sc_law_draws.nd rfl (.inl rfl) (pe_op op_mod (pe_callTy call_int1 (by rfl) T.n_int (by decide +kernel) (pa_cons (pe_op op_add (pe_op op_mul (pv 0) pe_int) (pe_op op_mul (pv 4) pe_int)) pa_nil)) pe_int)) (pss_cons (ps_expr (pe_bm PySem.F.plainAttrs_list PySem.F.slot_list_append PySem.F.type_list_append mt_append (pv 2) (pa_cons (pe_op op_mod (pe_callTy call_int1 (by rfl) T.n_int (by decide +kernel) (pa_cons (pe_op op_add (pe_op op_add (pe_op op_mul (pv 5) (pv 5)) (pe_op op_mul (pv 0) pe_int)) (pv 4)) pa_nil)) pe_int) pa_nil))) pss_nil))) pss_nil)) (pss_cons (ps_ret (pv 2)) pss_nil)))), ?_⟩
    refine z_nilG Int s0 fun found_2 hfound_2 ps1 Hs1 s1 => ?_
    have lfound_2 : found_2.length = 0 := by rw [hfound_2]; rfl
    refine z_asgBG s1 (hv_ge (hv_vI rfl) ((hv_pow (hv_int 10) (hv_int 18) ⟨by decide +kernel, by decide +kernel, by decide +kernel⟩).is (show _ = (1000000000000000000 : Int) by decide +kernel))) fun is_wide_4 his_wide_4 Hs3 s3 => ?_
    try dsimp only at his_wide_4
    refine zq_forR1G s3 (hv_vI rfl) (by first | omega | decide +kernel | (simp only [List.length_cons, List.length_nil]; omega)) (fun i σ' H' => ∃ (found_5 : (List Int)) (cell_6 : Int) (o7 : Option V) (o8 : Option V), (loopN (m_law_draws_l0 is_wide_4) (Int.toNat count_) (0 : Int) (found_2, cell_) : (List Int) × Int) = (loopN (m_law_draws_l0 is_wide_4) ((Int.toNat count_) - i) ((0 : Int) + (i : Int)) (found_5, cell_6) : (List Int) × Int) ∧ (found_5.length = (i)) ∧ σ' = [some (V.int cell_6), some (V.int count_), some (.ref ps1), some (V.bl is_wide_4), o7, o8] ∧ Sg K Mc H H' [] [(ps1, .lst (List.map Dx.toX found_5))]) (fun Hs9 s9 => ⟨found_2, cell_, _, _, (by simp), (by first | trivial | omega | (simp; done) | simp_all), rfl, s9.keep fun _ h => True.intro⟩) (fun i13 x14 σ' Hs12 hx15 hi16 hP => ?_) (fun σ' Hs12 hP => ?_)
    · obtain ⟨found_5, cell_6, o7, o8, he10, hg11, rfl, s12⟩ := hP
      refine z_if (b := is_wide_4) s12 (ht_B (K := K) (hv_vB rfl)) (fun hb18 Hs19 s19 => ?_) (fun hb18 Hs20 s20 => ?_)
      · have hb18P := hb18
        try simp only [decide_eq_true_eq, decide_eq_false_iff_not, Bool.not_eq_true', Bool.not_eq_false', Bool.and_eq_true, Bool.or_eq_true, Bool.or_eq_false_iff] at hb18P
        refine zq_appG s19 (kk := 0) rfl (ev_var rfl) (hv_mod (hv_intI (hv_vI rfl)) (hv_int 1009) (by first | omega | decide +kernel | (simp only [List.length_cons, List.length_nil]; omega))) (by first | omega | decide +kernel | (simp only [List.length_cons, List.length_nil]; omega)) fun found_22 hfound_22 Hs21 s21 => ?_
        have lfound_22 : found_22.length = found_5.length + 1 := by rw [hfound_22, List.length_append]; rfl
        have s21 : Sg K Mc _ _ _ [(ps1, .lst (List.map Dx.toX found_22))] := s21
        refine z_asgIG s21 (hv_div (hv_vI rfl) (hv_int 1009) (by first | exact ⟨by decide +kernel, by decide +kernel⟩ | (refine log_small ?_ ?_ <;> omega))) fun cell_24 hcell_24 Hs23 s23 => ?_
        try dsimp only at hcell_24
        have hf25 : (m_law_draws_l0 is_wide_4) (found_5, cell_6) x14 = (found_22, cell_24) := (by subst hcell_24; subst hfound_22; subst his_wide_4; subst hfound_2; first | (simp only [m_law_draws_l0, hb18, if_true, if_false, Bool.false_eq_true, decide_true, decide_false, Option.getD_some, Option.isNone_none, Option.isNone_some, Bool.not_true, Bool.not_false, ↓reduceIte]; done) | (rfl; done) | ((unfold m_law_draws_l0); (dsimp only); (first | rw [ifT hb18] | rw [ifF hb18] | skip); (try dsimp only); first | done | rfl) | (exfalso; simp at hb18; done))
        exact ⟨found_22, cell_24, _, _, he10.trans ((loopN_step hi16).trans (by rw [← hx15, hf25])), (by first | trivial | omega | (simp_all; done) | (simp_all; omega)), rfl, s23.keep fun _ h => True.intro⟩
      · have hb18P := hb18
        try simp only [decide_eq_true_eq, decide_eq_false_iff_not, Bool.not_eq_true', Bool.not_eq_false', Bool.and_eq_true, Bool.or_eq_true, Bool.or_eq_false_iff] at hb18P
        refine z_asgIG s20 (hv_mod (hv_intI (hv_add (hv_mul (hv_vI rfl) (hv_int 48271) (by first | exact Or.inr ⟨by omega, by omega⟩ | exact Or.inl ⟨by omega, by omega⟩ | (dsimp only; first | exact Or.inr ⟨by omega, by omega⟩ | exact Or.inl ⟨by omega, by omega⟩))) (hv_mul (hv_vI rfl) (hv_int 69621) (by first | exact Or.inr ⟨by omega, by omega⟩ | exact Or.inl ⟨by omega, by omega⟩ | (dsimp only; first | exact Or.inr ⟨by omega, by omega⟩ | exact Or.inl ⟨by omega, by omega⟩))))) (hv_int 2147483647) (by first | omega | decide +kernel | (simp only [List.length_cons, List.length_nil]; omega))) fun mixed_27 hmixed_27 Hs26 s26 => ?_
        try dsimp only at hmixed_27
        refine zq_appG s26 (kk := 0) rfl (ev_var rfl) (hv_mod (hv_intI (hv_add (hv_add (hv_mul (hv_vI rfl) (hv_vI rfl) (by first | exact Or.inr ⟨by omega, by omega⟩ | exact Or.inl ⟨by omega, by omega⟩ | (dsimp only; first | exact Or.inr ⟨by omega, by omega⟩ | exact Or.inl ⟨by omega, by omega⟩))) (hv_mul (hv_vI rfl) (hv_int 31) (by first | exact Or.inr ⟨by omega, by omega⟩ | exact Or.inl ⟨by omega, by omega⟩ | (dsimp only; first | exact Or.inr ⟨by omega, by omega⟩ | exact Or.inl ⟨by omega, by omega⟩)))) (hv_vI rfl))) (hv_int 1000003) (by first | omega | decide +kernel | (simp only [List.length_cons, List.length_nil]; omega))) (by first | omega | decide +kernel | (simp only [List.length_cons, List.length_nil]; omega)) fun found_29 hfound_29 Hs28 s28 => ?_
        have lfound_29 : found_29.length = found_5.length + 1 := by rw [hfound_29, List.length_append]; rfl
        have s28 : Sg K Mc _ _ _ [(ps1, .lst (List.map Dx.toX found_29))] := s28
        have hf30 : (m_law_draws_l0 is_wide_4) (found_5, cell_6) x14 = (found_29, cell_6) := (by subst hfound_29; subst hmixed_27; subst his_wide_4; subst hfound_2; first | (simp only [m_law_draws_l0, hb18, if_true, if_false, Bool.false_eq_true, decide_true, decide_false, Option.getD_some, Option.isNone_none, Option.isNone_some, Bool.not_true, Bool.not_false, ↓reduceIte]; done) | (rfl; done) | ((unfold m_law_draws_l0); (dsimp only); (first | rw [ifT hb18] | rw [ifF hb18] | skip); (try dsimp only); first | done | rfl) | (exfalso; simp at hb18; done))
        exact ⟨found_29, cell_6, _, _, he10.trans ((loopN_step hi16).trans (by rw [← hx15, hf30])), (by first | trivial | omega | (simp_all; done) | (simp_all; omega)), rfl, s28.keep fun _ h => True.intro⟩
    · obtain ⟨found_31, cell_32, o33, o34, he36, hg37, rfl, s35⟩ := hP
      rw [loopN_end] at he36
      have s38 := Sg.frz (xs := found_31) s35
      have hF39 : m_law_draws cell_ count_ = found_31 := (by subst his_wide_4; subst hfound_2; first | (simp only [m_law_draws, he36, if_true, if_false, Bool.false_eq_true, decide_true, decide_false, Option.getD_some, Option.isNone_none, Option.isNone_some, Bool.not_true, Bool.not_false, ↓reduceIte]; done) | (rfl; done) | ((unfold m_law_draws); (dsimp only); (first | rw [he36] | skip); (try dsimp only); first | done | rfl))
      exact zq_ret s38 (hv_var (x := found_31) rfl s38.im.1) fun v H' e d => q v H' e (by rw [hF39]; exact d)

theorem draws_len (c n : Int) : (m_law_draws c n).length = n.toNat := by
  have key := loopN_keep (f := m_law_draws_l0 (decide ((1000000000000000000 : Int) ≤ c))) (fun s j => s.1.length = j) (fun s k j h => by
    unfold m_law_draws_l0
    dsimp only
    split <;> (rw [List.length_append, h]; rfl)) n.toNat 0 ([], c) 0 rfl
  simpa [m_law_draws] using key

def m_law_is_exception_l0  (s_ : Unit) (x_ : PySem.Str) : Lp Bool (Unit) :=
  let sign_ : PySem.Str := x_
  if (!(inStr sign_ (PySem.Str.ofString "abcdefghijklmnopqrstuvwxyz-"))) = true then
    Lp.ret false
  else
    Lp.nxt ()
def m_law_is_exception (text_ : PySem.Str) : Bool :=
  if ((decide (text_ = (PySem.Str.ofString ""))) || ((decide ((strAt text_ (Int.toNat (0 : Int))) = (PySem.Str.ofString "-"))) || ((decide ((strAt text_ ((text_).length - 1)) = (PySem.Str.ofString "-"))) || (inStr (PySem.Str.ofString "--") text_)))) = true then
    false
  else
    match (loopL m_law_is_exception_l0 (chars text_) () : Bool ⊕ (Unit)) with
    | .inl rr_ => rr_
    | .inr r0_ =>
      true
abbrev s_law_is_exception : Stmt := (topS 21)
theorem sc_law_is_exception : FnScope ["text", "sign"] ["text"] (defScope s_law_is_exception) := ⟨rfl, rfl, rfl, by decide +kernel, rfl, by decide +kernel, by decide +kernel⟩
abbrev sp_law_is_exception (K : PySem.W.Frag) : Sp := PrD K (fun c : PySem.Str => [Dx.toX c]) (fun c => c.length ≤ 300) (fun c => (m_law_is_exception c : Bool))
theorem ok_law_is_exception (T : Txt P K mg) : FnOk P w K mg base CX0 1 T.f_law_is_exception T.d_law_is_exception ["text"] (sp_law_is_exception K) := by
  refine T.u_law_is_exception.ok sc_law_is_exception (fun vs H Q E h => ?_) (fun cdv A outer s H vs Q E hr h => ?_)
  · obtain ⟨Mc, c, mok, da, pre, q⟩ := h
    exact (dpa_len da)
  · obtain ⟨Mc, c, mok, da, pre, q⟩ := h
    obtain ⟨text_, rfl⟩ : ∃ z, z = c := ⟨c, rfl⟩
    dsimp only at da pre q
    obtain ⟨v0, w0, rfl, d0, da0⟩ := dpa_inv da
    cases dpa_inv0 da0
    cases (Dt.str d0)
    have s0 : Sg K Mc H H [] [] := Sg.enter mok True.intro
    have hchl := chars_len text_
    refine ⟨_, (pss_cons (ps_if (PW.pt (pw_or (pt_cmpR op_eq (pv 0) pe_str (nomark _)) (pw_or (pt_cmpR op_eq (pe_ix ix_str (pv 0) pe_int (fun _ _ => rfl)) pe_str (nomark _)) (pw_or (pt_cmpR op_eq (pe_ix ix_str (pv 0) (pe_un un_neg pe_int) (fun _ _ => rfl)) pe_str (nomark _)) (pw_or1 (pt_cmpR op_in_str pe_str (pv 0) (by rfl))))))) (pss_cons (ps_ret pe_bl) pss_nil) pss_nil) (pss_cons (ps_for PassesOwn.never rfl (pi_str (pv 0)) (pg_name (i := 1) sc_law_is_exception.nd rfl (.inl rfl)) (pss_cons (ps_if (pt_cmpR op_notin_str (pv 1) pe_str (by rfl)) (pss_cons (ps_ret pe_bl) pss_nil) pss_nil) pss_nil)) (pss_cons (ps_ret pe_bl) pss_nil))), ?_⟩
    refine z_ifx (b := ((decide (text_ = (PySem.Str.ofString ""))) || ((decide ((strAt text_ (Int.toNat (0 : Int))) = (PySem.Str.ofString "-"))) || ((decide ((strAt text_ ((text_).length - 1)) = (PySem.Str.ofString "-"))) || (inStr (PySem.Str.ofString "--") text_))))) s0 (ht_or (ht_val (K := K) (hv_eqS (hv_vS rfl) (hv_str _))) (fun hb0 => (ht_or (ht_val (K := K) (hv_eqS (hv_ixStr (hv_vS rfl) (hv_int 0) (by have := l_six; have := l_emp; have := l_dash; have := l_sg; first | omega | (simp only [str_len_app, strAt_len]; omega) | (refine Nat.le_trans (Nat.add_le_add_left (g_a _) _) ?_; omega) | (rw [str_len_app]; have := g_b; have := g_c; refine Nat.le_trans (Nat.add_le_add (Nat.add_le_add_right (g_b _) _) (g_c _)) ?_; omega) | (refine Nat.le_trans (Nat.add_le_add_right (g_b _) _) ?_; omega) | exact Nat.le_trans (aff_len _ _) (by omega)) (by first | omega | decide +kernel | (simp only [List.length_cons, List.length_nil]; omega)) (by have h9 := ne_emp hb0; omega)) (hv_str _))) (fun hb1 => (ht_or (ht_val (K := K) (hv_eqS (hv_lastS (hv_vS rfl) (by have := l_six; have := l_emp; have := l_dash; have := l_sg; first | omega | (simp only [str_len_app, strAt_len]; omega) | (refine Nat.le_trans (Nat.add_le_add_left (g_a _) _) ?_; omega) | (rw [str_len_app]; have := g_b; have := g_c; refine Nat.le_trans (Nat.add_le_add (Nat.add_le_add_right (g_b _) _) (g_c _)) ?_; omega) | (refine Nat.le_trans (Nat.add_le_add_right (g_b _) _) ?_; omega) | exact Nat.le_trans (aff_len _ _) (by omega)) (by exact ne_emp hb0)) (hv_str _))) (fun hb2 => (ht_val (K := K) (hv_inStr (hv_str _) (hv_vS rfl))))))))) (fun hb1 Hs2 s2 => ?_) (fun hb1 Hs3 s3 => ?_)
    · have hb1P := hb1
      try simp only [decide_eq_true_eq, decide_eq_false_iff_not, Bool.not_eq_true', Bool.not_eq_false', Bool.and_eq_true, Bool.or_eq_true, Bool.or_eq_false_iff] at hb1P
      have hF4 : m_law_is_exception text_ = false := (by  first | (simp only [m_law_is_exception, hb1, if_true, if_false, Bool.false_eq_true, decide_true, decide_false, Option.getD_some, Option.isNone_none, Option.isNone_some, Bool.not_true, Bool.not_false, ↓reduceIte]; done) | (rfl; done) | ((unfold m_law_is_exception); (dsimp only); (first | rw [ifT hb1] | rw [ifF hb1] | skip); (try dsimp only); first | done | rfl) | (exfalso; simp at hb1; done))
      exact zq_ret s2 (hv_bl false) fun v H' e d => q v H' e (by rw [hF4]; exact d)
    · have hb1P := hb1
      try simp only [decide_eq_true_eq, decide_eq_false_iff_not, Bool.not_eq_true', Bool.not_eq_false', Bool.and_eq_true, Bool.or_eq_true, Bool.or_eq_false_iff] at hb1P
      refine zq_forS s3 (hv_vS rfl) (fun i σ' H' => ∃ (o5 : Option V), (loopL m_law_is_exception_l0 (chars text_) () : Bool ⊕ (Unit)) = (loopL m_law_is_exception_l0 (List.drop i (chars text_)) () : Bool ⊕ (Unit)) ∧ True ∧ σ' = [some (V.str text_), o5] ∧ Sg K Mc H H' [] []) (fun Hs6 s6 => ⟨_, rfl, (by first | trivial | omega | (simp; done) | simp_all), rfl, s6.keep fun _ h => True.intro⟩) (fun i10 x11 σ' Hs9 hi13 hP => ?_) (fun σ' Hs9 hP => ?_)
      · obtain ⟨o5, he7, hg8, rfl, s9⟩ := hP
        have ox11 := chars_one hi13
        have qx11 := (List.getElem?_eq_some_iff.mp hi13).1
        refine z_ifx (b := (!(inStr x11 (PySem.Str.ofString "abcdefghijklmnopqrstuvwxyz-")))) s9 (ht_val (K := K) (hv_niStr (hv_vS rfl) (hv_str _))) (fun hb15 Hs16 s16 => ?_) (fun hb15 Hs17 s17 => ?_)
        · have hb15P := hb15
          try simp only [decide_eq_true_eq, decide_eq_false_iff_not, Bool.not_eq_true', Bool.not_eq_false', Bool.and_eq_true, Bool.or_eq_true, Bool.or_eq_false_iff] at hb15P
          have hf18 : m_law_is_exception_l0 () x11 = Lp.ret false := (by  first | (simp only [m_law_is_exception_l0, hb1, hb15, if_true, if_false, Bool.false_eq_true, decide_true, decide_false, Option.getD_some, Option.isNone_none, Option.isNone_some, Bool.not_true, Bool.not_false, ↓reduceIte]; done) | (rfl; done) | ((unfold m_law_is_exception_l0); (dsimp only); (first | rw [ifT hb1] | rw [ifF hb1] | skip); (try dsimp only); (first | rw [ifT hb15] | rw [ifF hb15] | skip); (try dsimp only); first | done | rfl) | (exfalso; simp at hb15; done) | (exfalso; simp at hb1; done))
          have hl19 := he7.trans (loopL_ret hi13 hf18)
          have hF20 : m_law_is_exception text_ = false := (by  first | (simp only [m_law_is_exception, hb1, hb15, hl19, if_true, if_false, Bool.false_eq_true, decide_true, decide_false, Option.getD_some, Option.isNone_none, Option.isNone_some, Bool.not_true, Bool.not_false, ↓reduceIte]; done) | (rfl; done) | ((unfold m_law_is_exception); (dsimp only); (first | rw [ifT hb1] | rw [ifF hb1] | skip); (try dsimp only); (first | rw [ifT hb15] | rw [ifF hb15] | skip); (try dsimp only); (first | rw [hl19] | skip); (try dsimp only); first | done | rfl) | (exfalso; simp at hb15; done) | (exfalso; simp at hb1; done))
          exact zq_ret s16 (hv_bl false) fun v H' e d => q v H' e (by rw [hF20]; exact d)
        · have hb15P := hb15
          try simp only [decide_eq_true_eq, decide_eq_false_iff_not, Bool.not_eq_true', Bool.not_eq_false', Bool.and_eq_true, Bool.or_eq_true, Bool.or_eq_false_iff] at hb15P
          have hf21 : m_law_is_exception_l0 () x11 = Lp.nxt () := (by  first | (simp only [m_law_is_exception_l0, hb1, hb15, if_true, if_false, Bool.false_eq_true, decide_true, decide_false, Option.getD_some, Option.isNone_none, Option.isNone_some, Bool.not_true, Bool.not_false, ↓reduceIte]; done) | (rfl; done) | ((unfold m_law_is_exception_l0); (dsimp only); (first | rw [ifT hb1] | rw [ifF hb1] | skip); (try dsimp only); (first | rw [ifT hb15] | rw [ifF hb15] | skip); (try dsimp only); first | done | rfl) | (exfalso; simp at hb15; done) | (exfalso; simp at hb1; done))
          exact ⟨_, he7.trans (loopL_nxt hi13 hf21), (by first | trivial | omega | (simp_all; done) | (simp_all; omega)), rfl, s17.keep fun _ h => True.intro⟩
      · obtain ⟨o22, he24, hg25, rfl, s23⟩ := hP
        rw [loopL_end] at he24
        have hF26 : m_law_is_exception text_ = true := (by  first | (simp only [m_law_is_exception, hb1, he24, if_true, if_false, Bool.false_eq_true, decide_true, decide_false, Option.getD_some, Option.isNone_none, Option.isNone_some, Bool.not_true, Bool.not_false, ↓reduceIte]; done) | (rfl; done) | ((unfold m_law_is_exception); (dsimp only); (first | rw [ifT hb1] | rw [ifF hb1] | skip); (try dsimp only); (first | rw [he24] | skip); (try dsimp only); first | done | rfl) | (exfalso; simp at hb1; done))
        exact zq_ret s23 (hv_bl true) fun v H' e d => q v H' e (by rw [hF26]; exact d)
def m_law_is_pattern_l0  (s_ : PySem.Str) (x_ : PySem.Str) : Lp Bool (PySem.Str) :=
  let signs_ : PySem.Str := s_
  let sign_ : PySem.Str := x_
  if (!(inStr sign_ (PySem.Str.ofString "abcdefghijklmnopqrstuvwxyz0123456789."))) = true then
    Lp.ret false
  else
    if (!(inStr sign_ (PySem.Str.ofString "0123456789"))) = true then
      let signs_ : PySem.Str := (signs_ ++ sign_)
      Lp.nxt signs_
    else
      Lp.nxt signs_
def m_law_is_pattern_l1 (signs_ : PySem.Str) (s_ : Unit) (x_ : Int) : Lp Bool (Unit) :=
  let k_ : Int := x_
  if ((decide ((strAt signs_ (Int.toNat k_)) = (PySem.Str.ofString "."))) && ((decide ((0 : Int) < k_)) && (decide (k_ < (((Str.length signs_ : Nat) : Int) - (1 : Int)))))) = true then
    Lp.ret false
  else
    Lp.nxt ()
def m_law_is_pattern_l2  (s_ : Unit) (x_ : PySem.Str) : Lp Bool (Unit) :=
  let sign_ : PySem.Str := x_
  if (!decide (sign_ = (PySem.Str.ofString "."))) = true then
    Lp.ret true
  else
    Lp.nxt ()
def m_law_is_pattern (text_ : PySem.Str) : Bool :=
  let signs_ : PySem.Str := (PySem.Str.ofString "")
  match (loopL m_law_is_pattern_l0 (chars text_) signs_ : Bool ⊕ (PySem.Str)) with
  | .inl rr_ => rr_
  | .inr r0_ =>
    let signs_ : PySem.Str := r0_
    if ((decide (signs_ = text_)) && (!(inStr (PySem.Str.ofString ".") text_))) = true then
      false
    else
      match (loopNR (m_law_is_pattern_l1 signs_) (Int.toNat ((Str.length signs_ : Nat) : Int)) (0 : Int) () : Bool ⊕ (Unit)) with
      | .inl rr_ => rr_
      | .inr r1_ =>
        match (loopL m_law_is_pattern_l2 (chars signs_) () : Bool ⊕ (Unit)) with
        | .inl rr_ => rr_
        | .inr r2_ =>
          false
abbrev s_law_is_pattern : Stmt := (topS 22)
theorem sc_law_is_pattern : FnScope ["text", "signs", "sign", "k"] ["text"] (defScope s_law_is_pattern) := ⟨rfl, rfl, rfl, by decide +kernel, rfl, by decide +kernel, by decide +kernel⟩
abbrev sp_law_is_pattern (K : PySem.W.Frag) : Sp := PrD K (fun c : PySem.Str => [Dx.toX c]) (fun c => c.length ≤ 300) (fun c => (m_law_is_pattern c : Bool))
theorem ok_law_is_pattern (T : Txt P K mg) : FnOk P w K mg base CX0 1 T.f_law_is_pattern T.d_law_is_pattern ["text"] (sp_law_is_pattern K) := by
  refine T.u_law_is_pattern.ok sc_law_is_pattern (fun vs H Q E h => ?_) (fun cdv A outer s H vs Q E hr h => ?_)
  · obtain ⟨Mc, c, mok, da, pre, q⟩ := h
    exact (dpa_len da)
  · obtain ⟨Mc, c, mok, da, pre, q⟩ := h
    obtain ⟨text_, rfl⟩ : ∃ z, z = c := ⟨c, rfl⟩
    dsimp only at da pre q
    obtain ⟨v0, w0, rfl, d0, da0⟩ := dpa_inv da
    cases dpa_inv0 da0
    cases (Dt.str d0)
    have s0 : Sg K Mc H H [] [] := Sg.enter mok True.intro
    have hchl := chars_len text_
    refine ⟨_, (pss_cons (ps_set (i := 1) sc_law_is_pattern.nd rfl (.inl rfl) pe_str) (pss_cons (ps_for PassesOwn.never rfl (pi_str (pv 0)) (pg_name (i := 2) sc_law_is_pattern.nd rfl (.inl rfl)) (pss_cons (ps_if (pt_cmpR op_notin_str (pv 2) pe_str (by rfl)) (pss_cons (ps_ret pe_bl) pss_nil) pss_nil) (pss_cons (ps_if (pt_cmpR op_notin_str (pv 2) pe_str (by rfl)) (pss_cons (ps_set (i := 1) sc_law_is_pattern.nd rfl (.inl rfl) (pe_op op_add_str (pv 1) (pv 2))) pss_nil) pss_nil) pss_nil))) (pss_cons (ps_if (PW.pt (pw_and (pt_cmpR op_eq (pv 1) (pv 0) (nomark _)) (pw_and1 (pt_cmpR op_notin_str pe_str (pv 0) (by rfl))))) (pss_cons (ps_ret pe_bl) pss_nil) pss_nil) (pss_cons (ps_for PassesOwn.never rfl (pi_range1 (by rfl) T.n_range (pa_cons (pe_callB call_len (by rfl) T.n_len (by decide +kernel) (pa_cons (pv 1) pa_nil)) pa_nil)) (pg_name (i := 3) sc_law_is_pattern.nd rfl (.inl rfl)) (pss_cons (ps_if (PW.pt (pw_and (pt_cmpR op_eq (pe_ix ix_str (pv 1) (pv 3) (fun _ _ => rfl)) pe_str (nomark _)) (pw_and1 (pt_chain op_lt op_lt pe_int (pv 3) (pe_op op_sub (pe_callB call_len (by rfl) T.n_len (by decide +kernel) (pa_cons (pv 1) pa_nil)) pe_int))))) (pss_cons (ps_ret pe_bl) pss_nil) pss_nil) pss_nil)) (pss_cons (ps_for PassesOwn.never rfl (pi_str (pv 1)) (pg_name (i := 2) sc_law_is_pattern.nd rfl (.inl rfl)) (pss_cons (ps_if (pt_cmpR op_ne (pv 2) pe_str (nomark _)) (pss_cons (ps_ret pe_bl) pss_nil) pss_nil) pss_nil)) (pss_cons (ps_ret pe_bl) pss_nil)))))), ?_⟩
    refine z_asgSG s0 (hv_str _) fun signs_2 hsigns_2 Hs1 s1 => ?_
    try dsimp only at hsigns_2
    refine zq_forS s1 (hv_vS rfl) (fun i σ' H' => ∃ (signs_3 : PySem.Str) (o4 : Option V) (o5 : Option V), (loopL m_law_is_pattern_l0 (chars text_) signs_2 : Bool ⊕ (PySem.Str)) = (loopL m_law_is_pattern_l0 (List.drop i (chars text_)) signs_3 : Bool ⊕ (PySem.Str)) ∧ (signs_3.length ≤ (i)) ∧ σ' = [some (V.str text_), some (V.str signs_3), o4, o5] ∧ Sg K Mc H H' [] []) (fun Hs6 s6 => ⟨signs_2, _, _, rfl, (by subst_vars; rw [l_emp]; exact Nat.zero_le _), rfl, s6.keep fun _ h => True.intro⟩) (fun i10 x11 σ' Hs9 hi13 hP => ?_) (fun σ' Hs9 hP => ?_)
    · obtain ⟨signs_3, o4, o5, he7, hg8, rfl, s9⟩ := hP
      have ox11 := chars_one hi13
      have qx11 := (List.getElem?_eq_some_iff.mp hi13).1
      refine z_ifx (b := (!(inStr x11 (PySem.Str.ofString "abcdefghijklmnopqrstuvwxyz0123456789.")))) s9 (ht_val (K := K) (hv_niStr (hv_vS rfl) (hv_str _))) (fun hb15 Hs16 s16 => ?_) (fun hb15 Hs17 s17 => ?_)
      · have hb15P := hb15
        try simp only [decide_eq_true_eq, decide_eq_false_iff_not, Bool.not_eq_true', Bool.not_eq_false', Bool.and_eq_true, Bool.or_eq_true, Bool.or_eq_false_iff] at hb15P
        have hf18 : m_law_is_pattern_l0 signs_3 x11 = Lp.ret false := (by subst hsigns_2; first | (simp only [m_law_is_pattern_l0, hb15, if_true, if_false, Bool.false_eq_true, decide_true, decide_false, Option.getD_some, Option.isNone_none, Option.isNone_some, Bool.not_true, Bool.not_false, ↓reduceIte]; done) | (rfl; done) | ((unfold m_law_is_pattern_l0); (dsimp only); (first | rw [ifT hb15] | rw [ifF hb15] | skip); (try dsimp only); first | done | rfl) | (exfalso; simp at hb15; done))
        have hl19 := he7.trans (loopL_ret hi13 hf18)
        have hF20 : m_law_is_pattern text_ = false := (by subst hsigns_2; first | (simp only [m_law_is_pattern, hb15, hl19, if_true, if_false, Bool.false_eq_true, decide_true, decide_false, Option.getD_some, Option.isNone_none, Option.isNone_some, Bool.not_true, Bool.not_false, ↓reduceIte]; done) | (rfl; done) | ((unfold m_law_is_pattern); (dsimp only); (first | rw [ifT hb15] | rw [ifF hb15] | skip); (try dsimp only); (first | rw [hl19] | skip); (try dsimp only); first | done | rfl) | (exfalso; simp at hb15; done))
        exact zq_ret s16 (hv_bl false) fun v H' e d => q v H' e (by rw [hF20]; exact d)
      · have hb15P := hb15
        try simp only [decide_eq_true_eq, decide_eq_false_iff_not, Bool.not_eq_true', Bool.not_eq_false', Bool.and_eq_true, Bool.or_eq_true, Bool.or_eq_false_iff] at hb15P
        refine z_ifx (b := (!(inStr x11 (PySem.Str.ofString "0123456789")))) s17 (ht_val (K := K) (hv_niStr (hv_vS rfl) (hv_str _))) (fun hb21 Hs22 s22 => ?_) (fun hb21 Hs23 s23 => ?_)
        · have hb21P := hb21
          try simp only [decide_eq_true_eq, decide_eq_false_iff_not, Bool.not_eq_true', Bool.not_eq_false', Bool.and_eq_true, Bool.or_eq_true, Bool.or_eq_false_iff] at hb21P
          refine z_asgSG s22 (hv_addS (hv_vS rfl) (hv_vS rfl) (by have := l_six; have := l_emp; have := l_dash; have := l_sg; first | omega | (simp only [str_len_app, strAt_len]; omega) | (refine Nat.le_trans (Nat.add_le_add_left (g_a _) _) ?_; omega) | (rw [str_len_app]; have := g_b; have := g_c; refine Nat.le_trans (Nat.add_le_add (Nat.add_le_add_right (g_b _) _) (g_c _)) ?_; omega) | (refine Nat.le_trans (Nat.add_le_add_right (g_b _) _) ?_; omega) | exact Nat.le_trans (aff_len _ _) (by omega))) fun signs_25 hsigns_25 Hs24 s24 => ?_
          try dsimp only at hsigns_25
          have ltsigns_25 : signs_25.length = _ := (congrArg Str.length hsigns_25).trans (str_len_app _ _)
          try simp only [str_len_app, strAt_len] at ltsigns_25
          have hf26 : m_law_is_pattern_l0 signs_3 x11 = Lp.nxt signs_25 := (by subst hsigns_25; subst hsigns_2; first | (simp only [m_law_is_pattern_l0, hb15, hb21, if_true, if_false, Bool.false_eq_true, decide_true, decide_false, Option.getD_some, Option.isNone_none, Option.isNone_some, Bool.not_true, Bool.not_false, ↓reduceIte]; done) | (rfl; done) | ((unfold m_law_is_pattern_l0); (dsimp only); (first | rw [ifT hb15] | rw [ifF hb15] | skip); (try dsimp only); (first | rw [ifT hb21] | rw [ifF hb21] | skip); (try dsimp only); first | done | rfl) | (exfalso; simp at hb21; done) | (exfalso; simp at hb15; done))
          exact ⟨signs_25, _, _, he7.trans (loopL_nxt hi13 hf26), (by first | trivial | omega | (simp_all; done) | (simp_all; omega)), rfl, s24.keep fun _ h => True.intro⟩
        · have hb21P := hb21
          try simp only [decide_eq_true_eq, decide_eq_false_iff_not, Bool.not_eq_true', Bool.not_eq_false', Bool.and_eq_true, Bool.or_eq_true, Bool.or_eq_false_iff] at hb21P
          have hf27 : m_law_is_pattern_l0 signs_3 x11 = Lp.nxt signs_3 := (by subst hsigns_2; first | (simp only [m_law_is_pattern_l0, hb15, hb21, if_true, if_false, Bool.false_eq_true, decide_true, decide_false, Option.getD_some, Option.isNone_none, Option.isNone_some, Bool.not_true, Bool.not_false, ↓reduceIte]; done) | (rfl; done) | ((unfold m_law_is_pattern_l0); (dsimp only); (first | rw [ifT hb15] | rw [ifF hb15] | skip); (try dsimp only); (first | rw [ifT hb21] | rw [ifF hb21] | skip); (try dsimp only); first | done | rfl) | (exfalso; simp at hb21; done) | (exfalso; simp at hb15; done))
          exact ⟨signs_3, _, _, he7.trans (loopL_nxt hi13 hf27), (by first | trivial | omega | (simp_all; done) | (simp_all; omega)), rfl, s23.keep fun _ h => True.intro⟩
    · obtain ⟨signs_28, o29, o30, he32, hg33, rfl, s31⟩ := hP
      rw [loopL_end] at he32
      refine z_ifx (b := ((decide (signs_28 = text_)) && (!(inStr (PySem.Str.ofString ".") text_)))) s31 (ht_and (ht_val (K := K) (hv_eqS (hv_vS rfl) (hv_vS rfl))) (fun hb0 => (ht_val (K := K) (hv_niStr (hv_str _) (hv_vS rfl))))) (fun hb34 Hs35 s35 => ?_) (fun hb34 Hs36 s36 => ?_)
      · have hb34P := hb34
        try simp only [decide_eq_true_eq, decide_eq_false_iff_not, Bool.not_eq_true', Bool.not_eq_false', Bool.and_eq_true, Bool.or_eq_true, Bool.or_eq_false_iff] at hb34P
        have hF37 : m_law_is_pattern text_ = false := (by subst hsigns_2; first | (simp only [m_law_is_pattern, he32, hb34, if_true, if_false, Bool.false_eq_true, decide_true, decide_false, Option.getD_some, Option.isNone_none, Option.isNone_some, Bool.not_true, Bool.not_false, ↓reduceIte]; done) | (rfl; done) | ((unfold m_law_is_pattern); (dsimp only); (first | rw [he32] | skip); (try dsimp only); (first | rw [ifT hb34] | rw [ifF hb34] | skip); (try dsimp only); first | done | rfl) | (exfalso; simp at hb34; done))
        exact zq_ret s35 (hv_bl false) fun v H' e d => q v H' e (by rw [hF37]; exact d)
      · have hb34P := hb34
        try simp only [decide_eq_true_eq, decide_eq_false_iff_not, Bool.not_eq_true', Bool.not_eq_false', Bool.and_eq_true, Bool.or_eq_true, Bool.or_eq_false_iff] at hb34P
        refine zq_forR1G s36 (hv_lenS (hv_vS rfl) (by have := l_six; have := l_emp; have := l_dash; have := l_sg; first | omega | (simp only [str_len_app, strAt_len]; omega) | (refine Nat.le_trans (Nat.add_le_add_left (g_a _) _) ?_; omega) | (rw [str_len_app]; have := g_b; have := g_c; refine Nat.le_trans (Nat.add_le_add (Nat.add_le_add_right (g_b _) _) (g_c _)) ?_; omega) | (refine Nat.le_trans (Nat.add_le_add_right (g_b _) _) ?_; omega) | exact Nat.le_trans (aff_len _ _) (by omega))) (by first | omega | decide +kernel | (simp only [List.length_cons, List.length_nil]; omega)) (fun i σ' H' => ∃ (o38 : Option V) (o39 : Option V), (loopNR (m_law_is_pattern_l1 signs_28) (Int.toNat ((Str.length signs_28 : Nat) : Int)) (0 : Int) () : Bool ⊕ (Unit)) = (loopNR (m_law_is_pattern_l1 signs_28) ((Int.toNat ((Str.length signs_28 : Nat) : Int)) - i) ((0 : Int) + (i : Int)) () : Bool ⊕ (Unit)) ∧ True ∧ σ' = [some (V.str text_), some (V.str signs_28), o38, o39] ∧ Sg K Mc H H' [] []) (fun Hs40 s40 => ⟨_, _, (by simp), (by first | trivial | omega | (simp; done) | simp_all), rfl, s40.keep fun _ h => True.intro⟩) (fun i44 x45 σ' Hs43 hx46 hi47 hP => ?_) (fun σ' Hs43 hP => ?_)
        · obtain ⟨o38, o39, he41, hg42, rfl, s43⟩ := hP
          refine z_ifx (b := ((decide ((strAt signs_28 (Int.toNat x45)) = (PySem.Str.ofString "."))) && ((decide ((0 : Int) < x45)) && (decide (x45 < (((Str.length signs_28 : Nat) : Int) - (1 : Int))))))) s43 (ht_and (ht_val (K := K) (hv_eqS (hv_ixStr (hv_vS rfl) (hv_vI rfl) (by have := l_six; have := l_emp; have := l_dash; have := l_sg; first | omega | (simp only [str_len_app, strAt_len]; omega) | (refine Nat.le_trans (Nat.add_le_add_left (g_a _) _) ?_; omega) | (rw [str_len_app]; have := g_b; have := g_c; refine Nat.le_trans (Nat.add_le_add (Nat.add_le_add_right (g_b _) _) (g_c _)) ?_; omega) | (refine Nat.le_trans (Nat.add_le_add_right (g_b _) _) ?_; omega) | exact Nat.le_trans (aff_len _ _) (by omega)) (by first | omega | decide +kernel | (simp only [List.length_cons, List.length_nil]; omega)) (by have := l_six; have := l_emp; have := l_dash; have := l_sg; first | omega | (simp only [str_len_app, strAt_len]; omega) | (refine Nat.le_trans (Nat.add_le_add_left (g_a _) _) ?_; omega) | (rw [str_len_app]; have := g_b; have := g_c; refine Nat.le_trans (Nat.add_le_add (Nat.add_le_add_right (g_b _) _) (g_c _)) ?_; omega) | (refine Nat.le_trans (Nat.add_le_add_right (g_b _) _) ?_; omega) | exact Nat.le_trans (aff_len _ _) (by omega))) (hv_str _))) (fun hb0 => (ht_val (K := K) (hv_chainI (g1 := fun i j => decide (i < j)) (g2 := fun i j => decide (i < j)) (hv_int 0) (hv_vI rfl) (hv_sub (hv_lenS (hv_vS rfl) (by have := l_six; have := l_emp; have := l_dash; have := l_sg; first | omega | (simp only [str_len_app, strAt_len]; omega) | (refine Nat.le_trans (Nat.add_le_add_left (g_a _) _) ?_; omega) | (rw [str_len_app]; have := g_b; have := g_c; refine Nat.le_trans (Nat.add_le_add (Nat.add_le_add_right (g_b _) _) (g_c _)) ?_; omega) | (refine Nat.le_trans (Nat.add_le_add_right (g_b _) _) ?_; omega) | exact Nat.le_trans (aff_len _ _) (by omega))) (hv_int 1)))))) (fun hb49 Hs50 s50 => ?_) (fun hb49 Hs51 s51 => ?_)
          · have hb49P := hb49
            try simp only [decide_eq_true_eq, decide_eq_false_iff_not, Bool.not_eq_true', Bool.not_eq_false', Bool.and_eq_true, Bool.or_eq_true, Bool.or_eq_false_iff] at hb49P
            have hf52 : (m_law_is_pattern_l1 signs_28) () x45 = Lp.ret false := (by subst hsigns_2; first | (simp only [m_law_is_pattern_l1, he32, hb34, hb49, if_true, if_false, Bool.false_eq_true, decide_true, decide_false, Option.getD_some, Option.isNone_none, Option.isNone_some, Bool.not_true, Bool.not_false, ↓reduceIte]; done) | (rfl; done) | ((unfold m_law_is_pattern_l1); (dsimp only); (first | rw [he32] | skip); (try dsimp only); (first | rw [ifT hb34] | rw [ifF hb34] | skip); (try dsimp only); (first | rw [ifT hb49] | rw [ifF hb49] | skip); (try dsimp only); first | done | rfl) | (exfalso; simp at hb49; done) | (exfalso; simp at hb34; done))
            have hl53 := he41.trans (loopNR_ret hi47 (by (try dsimp only); rw [← hx46]; exact hf52))
            have hF54 : m_law_is_pattern text_ = false := (by subst hsigns_2; first | (simp only [m_law_is_pattern, he32, hb34, hb49, hl53, if_true, if_false, Bool.false_eq_true, decide_true, decide_false, Option.getD_some, Option.isNone_none, Option.isNone_some, Bool.not_true, Bool.not_false, ↓reduceIte]; done) | (rfl; done) | ((unfold m_law_is_pattern); (dsimp only); (first | rw [he32] | skip); (try dsimp only); (first | rw [ifT hb34] | rw [ifF hb34] | skip); (try dsimp only); (first | rw [ifT hb49] | rw [ifF hb49] | skip); (try dsimp only); (first | rw [hl53] | skip); (try dsimp only); first | done | rfl) | (exfalso; simp at hb49; done) | (exfalso; simp at hb34; done))
            exact zq_ret s50 (hv_bl false) fun v H' e d => q v H' e (by rw [hF54]; exact d)
          · have hb49P := hb49
            try simp only [decide_eq_true_eq, decide_eq_false_iff_not, Bool.not_eq_true', Bool.not_eq_false', Bool.and_eq_true, Bool.or_eq_true, Bool.or_eq_false_iff] at hb49P
            have hf55 : (m_law_is_pattern_l1 signs_28) () x45 = Lp.nxt () := (by subst hsigns_2; first | (simp only [m_law_is_pattern_l1, he32, hb34, hb49, if_true, if_false, Bool.false_eq_true, decide_true, decide_false, Option.getD_some, Option.isNone_none, Option.isNone_some, Bool.not_true, Bool.not_false, ↓reduceIte]; done) | (rfl; done) | ((unfold m_law_is_pattern_l1); (dsimp only); (first | rw [he32] | skip); (try dsimp only); (first | rw [ifT hb34] | rw [ifF hb34] | skip); (try dsimp only); (first | rw [ifT hb49] | rw [ifF hb49] | skip); (try dsimp only); first | done | rfl) | (exfalso; simp at hb49; done) | (exfalso; simp at hb34; done))
            exact ⟨_, _, he41.trans (loopNR_nxt hi47 (by rw [← hx46]; exact hf55)), (by first | trivial | omega | (simp_all; done) | (simp_all; omega)), rfl, s51.keep fun _ h => True.intro⟩
        · obtain ⟨o56, o57, he59, hg60, rfl, s58⟩ := hP
          rw [loopNR_end] at he59
          refine zq_forS s58 (hv_vS rfl) (fun i σ' H' => ∃ (o61 : Option V) (o62 : Option V), (loopL m_law_is_pattern_l2 (chars signs_28) () : Bool ⊕ (Unit)) = (loopL m_law_is_pattern_l2 (List.drop i (chars signs_28)) () : Bool ⊕ (Unit)) ∧ True ∧ σ' = [some (V.str text_), some (V.str signs_28), o61, o62] ∧ Sg K Mc H H' [] []) (fun Hs63 s63 => ⟨_, _, rfl, (by first | trivial | omega | (simp; done) | simp_all), rfl, s63.keep fun _ h => True.intro⟩) (fun i67 x68 σ' Hs66 hi70 hP => ?_) (fun σ' Hs66 hP => ?_)
          · obtain ⟨o61, o62, he64, hg65, rfl, s66⟩ := hP
            have ox68 := chars_one hi70
            have qx68 := (List.getElem?_eq_some_iff.mp hi70).1
            refine z_ifx (b := (!decide (x68 = (PySem.Str.ofString ".")))) s66 (ht_val (K := K) (hv_neS (hv_vS rfl) (hv_str _))) (fun hb72 Hs73 s73 => ?_) (fun hb72 Hs74 s74 => ?_)
            · have hb72P := hb72
              try simp only [decide_eq_true_eq, decide_eq_false_iff_not, Bool.not_eq_true', Bool.not_eq_false', Bool.and_eq_true, Bool.or_eq_true, Bool.or_eq_false_iff] at hb72P
              have hf75 : m_law_is_pattern_l2 () x68 = Lp.ret true := (by subst hsigns_2; first | (simp only [m_law_is_pattern_l2, he32, hb34, he59, hb72, if_true, if_false, Bool.false_eq_true, decide_true, decide_false, Option.getD_some, Option.isNone_none, Option.isNone_some, Bool.not_true, Bool.not_false, ↓reduceIte]; done) | (rfl; done) | ((unfold m_law_is_pattern_l2); (dsimp only); (first | rw [he32] | skip); (try dsimp only); (first | rw [ifT hb34] | rw [ifF hb34] | skip); (try dsimp only); (first | rw [he59] | skip); (try dsimp only); (first | rw [ifT hb72] | rw [ifF hb72] | skip); (try dsimp only); first | done | rfl) | (exfalso; simp at hb72; done) | (exfalso; simp at hb34; done))
              have hl76 := he64.trans (loopL_ret hi70 hf75)
              have hF77 : m_law_is_pattern text_ = true := (by subst hsigns_2; first | (simp only [m_law_is_pattern, he32, hb34, he59, hb72, hl76, if_true, if_false, Bool.false_eq_true, decide_true, decide_false, Option.getD_some, Option.isNone_none, Option.isNone_some, Bool.not_true, Bool.not_false, ↓reduceIte]; done) | (rfl; done) | ((unfold m_law_is_pattern); (dsimp only); (first | rw [he32] | skip); (try dsimp only); (first | rw [ifT hb34] | rw [ifF hb34] | skip); (try dsimp only); (first | rw [he59] | skip); (try dsimp only); (first | rw [ifT hb72] | rw [ifF hb72] | skip); (try dsimp only); (first | rw [hl76] | skip); (try dsimp only); first | done | rfl) | (exfalso; simp at hb72; done) | (exfalso; simp at hb34; done))
              exact zq_ret s73 (hv_bl true) fun v H' e d => q v H' e (by rw [hF77]; exact d)
            · have hb72P := hb72
              try simp only [decide_eq_true_eq, decide_eq_false_iff_not, Bool.not_eq_true', Bool.not_eq_false', Bool.and_eq_true, Bool.or_eq_true, Bool.or_eq_false_iff] at hb72P
              have hf78 : m_law_is_pattern_l2 () x68 = Lp.nxt () := (by subst hsigns_2; first | (simp only [m_law_is_pattern_l2, he32, hb34, he59, hb72, if_true, if_false, Bool.false_eq_true, decide_true, decide_false, Option.getD_some, Option.isNone_none, Option.isNone_some, Bool.not_true, Bool.not_false, ↓reduceIte]; done) | (rfl; done) | ((unfold m_law_is_pattern_l2); (dsimp only); (first | rw [he32] | skip); (try dsimp only); (first | rw [ifT hb34] | rw [ifF hb34] | skip); (try dsimp only); (first | rw [he59] | skip); (try dsimp only); (first | rw [ifT hb72] | rw [ifF hb72] | skip); (try dsimp only); first | done | rfl) | (exfalso; simp at hb72; done) | (exfalso; simp at hb34; done))
              exact ⟨_, _, he64.trans (loopL_nxt hi70 hf78), (by first | trivial | omega | (simp_all; done) | (simp_all; omega)), rfl, s74.keep fun _ h => True.intro⟩
          · obtain ⟨o79, o80, he82, hg83, rfl, s81⟩ := hP
            rw [loopL_end] at he82
            have hF84 : m_law_is_pattern text_ = false := (by subst hsigns_2; first | (simp only [m_law_is_pattern, he32, hb34, he59, he82, if_true, if_false, Bool.false_eq_true, decide_true, decide_false, Option.getD_some, Option.isNone_none, Option.isNone_some, Bool.not_true, Bool.not_false, ↓reduceIte]; done) | (rfl; done) | ((unfold m_law_is_pattern); (dsimp only); (first | rw [he32] | skip); (try dsimp only); (first | rw [ifT hb34] | rw [ifF hb34] | skip); (try dsimp only); (first | rw [he59] | skip); (try dsimp only); (first | rw [he82] | skip); (try dsimp only); first | done | rfl) | (exfalso; simp at hb34; done))
            exact zq_ret s81 (hv_bl false) fun v H' e d => q v H' e (by rw [hF84]; exact d)
def m_is_exception (text_ : PySem.Str) : Bool :=
  (List.all (List.map (fun (c_ : PySem.Str) => (m_is_word c_)) (Txt.split text_ (PySem.Str.ofString "-"))) id)
abbrev s_is_exception : Stmt := (topS 13)
theorem sc_is_exception : FnScope ["text", "part"] ["text"] (defScope s_is_exception) := ⟨rfl, rfl, rfl, by decide +kernel, rfl, by decide +kernel, by decide +kernel⟩
abbrev sp_is_exception (K : PySem.W.Frag) : Sp := PrD K (fun c : PySem.Str => [Dx.toX c]) (fun c => c.length ≤ 100) (fun c => (m_is_exception c : Bool))
theorem ok_is_exception (T : Txt P K mg) : FnOk P w K mg base CX0 2 T.f_is_exception T.d_is_exception ["text"] (sp_is_exception K) := by
  refine T.u_is_exception.ok sc_is_exception (fun vs H Q E h => ?_) (fun cdv A outer s H vs Q E hr h => ?_)
  · obtain ⟨Mc, c, mok, da, pre, q⟩ := h
    exact (dpa_len da)
  · obtain ⟨Mc, c, mok, da, pre, q⟩ := h
    obtain ⟨text_, rfl⟩ : ∃ z, z = c := ⟨c, rfl⟩
    dsimp only at da pre q
    obtain ⟨v0, w0, rfl, d0, da0⟩ := dpa_inv da
    cases dpa_inv0 da0
    cases (Dt.str d0)
    have s0 : Sg K Mc H H [] [] := Sg.enter mok True.intro
    refine ⟨_, (pss_cons (ps_ret (pe_callB (cr_all rfl) (by rfl) T.n_all (by decide +kernel) (pa_cons (pe_lc (own := [("part", 1)]) (g := gName 1) rfl sc_is_exception.nd (pi_list (pe_m1 PySem.F.slot_str_split PySem.F.type_str_split mt_split (pv 0) pe_str)) (blkOk_by (own := [("part", 1)]) (N := ["text", "part"]) (sc := defScope s_is_exception) (by decide +kernel)) (fun _ _ _ _ _ => (pg_name (i := 1) sc_is_exception.nd rfl (Or.inl rfl) (.inr (by rfl)))) (fun _ _ _ _ _ => pts_nil) (fun _ _ _ _ _ => (pe_call (ok_is_word T) hr (by rfl) T.g_is_word T.u_is_word.kp T.b_is_word .nil pass0 (pa_cons (pv 1) pa_nil)))) pa_nil))) pss_nil), ?_⟩
    have hF1 : m_is_exception text_ = (List.all (List.map (fun (c_ : PySem.Str) => (m_is_word c_)) (Txt.split text_ (PySem.Str.ofString "-"))) id) := (by  first | (simp only [m_is_exception, if_true, if_false, Bool.false_eq_true, decide_true, decide_false, Option.getD_some, Option.isNone_none, Option.isNone_some, Bool.not_true, Bool.not_false, ↓reduceIte]; done) | (rfl; done) | ((unfold m_is_exception); (dsimp only); first | done | rfl))
    exact zq_ret s0 (hv_allL (hs_of (hv_lcL0 s0 (fun (c_ : PySem.Str) => (m_is_word c_)) (hv_hf (hf_split (hv_vS rfl) (hv_str _) (by decide +kernel) (by have := l_six; have := l_emp; have := l_dash; have := l_sg; first | omega | (simp only [str_len_app, strAt_len]; omega) | (refine Nat.le_trans (Nat.add_le_add_left (g_a _) _) ?_; omega) | (rw [str_len_app]; have := g_b; have := g_c; refine Nat.le_trans (Nat.add_le_add (Nat.add_le_add_right (g_b _) _) (g_c _)) ?_; omega) | (refine Nat.le_trans (Nat.add_le_add_right (g_b _) _) ?_; omega) | exact Nat.le_trans (aff_len _ _) (by omega)))) (by have h9 := split_le text_ (PySem.Str.ofString "-"); omega) (fun D3 src7 c4 w5 ys6 Hs2 s2 hx8 Q k => by cases (Dt.str s2.im.1); have pl9 := Nat.le_trans (part_short hx8) pre; exact k _ rfl (hv_call c4 (hd_cons (hv_vS rfl) hd_nil) (by first | exact pl9 | exact wl9)))))) fun v H' e d => q v H' e (by rw [hF1]; exact d)
def m_is_pattern (text_ : PySem.Str) : Bool :=
  let plain_ : PySem.Str := (Txt.join (PySem.Str.ofString "") (List.map (fun (c_ : PySem.Str) => c_) (List.filter (fun (c_ : PySem.Str) => (!(inStr c_ (PySem.Str.ofString "0123456789")))) (chars text_))))
  let word_ : PySem.Str := (Txt.removesuffix (Txt.removeprefix plain_ (PySem.Str.ofString ".")) (PySem.Str.ofString "."))
  ((!decide (word_ = text_)) && (m_is_word word_))
abbrev s_is_pattern : Stmt := (topS 14)
theorem sc_is_pattern : FnScope ["text", "plain", "sign", "word"] ["text"] (defScope s_is_pattern) := ⟨rfl, rfl, rfl, by decide +kernel, rfl, by decide +kernel, by decide +kernel⟩
abbrev sp_is_pattern (K : PySem.W.Frag) : Sp := PrD K (fun c : PySem.Str => [Dx.toX c]) (fun c => c.length ≤ 100) (fun c => (m_is_pattern c : Bool))
theorem ok_is_pattern (T : Txt P K mg) : FnOk P w K mg base CX0 2 T.f_is_pattern T.d_is_pattern ["text"] (sp_is_pattern K) := by
  refine T.u_is_pattern.ok sc_is_pattern (fun vs H Q E h => ?_) (fun cdv A outer s H vs Q E hr h => ?_)
  · obtain ⟨Mc, c, mok, da, pre, q⟩ := h
    exact (dpa_len da)
  · obtain ⟨Mc, c, mok, da, pre, q⟩ := h
    obtain ⟨text_, rfl⟩ : ∃ z, z = c := ⟨c, rfl⟩
    dsimp only at da pre q
    obtain ⟨v0, w0, rfl, d0, da0⟩ := dpa_inv da
    cases dpa_inv0 da0
    cases (Dt.str d0)
    have s0 : Sg K Mc H H [] [] := Sg.enter mok True.intro
    refine ⟨_, (pss_cons (ps_set (i := 1) sc_is_pattern.nd rfl (.inl rfl) (pe_join pe_str (pe_lc (own := [("sign", 2)]) (g := gName 2) rfl sc_is_pattern.nd (pi_str (pv 0)) (blkOk_by (own := [("sign", 2)]) (N := ["text", "plain", "sign", "word"]) (sc := defScope s_is_pattern) (by decide +kernel)) (fun _ _ _ _ _ => (pg_name (i := 2) sc_is_pattern.nd rfl (Or.inl rfl) (.inr (by rfl)))) (fun _ _ _ _ _ => pts_one (pt_cmpR op_notin_str (pv 2) (pe_glob (v := .str (PySem.Str.ofString "0123456789")) rfl T.g_DIGITS ⟨_, rfl⟩) (by rfl))) (fun _ _ _ _ _ => (pv 2))))) (pss_cons (ps_set (i := 3) sc_is_pattern.nd rfl (.inl rfl) (pe_m1 PySem.F.slot_str_removesuffix PySem.F.type_str_removesuffix mt_removesuffix (pe_m1 PySem.F.slot_str_removeprefix PySem.F.type_str_removeprefix mt_removeprefix (pv 1) pe_str) pe_str)) (pss_cons (ps_ret (pe_and (pe_cmpR op_ne (pv 3) (pv 0) (nomark _)) (pe_one (pe_call (ok_is_word T) hr (by rfl) T.g_is_word T.u_is_word.kp T.b_is_word .nil pass0 (pa_cons (pv 3) pa_nil))))) pss_nil))), ?_⟩
    refine z_asgSG s0 (hv_join (hv_str _) (hs_of (hv_hf (hf_lcT s0 (fun (c_ : PySem.Str) => (!(inStr c_ (PySem.Str.ofString "0123456789")))) (fun (c_ : PySem.Str) => c_) (hv_vS rfl) (by first | omega | decide +kernel | (simp only [List.length_cons, List.length_nil]; omega)) (fun D4 c5 ys7 Hs3 s3 hx9 Q k => by have oc5 : Str.length c5 = 1 := (by obtain ⟨_, h9⟩ := hx9; exact chars_one h9); exact k _ rfl (ht_val (K := K) (hv_niStr (hv_vS rfl) (hv_str _))) (fun hf => (hv_vS rfl)))))) (by first | (refine Nat.le_trans (Nat.add_le_add_right (sum_le _ 1 (fun x => Nat.le_of_eq (strAt_len _ _)) _) _) ?_; simp only [List.length_map, irng_len, l_emp]; omega) | exact Nat.le_trans (dash_len _) (by omega) | (rw [l_emp]; have h9 := fil_sum text_; simp only [Nat.mul_zero]; first | omega | exact Nat.le_trans (Nat.add_le_add_right (h9 _) _) (by omega)))) fun plain_2 hplain_2 Hs1 s1 => ?_
    try dsimp only at hplain_2
    have pl9 : plain_2.length ≤ 100 := by rw [hplain_2]; exact Nat.le_trans (plain_len _ _) pre
    refine z_asgSG s1 (hv_removesuffix (hv_removeprefix (hv_vS rfl) (hv_str _) (by have := l_six; have := l_emp; have := l_dash; have := l_sg; first | omega | (simp only [str_len_app, strAt_len]; omega) | (refine Nat.le_trans (Nat.add_le_add_left (g_a _) _) ?_; omega) | (rw [str_len_app]; have := g_b; have := g_c; refine Nat.le_trans (Nat.add_le_add (Nat.add_le_add_right (g_b _) _) (g_c _)) ?_; omega) | (refine Nat.le_trans (Nat.add_le_add_right (g_b _) _) ?_; omega) | exact Nat.le_trans (aff_len _ _) (by omega))) (hv_str _) (by have := l_six; have := l_emp; have := l_dash; have := l_sg; first | omega | (simp only [str_len_app, strAt_len]; omega) | (refine Nat.le_trans (Nat.add_le_add_left (g_a _) _) ?_; omega) | (rw [str_len_app]; have := g_b; have := g_c; refine Nat.le_trans (Nat.add_le_add (Nat.add_le_add_right (g_b _) _) (g_c _)) ?_; omega) | (refine Nat.le_trans (Nat.add_le_add_right (g_b _) _) ?_; omega) | exact Nat.le_trans (aff_len _ _) (by omega))) fun word_12 hword_12 Hs11 s11 => ?_
    try dsimp only at hword_12
    have wl9 : word_12.length ≤ 100 := by rw [hword_12]; exact Nat.le_trans (aff_len _ _) (Nat.le_trans (aff_len _ _) pl9)
    have hF13 : m_is_pattern text_ = ((!decide (word_12 = text_)) && (m_is_word word_12)) := (by subst hword_12; subst hplain_2; first | (simp only [m_is_pattern, if_true, if_false, Bool.false_eq_true, decide_true, decide_false, Option.getD_some, Option.isNone_none, Option.isNone_some, Bool.not_true, Bool.not_false, ↓reduceIte]; done) | (rfl; done) | ((unfold m_is_pattern); (dsimp only); first | done | rfl))
    exact zq_ret s11 (hv_and (hv_neS (hv_vS rfl) (hv_vS rfl)) (fun hb0 => (hv_call word_12 (hd_cons (hv_vS rfl) hd_nil) (by first | exact pl9 | exact wl9)))) fun v H' e d => q v H' e (by rw [hF13]; exact d)
def m_law_any_text (cell_ : Int) : PySem.Str :=
  let draws_ : (List Int) := (m_law_draws cell_ (28 : Int))
  let size_ : Int := ((draws_.getD (Int.toNat (0 : Int)) 0) % (27 : Int))
  let signs_ : PySem.Str := (PySem.Str.ofString "abcxyzABZ0123459.-.- *")
  (Txt.join (PySem.Str.ofString "") (List.map (fun (c_ : Int) => (strAt signs_ (Int.toNat ((draws_.getD (Int.toNat (c_ + (1 : Int))) 0) % (22 : Int))))) (irng (0 : Int) (Int.toNat size_))))
abbrev s_law_any_text : Stmt := (topS 19)
theorem sc_law_any_text : FnScope ["cell", "draws", "size", "signs", "k"] ["cell"] (defScope s_law_any_text) := ⟨rfl, rfl, rfl, by decide +kernel, rfl, by decide +kernel, by decide +kernel⟩
abbrev sp_law_any_text (K : PySem.W.Frag) : Sp := PrD K (fun c : Int => [Dx.toX c]) (fun c => True) (fun c => (m_law_any_text c : PySem.Str))
theorem ok_law_any_text (T : Txt P K mg) : FnOk P w K mg base CX0 2 T.f_law_any_text T.d_law_any_text ["cell"] (sp_law_any_text K) := by
  refine T.u_law_any_text.ok sc_law_any_text (fun vs H Q E h => ?_) (fun cdv A outer s H vs Q E hr h => ?_)
  · obtain ⟨Mc, c, mok, da, pre, q⟩ := h
    exact (dpa_len da)
  · obtain ⟨Mc, c, mok, da, pre, q⟩ := h
    obtain ⟨cell_, rfl⟩ : ∃ z, z = c := ⟨c, rfl⟩
    dsimp only at da pre q
    obtain ⟨v0, w0, rfl, d0, da0⟩ := dpa_inv da
    cases dpa_inv0 da0
    cases (Dt.int d0)
    have s0 : Sg K Mc H H [] [] := Sg.enter mok True.intro
    refine ⟨_, (pss_cons (ps_set (i := 1) sc_law_any_text.nd rfl (.inr rfl) (pe_call (ok_law_draws T) hr (by rfl) T.g_law_draws T.u_law_draws.kp T.b_law_draws .nil pass0 (pa_cons (pv 0) (pa_cons pe_int pa_nil)))) (pss_cons (ps_set (i := 2) sc_law_any_text.nd rfl (.inl rfl) (pe_op op_mod (pe_callTy call_int1 (by rfl) T.n_int (by decide +kernel) (pa_cons (pe_ix ix_list (pv 1) pe_int (fun _ _ => rfl)) pa_nil)) pe_int)) (pss_cons (ps_set (i := 3) sc_law_any_text.nd rfl (.inr rfl) pe_str) (pss_cons (ps_ret (pe_join pe_str (pe_lc (own := [("k", 4)]) (g := gName 4) rfl sc_law_any_text.nd (pi_range1 (by rfl) T.n_range (pa_cons (pv 2) pa_nil)) (blkOk_by (own := [("k", 4)]) (N := ["cell", "draws", "size", "signs", "k"]) (sc := defScope s_law_any_text) (by decide +kernel)) (fun _ _ _ _ _ => (pg_name (i := 4) sc_law_any_text.nd rfl (Or.inl rfl) (.inr (by rfl)))) (fun _ _ _ _ _ => pts_nil) (fun _ _ _ _ _ => (pe_ix ix_str (pv 3) (pe_op op_mod (pe_callTy call_int1 (by rfl) T.n_int (by decide +kernel) (pa_cons (pe_ix (show IxR _ (rIxL K) from ix_list) (pv 1) (pe_op op_add (pv 4) pe_int) (fun _ _ => rfl)) pa_nil)) pe_int) (fun _ _ => rfl)))))) pss_nil)))), ?_⟩
    refine z_asgG s0 (hv_call (cell_, (28 : Int)) (hd_cons (hv_vI rfl) (hd_cons (hv_int 28) hd_nil)) (by first | omega | (dsimp only; omega) | (subst_vars; omega) | decide +kernel)) fun draws_2 hdraws_2 vdraws_2 Hs1 s1 => ?_
    try dsimp only at hdraws_2
    have f3 := draws_len cell_ (28 : Int)
    rw [← hdraws_2] at f3
    refine z_asgIG s1 (hv_mod (hv_intI (hv_at 0 (hs_of (hv_var (x := draws_2) rfl s1.im.1)) (hv_int 0) (by first | omega | decide +kernel | (simp only [List.length_cons, List.length_nil]; omega)) (by first | omega | decide +kernel | (simp only [List.length_cons, List.length_nil]; omega)))) (hv_int 27) (by first | omega | decide +kernel | (simp only [List.length_cons, List.length_nil]; omega))) fun size_5 hsize_5 Hs4 s4 => ?_
    try dsimp only at hsize_5
    refine z_asgSG s4 (hv_str _) fun signs_7 hsigns_7 Hs6 s6 => ?_
    try dsimp only at hsigns_7
    have lsigns_7 : signs_7.length = 22 := by rw [hsigns_7]; exact l_sg
    have hF8 : m_law_any_text cell_ = (Txt.join (PySem.Str.ofString "") (List.map (fun (c_ : Int) => (strAt signs_7 (Int.toNat ((draws_2.getD (Int.toNat (c_ + (1 : Int))) 0) % (22 : Int))))) (irng (0 : Int) (Int.toNat size_5)))) := (by subst hsigns_7; subst hsize_5; subst hdraws_2; first | (simp only [m_law_any_text, if_true, if_false, Bool.false_eq_true, decide_true, decide_false, Option.getD_some, Option.isNone_none, Option.isNone_some, Bool.not_true, Bool.not_false, ↓reduceIte]; done) | (rfl; done) | ((unfold m_law_any_text); (dsimp only); first | done | rfl))
    exact zq_ret s6 (hv_join (hv_str _) (hs_of (hv_lcR0 s6 (fun (c_ : Int) => (strAt signs_7 (Int.toNat ((draws_2.getD (Int.toNat (c_ + (1 : Int))) 0) % (22 : Int))))) (hv_vI rfl) (by first | omega | decide +kernel | (simp only [List.length_cons, List.length_nil]; omega)) (fun D10 c11 ys13 Hs9 s9 hx15 Q k => by exact k _ rfl (hv_ixStr (hv_vS rfl) (hv_mod (hv_intI (hv_at 0 (hs_of (hv_var (x := draws_2) rfl s9.im.1)) (hv_add (hv_vI rfl) (hv_int 1)) (by first | omega | decide +kernel | (simp only [List.length_cons, List.length_nil]; omega)) (by first | omega | decide +kernel | (simp only [List.length_cons, List.length_nil]; omega)))) (hv_int 22) (by first | omega | decide +kernel | (simp only [List.length_cons, List.length_nil]; omega))) (by have := l_six; have := l_emp; have := l_dash; have := l_sg; first | omega | (simp only [str_len_app, strAt_len]; omega) | (refine Nat.le_trans (Nat.add_le_add_left (g_a _) _) ?_; omega) | (rw [str_len_app]; have := g_b; have := g_c; refine Nat.le_trans (Nat.add_le_add (Nat.add_le_add_right (g_b _) _) (g_c _)) ?_; omega) | (refine Nat.le_trans (Nat.add_le_add_right (g_b _) _) ?_; omega) | exact Nat.le_trans (aff_len _ _) (by omega)) (by first | omega | decide +kernel | (simp only [List.length_cons, List.length_nil]; omega)) (by have := l_six; have := l_emp; have := l_dash; have := l_sg; first | omega | (simp only [str_len_app, strAt_len]; omega) | (refine Nat.le_trans (Nat.add_le_add_left (g_a _) _) ?_; omega) | (rw [str_len_app]; have := g_b; have := g_c; refine Nat.le_trans (Nat.add_le_add (Nat.add_le_add_right (g_b _) _) (g_c _)) ?_; omega) | (refine Nat.le_trans (Nat.add_le_add_right (g_b _) _) ?_; omega) | exact Nat.le_trans (aff_len _ _) (by omega)))))) (by first | (refine Nat.le_trans (Nat.add_le_add_right (sum_le _ 1 (fun x => Nat.le_of_eq (strAt_len _ _)) _) _) ?_; simp only [List.length_map, irng_len, l_emp]; omega) | exact Nat.le_trans (dash_len _) (by omega) | (rw [l_emp]; have h9 := fil_sum text_; simp only [Nat.mul_zero]; first | omega | exact Nat.le_trans (Nat.add_le_add_right (h9 _) _) (by omega)))) fun v H' e d => q v H' e (by rw [hF8]; exact d)
theorem any_len (c : Int) : (m_law_any_text c).length ≤ 100 := by
  unfold m_law_any_text
  dsimp only
  show (Builtin.Str.glued _ _).length ≤ _
  rw [size_glued, l_emp, Nat.mul_zero, Nat.add_zero]
  refine Nat.le_trans (sum_le _ 1 (fun x => Nat.le_of_eq (strAt_len _ _)) _) ?_
  rw [irng_len]; omega
def m_law_good_text_l0 (draws_ : (List Int)) (s_ : PySem.Str) (x_ : Int) : PySem.Str :=
  let text_ : PySem.Str := s_
  let k_ : Int := x_
  let text_ : PySem.Str := (text_ ++ (strAt (PySem.Str.ofString "abcdeZ") (Int.toNat ((draws_.getD (Int.toNat (k_ + (1 : Int))) 0) % (6 : Int)))))
  if (decide (((draws_.getD (Int.toNat (1 : Int)) 0) % (2 : Int)) = (0 : Int))) = true then
    let text_ : PySem.Str := (text_ ++ ([(PySem.Str.ofString ""), (PySem.Str.ofString ""), (PySem.Str.ofString "1"), (PySem.Str.ofString "42")].getD (Int.toNat ((draws_.getD (Int.toNat (k_ + (8 : Int))) 0) % (4 : Int))) (PySem.Str.ofString "")))
    text_
  else
    text_
def m_law_good_text (cell_ : Int) : PySem.Str :=
  let draws_ : (List Int) := (m_law_draws cell_ (16 : Int))
  let text_ : PySem.Str := (PySem.Str.ofString "")
  let r0_ : PySem.Str := loopN (m_law_good_text_l0 draws_) (Int.toNat ((1 : Int) + ((draws_.getD (Int.toNat (0 : Int)) 0) % (7 : Int)))) (0 : Int) text_
  let text_ : PySem.Str := r0_
  if (decide (((draws_.getD (Int.toNat (1 : Int)) 0) % (2 : Int)) = (1 : Int))) = true then
    (if ((decide ((1 : Int) < ((Str.length text_ : Nat) : Int))) && (decide (((draws_.getD (Int.toNat (2 : Int)) 0) % (2 : Int)) = (0 : Int)))) = true then (Txt.join (PySem.Str.ofString "-") [(cutS text_ none (some (1 : Int))), (cutS text_ (some (1 : Int)) none)]) else text_)
  else
    ((([(PySem.Str.ofString ""), (PySem.Str.ofString "."), (PySem.Str.ofString "3"), (PySem.Str.ofString ".5")].getD (Int.toNat ((draws_.getD (Int.toNat (15 : Int)) 0) % (4 : Int))) (PySem.Str.ofString "")) ++ text_) ++ ([(PySem.Str.ofString ""), (PySem.Str.ofString "."), (PySem.Str.ofString "2.")].getD (Int.toNat ((draws_.getD (Int.toNat (14 : Int)) 0) % (3 : Int))) (PySem.Str.ofString "")))
abbrev s_law_good_text : Stmt := (topS 20)
theorem sc_law_good_text : FnScope ["cell", "draws", "text", "k"] ["cell"] (defScope s_law_good_text) := ⟨rfl, rfl, rfl, by decide +kernel, rfl, by decide +kernel, by decide +kernel⟩
abbrev sp_law_good_text (K : PySem.W.Frag) : Sp := PrD K (fun c : Int => [Dx.toX c]) (fun c => True) (fun c => (m_law_good_text c : PySem.Str))
theorem ok_law_good_text (T : Txt P K mg) : FnOk P w K mg base CX0 2 T.f_law_good_text T.d_law_good_text ["cell"] (sp_law_good_text K) := by
  refine T.u_law_good_text.ok sc_law_good_text (fun vs H Q E h => ?_) (fun cdv A outer s H vs Q E hr h => ?_)
  · obtain ⟨Mc, c, mok, da, pre, q⟩ := h
    exact (dpa_len da)
  · obtain ⟨Mc, c, mok, da, pre, q⟩ := h
    obtain ⟨cell_, rfl⟩ : ∃ z, z = c := ⟨c, rfl⟩
    dsimp only at da pre q
    obtain ⟨v0, w0, rfl, d0, da0⟩ := dpa_inv da
    cases dpa_inv0 da0
    cases (Dt.int d0)
    have s0 : Sg K Mc H H [] [] := Sg.enter mok True.intro
    refine ⟨_, (pss_cons (ps_set (i := 1) sc_law_good_text.nd rfl (.inl rfl) (pe_call (ok_law_draws T) hr (by rfl) T.g_law_draws T.u_law_draws.kp T.b_law_draws .nil pass0 (pa_cons (pv 0) (pa_cons pe_int pa_nil)))) (pss_cons (ps_set (i := 2) sc_law_good_text.nd rfl (.inl rfl) pe_str) (pss_cons (ps_for PassesOwn.never rfl (pi_range1 (by rfl) T.n_range (pa_cons (pe_op op_add pe_int (pe_op op_mod (pe_callTy call_int1 (by rfl) T.n_int (by decide +kernel) (pa_cons (pe_ix ix_list (pv 1) pe_int (fun _ _ => rfl)) pa_nil)) pe_int)) pa_nil)) (pg_name (i := 3) sc_law_good_text.nd rfl (.inl rfl)) (pss_cons (ps_set (i := 2) sc_law_good_text.nd rfl (.inl rfl) (pe_op op_add_str (pv 2) (pe_ix ix_str pe_str (pe_op op_mod (pe_callTy call_int1 (by rfl) T.n_int (by decide +kernel) (pa_cons (pe_ix ix_list (pv 1) (pe_op op_add (pv 3) pe_int) (fun _ _ => rfl)) pa_nil)) pe_int) (fun _ _ => rfl)))) (pss_cons (ps_if (pt_cmpR op_eq (pe_op op_mod (pe_callTy call_int1 (by rfl) T.n_int (by decide +kernel) (pa_cons (pe_ix ix_list (pv 1) pe_int (fun _ _ => rfl)) pa_nil)) pe_int) pe_int (nomark _)) (pss_cons (ps_set (i := 2) sc_law_good_text.nd rfl (.inl rfl) (pe_op op_add_str (pv 2) (pe_ix ix_list (pe_lst (pa_cons pe_str (pa_cons pe_str (pa_cons pe_str (pa_cons pe_str pa_nil))))) (pe_op op_mod (pe_callTy call_int1 (by rfl) T.n_int (by decide +kernel) (pa_cons (pe_ix ix_list (pv 1) (pe_op op_add (pv 3) pe_int) (fun _ _ => rfl)) pa_nil)) pe_int) (fun _ _ => rfl)))) pss_nil) pss_nil) pss_nil))) (pss_cons (ps_if (pt_cmpR op_eq (pe_op op_mod (pe_callTy call_int1 (by rfl) T.n_int (by decide +kernel) (pa_cons (pe_ix ix_list (pv 1) pe_int (fun _ _ => rfl)) pa_nil)) pe_int) pe_int (nomark _)) (pss_cons (ps_ret (pe_ifExp (PW.pt (pw_and (pt_cmpR op_gt (pe_callB call_len (by rfl) T.n_len (by decide +kernel) (pa_cons (pv 2) pa_nil)) pe_int (nomark _)) (pw_and1 (pt_cmpR op_eq (pe_op op_mod (pe_callTy call_int1 (by rfl) T.n_int (by decide +kernel) (pa_cons (pe_ix ix_list (pv 1) pe_int (fun _ _ => rfl)) pa_nil)) pe_int) pe_int (nomark _))))) (pe_join pe_str (pe_lst (pa_cons (pe_slice sl_str (pv 2) po_none (po_some pe_int)) (pa_cons (pe_slice sl_str (pv 2) (po_some pe_int) po_none) pa_nil)))) (pv 2))) pss_nil) pss_nil) (pss_cons (ps_ret (pe_op op_add_str (pe_op op_add_str (pe_ix ix_list (pe_lst (pa_cons pe_str (pa_cons pe_str (pa_cons pe_str (pa_cons pe_str pa_nil))))) (pe_op op_mod (pe_callTy call_int1 (by rfl) T.n_int (by decide +kernel) (pa_cons (pe_ix ix_list (pv 1) pe_int (fun _ _ => rfl)) pa_nil)) pe_int) (fun _ _ => rfl)) (pv 2)) (pe_ix ix_list (pe_lst (pa_cons pe_str (pa_cons pe_str (pa_cons pe_str pa_nil)))) (pe_op op_mod (pe_callTy call_int1 (by rfl) T.n_int (by decide +kernel) (pa_cons (pe_ix ix_list (pv 1) pe_int (fun _ _ => rfl)) pa_nil)) pe_int) (fun _ _ => rfl)))) pss_nil))))), ?_⟩
    refine z_asgG s0 (hv_call (cell_, (16 : Int)) (hd_cons (hv_vI rfl) (hd_cons (hv_int 16) hd_nil)) (by first | omega | (dsimp only; omega) | (subst_vars; omega) | decide +kernel)) fun draws_2 hdraws_2 vdraws_2 Hs1 s1 => ?_
    try dsimp only at hdraws_2
    have f3 := draws_len cell_ (16 : Int)
    rw [← hdraws_2] at f3
    refine z_asgSG s1 (hv_str _) fun text_5 htext_5 Hs4 s4 => ?_
    try dsimp only at htext_5
    refine zq_forR1G s4 (hv_add (hv_int 1) (hv_mod (hv_intI (hv_at 0 (hs_of (hv_var (x := draws_2) rfl s4.im.1)) (hv_int 0) (by first | omega | decide +kernel | (simp only [List.length_cons, List.length_nil]; omega)) (by first | omega | decide +kernel | (simp only [List.length_cons, List.length_nil]; omega)))) (hv_int 7) (by first | omega | decide +kernel | (simp only [List.length_cons, List.length_nil]; omega)))) (by first | omega | decide +kernel | (simp only [List.length_cons, List.length_nil]; omega)) (fun i σ' H' => ∃ (text_6 : PySem.Str) (o7 : Option V), (loopN (m_law_good_text_l0 draws_2) (Int.toNat ((1 : Int) + ((draws_2.getD (Int.toNat (0 : Int)) 0) % (7 : Int)))) (0 : Int) text_5 : PySem.Str) = (loopN (m_law_good_text_l0 draws_2) ((Int.toNat ((1 : Int) + ((draws_2.getD (Int.toNat (0 : Int)) 0) % (7 : Int)))) - i) ((0 : Int) + (i : Int)) text_6 : PySem.Str) ∧ (text_6.length ≤ 3 * (i)) ∧ σ' = [some (V.int cell_), some vdraws_2, some (V.str text_6), o7] ∧ Sg K Mc H H' [(vdraws_2, Dx.toX draws_2)] []) (fun Hs8 s8 => ⟨text_5, _, (by simp), (by subst_vars; rw [l_emp]; exact Nat.zero_le _), rfl, s8.keep fun _ h => ⟨h.1, True.intro⟩⟩) (fun i12 x13 σ' Hs11 hx14 hi15 hP => ?_) (fun σ' Hs11 hP => ?_)
    · obtain ⟨text_6, o7, he9, hg10, rfl, s11⟩ := hP
      refine z_asgSG s11 (hv_addS (hv_vS rfl) (hv_ixStr (hv_str _) (hv_mod (hv_intI (hv_at 0 (hs_of (hv_var (x := draws_2) rfl s11.im.1)) (hv_add (hv_vI rfl) (hv_int 1)) (by first | omega | decide +kernel | (simp only [List.length_cons, List.length_nil]; omega)) (by first | omega | decide +kernel | (simp only [List.length_cons, List.length_nil]; omega)))) (hv_int 6) (by first | omega | decide +kernel | (simp only [List.length_cons, List.length_nil]; omega))) (by have := l_six; have := l_emp; have := l_dash; have := l_sg; first | omega | (simp only [str_len_app, strAt_len]; omega) | (refine Nat.le_trans (Nat.add_le_add_left (g_a _) _) ?_; omega) | (rw [str_len_app]; have := g_b; have := g_c; refine Nat.le_trans (Nat.add_le_add (Nat.add_le_add_right (g_b _) _) (g_c _)) ?_; omega) | (refine Nat.le_trans (Nat.add_le_add_right (g_b _) _) ?_; omega) | exact Nat.le_trans (aff_len _ _) (by omega)) (by first | omega | decide +kernel | (simp only [List.length_cons, List.length_nil]; omega)) (by have := l_six; have := l_emp; have := l_dash; have := l_sg; first | omega | (simp only [str_len_app, strAt_len]; omega) | (refine Nat.le_trans (Nat.add_le_add_left (g_a _) _) ?_; omega) | (rw [str_len_app]; have := g_b; have := g_c; refine Nat.le_trans (Nat.add_le_add (Nat.add_le_add_right (g_b _) _) (g_c _)) ?_; omega) | (refine Nat.le_trans (Nat.add_le_add_right (g_b _) _) ?_; omega) | exact Nat.le_trans (aff_len _ _) (by omega))) (by have := l_six; have := l_emp; have := l_dash; have := l_sg; first | omega | (simp only [str_len_app, strAt_len]; omega) | (refine Nat.le_trans (Nat.add_le_add_left (g_a _) _) ?_; omega) | (rw [str_len_app]; have := g_b; have := g_c; refine Nat.le_trans (Nat.add_le_add (Nat.add_le_add_right (g_b _) _) (g_c _)) ?_; omega) | (refine Nat.le_trans (Nat.add_le_add_right (g_b _) _) ?_; omega) | exact Nat.le_trans (aff_len _ _) (by omega))) fun text_18 htext_18 Hs17 s17 => ?_
      try dsimp only at htext_18
      have lttext_18 : text_18.length = _ := (congrArg Str.length htext_18).trans (str_len_app _ _)
      try simp only [str_len_app, strAt_len] at lttext_18
      have ltext_18 : text_18.length = text_6.length + 1 := by rw [htext_18, str_len_app, strAt_len]
      refine z_ifx (b := (decide (((draws_2.getD (Int.toNat (1 : Int)) 0) % (2 : Int)) = (0 : Int)))) s17 (ht_val (K := K) (hv_eqI (hv_mod (hv_intI (hv_at 0 (hs_of (hv_var (x := draws_2) rfl s17.im.1)) (hv_int 1) (by first | omega | decide +kernel | (simp only [List.length_cons, List.length_nil]; omega)) (by first | omega | decide +kernel | (simp only [List.length_cons, List.length_nil]; omega)))) (hv_int 2) (by first | omega | decide +kernel | (simp only [List.length_cons, List.length_nil]; omega))) (hv_int 0))) (fun hb19 Hs20 s20 => ?_) (fun hb19 Hs21 s21 => ?_)
      · have hb19P := hb19
        try simp only [decide_eq_true_eq, decide_eq_false_iff_not, Bool.not_eq_true', Bool.not_eq_false', Bool.and_eq_true, Bool.or_eq_true, Bool.or_eq_false_iff] at hb19P
        refine z_asgSG s20 (hv_addS (hv_vS rfl) (hv_at (PySem.Str.ofString "") (hs_of (hv_lst (has_cons (hv_str _) (has_cons (hv_str _) (has_cons (hv_str _) (has_cons (hv_str _) has_nil)))) (Nat.le_of_ble_eq_true rfl))) (hv_mod (hv_intI (hv_at 0 (hs_of (hv_var (x := draws_2) rfl s20.im.1)) (hv_add (hv_vI rfl) (hv_int 8)) (by first | omega | decide +kernel | (simp only [List.length_cons, List.length_nil]; omega)) (by first | omega | decide +kernel | (simp only [List.length_cons, List.length_nil]; omega)))) (hv_int 4) (by first | omega | decide +kernel | (simp only [List.length_cons, List.length_nil]; omega))) (by first | omega | decide +kernel | (simp only [List.length_cons, List.length_nil]; omega)) (by first | omega | decide +kernel | (simp only [List.length_cons, List.length_nil]; omega))) (by have := l_six; have := l_emp; have := l_dash; have := l_sg; first | omega | (simp only [str_len_app, strAt_len]; omega) | (refine Nat.le_trans (Nat.add_le_add_left (g_a _) _) ?_; omega) | (rw [str_len_app]; have := g_b; have := g_c; refine Nat.le_trans (Nat.add_le_add (Nat.add_le_add_right (g_b _) _) (g_c _)) ?_; omega) | (refine Nat.le_trans (Nat.add_le_add_right (g_b _) _) ?_; omega) | exact Nat.le_trans (aff_len _ _) (by omega))) fun text_23 htext_23 Hs22 s22 => ?_
        try dsimp only at htext_23
        have lttext_23 : text_23.length = _ := (congrArg Str.length htext_23).trans (str_len_app _ _)
        try simp only [str_len_app, strAt_len] at lttext_23
        have ltext_23 : text_23.length ≤ text_18.length + 2 := by rw [htext_23, str_len_app]; exact Nat.add_le_add_left (g_a _) _
        have hf24 : (m_law_good_text_l0 draws_2) text_6 x13 = text_23 := (by subst htext_23; subst htext_18; subst htext_5; subst hdraws_2; first | (simp only [m_law_good_text_l0, hb19, if_true, if_false, Bool.false_eq_true, decide_true, decide_false, Option.getD_some, Option.isNone_none, Option.isNone_some, Bool.not_true, Bool.not_false, ↓reduceIte]; done) | (rfl; done) | ((unfold m_law_good_text_l0); (dsimp only); (first | rw [ifT hb19] | rw [ifF hb19] | skip); (try dsimp only); first | done | rfl) | (exfalso; simp at hb19; done))
        exact ⟨text_23, _, he9.trans ((loopN_step hi15).trans (by rw [← hx14, hf24])), (by first | trivial | omega | (simp_all; done) | (simp_all; omega)), rfl, s22.keep fun _ h => ⟨h.1, True.intro⟩⟩
      · have hb19P := hb19
        try simp only [decide_eq_true_eq, decide_eq_false_iff_not, Bool.not_eq_true', Bool.not_eq_false', Bool.and_eq_true, Bool.or_eq_true, Bool.or_eq_false_iff] at hb19P
        have hf25 : (m_law_good_text_l0 draws_2) text_6 x13 = text_18 := (by subst htext_18; subst htext_5; subst hdraws_2; first | (simp only [m_law_good_text_l0, hb19, if_true, if_false, Bool.false_eq_true, decide_true, decide_false, Option.getD_some, Option.isNone_none, Option.isNone_some, Bool.not_true, Bool.not_false, ↓reduceIte]; done) | (rfl; done) | ((unfold m_law_good_text_l0); (dsimp only); (first | rw [ifT hb19] | rw [ifF hb19] | skip); (try dsimp only); first | done | rfl) | (exfalso; simp at hb19; done))
        exact ⟨text_18, _, he9.trans ((loopN_step hi15).trans (by rw [← hx14, hf25])), (by first | trivial | omega | (simp_all; done) | (simp_all; omega)), rfl, s21.keep fun _ h => ⟨h.1, True.intro⟩⟩
    · obtain ⟨text_26, o27, he29, hg30, rfl, s28⟩ := hP
      rw [loopN_end] at he29
      refine z_ifx (b := (decide (((draws_2.getD (Int.toNat (1 : Int)) 0) % (2 : Int)) = (1 : Int)))) s28 (ht_val (K := K) (hv_eqI (hv_mod (hv_intI (hv_at 0 (hs_of (hv_var (x := draws_2) rfl s28.im.1)) (hv_int 1) (by first | omega | decide +kernel | (simp only [List.length_cons, List.length_nil]; omega)) (by first | omega | decide +kernel | (simp only [List.length_cons, List.length_nil]; omega)))) (hv_int 2) (by first | omega | decide +kernel | (simp only [List.length_cons, List.length_nil]; omega))) (hv_int 1))) (fun hb31 Hs32 s32 => ?_) (fun hb31 Hs33 s33 => ?_)
      · have hb31P := hb31
        try simp only [decide_eq_true_eq, decide_eq_false_iff_not, Bool.not_eq_true', Bool.not_eq_false', Bool.and_eq_true, Bool.or_eq_true, Bool.or_eq_false_iff] at hb31P
        have hF34 : m_law_good_text cell_ = (if ((decide ((1 : Int) < ((Str.length text_26 : Nat) : Int))) && (decide (((draws_2.getD (Int.toNat (2 : Int)) 0) % (2 : Int)) = (0 : Int)))) = true then (Txt.join (PySem.Str.ofString "-") [(cutS text_26 none (some (1 : Int))), (cutS text_26 (some (1 : Int)) none)]) else text_26) := (by subst htext_5; subst hdraws_2; first | (simp only [m_law_good_text, he29, hb31, if_true, if_false, Bool.false_eq_true, decide_true, decide_false, Option.getD_some, Option.isNone_none, Option.isNone_some, Bool.not_true, Bool.not_false, ↓reduceIte]; done) | (rfl; done) | ((unfold m_law_good_text); (dsimp only); (first | rw [he29] | skip); (try dsimp only); (first | rw [ifT hb31] | rw [ifF hb31] | skip); (try dsimp only); first | done | rfl) | (exfalso; simp at hb31; done))
        exact zq_ret s32 (hv_ite (ht_and (ht_val (K := K) (hv_gt (hv_lenS (hv_vS rfl) (by have := l_six; have := l_emp; have := l_dash; have := l_sg; first | omega | (simp only [str_len_app, strAt_len]; omega) | (refine Nat.le_trans (Nat.add_le_add_left (g_a _) _) ?_; omega) | (rw [str_len_app]; have := g_b; have := g_c; refine Nat.le_trans (Nat.add_le_add (Nat.add_le_add_right (g_b _) _) (g_c _)) ?_; omega) | (refine Nat.le_trans (Nat.add_le_add_right (g_b _) _) ?_; omega) | exact Nat.le_trans (aff_len _ _) (by omega))) (hv_int 1))) (fun hb0 => (ht_val (K := K) (hv_eqI (hv_mod (hv_intI (hv_at 0 (hs_of (hv_var (x := draws_2) rfl s32.im.1)) (hv_int 2) (by first | omega | decide +kernel | (simp only [List.length_cons, List.length_nil]; omega)) (by first | omega | decide +kernel | (simp only [List.length_cons, List.length_nil]; omega)))) (hv_int 2) (by first | omega | decide +kernel | (simp only [List.length_cons, List.length_nil]; omega))) (hv_int 0))))) (fun hi1 => (hv_join (hv_str _) (hs_of (hv_lst (has_cons (hv_sliceS (hv_vS rfl) ho_none (ho_some (K := K) (hv_int 1)) (by have := l_six; have := l_emp; have := l_dash; have := l_sg; first | omega | (simp only [str_len_app, strAt_len]; omega) | (refine Nat.le_trans (Nat.add_le_add_left (g_a _) _) ?_; omega) | (rw [str_len_app]; have := g_b; have := g_c; refine Nat.le_trans (Nat.add_le_add (Nat.add_le_add_right (g_b _) _) (g_c _)) ?_; omega) | (refine Nat.le_trans (Nat.add_le_add_right (g_b _) _) ?_; omega) | exact Nat.le_trans (aff_len _ _) (by omega))) (has_cons (hv_sliceS (hv_vS rfl) (ho_some (K := K) (hv_int 1)) ho_none (by have := l_six; have := l_emp; have := l_dash; have := l_sg; first | omega | (simp only [str_len_app, strAt_len]; omega) | (refine Nat.le_trans (Nat.add_le_add_left (g_a _) _) ?_; omega) | (rw [str_len_app]; have := g_b; have := g_c; refine Nat.le_trans (Nat.add_le_add (Nat.add_le_add_right (g_b _) _) (g_c _)) ?_; omega) | (refine Nat.le_trans (Nat.add_le_add_right (g_b _) _) ?_; omega) | exact Nat.le_trans (aff_len _ _) (by omega))) has_nil)) (Nat.le_of_ble_eq_true rfl))) (by first | (refine Nat.le_trans (Nat.add_le_add_right (sum_le _ 1 (fun x => Nat.le_of_eq (strAt_len _ _)) _) _) ?_; simp only [List.length_map, irng_len, l_emp]; omega) | exact Nat.le_trans (dash_len _) (by omega) | (rw [l_emp]; have h9 := fil_sum text_; simp only [Nat.mul_zero]; first | omega | exact Nat.le_trans (Nat.add_le_add_right (h9 _) _) (by omega))))) (fun hi2 => (hv_vS rfl))) fun v H' e d => q v H' e (by rw [hF34]; exact d)
      · have hb31P := hb31
        try simp only [decide_eq_true_eq, decide_eq_false_iff_not, Bool.not_eq_true', Bool.not_eq_false', Bool.and_eq_true, Bool.or_eq_true, Bool.or_eq_false_iff] at hb31P
        have hF35 : m_law_good_text cell_ = ((([(PySem.Str.ofString ""), (PySem.Str.ofString "."), (PySem.Str.ofString "3"), (PySem.Str.ofString ".5")].getD (Int.toNat ((draws_2.getD (Int.toNat (15 : Int)) 0) % (4 : Int))) (PySem.Str.ofString "")) ++ text_26) ++ ([(PySem.Str.ofString ""), (PySem.Str.ofString "."), (PySem.Str.ofString "2.")].getD (Int.toNat ((draws_2.getD (Int.toNat (14 : Int)) 0) % (3 : Int))) (PySem.Str.ofString ""))) := (by subst htext_5; subst hdraws_2; first | (simp only [m_law_good_text, he29, hb31, if_true, if_false, Bool.false_eq_true, decide_true, decide_false, Option.getD_some, Option.isNone_none, Option.isNone_some, Bool.not_true, Bool.not_false, ↓reduceIte]; done) | (rfl; done) | ((unfold m_law_good_text); (dsimp only); (first | rw [he29] | skip); (try dsimp only); (first | rw [ifT hb31] | rw [ifF hb31] | skip); (try dsimp only); first | done | rfl) | (exfalso; simp at hb31; done))
        exact zq_ret s33 (hv_addS (hv_addS (hv_at (PySem.Str.ofString "") (hs_of (hv_lst (has_cons (hv_str _) (has_cons (hv_str _) (has_cons (hv_str _) (has_cons (hv_str _) has_nil)))) (Nat.le_of_ble_eq_true rfl))) (hv_mod (hv_intI (hv_at 0 (hs_of (hv_var (x := draws_2) rfl s33.im.1)) (hv_int 15) (by first | omega | decide +kernel | (simp only [List.length_cons, List.length_nil]; omega)) (by first | omega | decide +kernel | (simp only [List.length_cons, List.length_nil]; omega)))) (hv_int 4) (by first | omega | decide +kernel | (simp only [List.length_cons, List.length_nil]; omega))) (by first | omega | decide +kernel | (simp only [List.length_cons, List.length_nil]; omega)) (by first | omega | decide +kernel | (simp only [List.length_cons, List.length_nil]; omega))) (hv_vS rfl) (by have := l_six; have := l_emp; have := l_dash; have := l_sg; first | omega | (simp only [str_len_app, strAt_len]; omega) | (refine Nat.le_trans (Nat.add_le_add_left (g_a _) _) ?_; omega) | (rw [str_len_app]; have := g_b; have := g_c; refine Nat.le_trans (Nat.add_le_add (Nat.add_le_add_right (g_b _) _) (g_c _)) ?_; omega) | (refine Nat.le_trans (Nat.add_le_add_right (g_b _) _) ?_; omega) | exact Nat.le_trans (aff_len _ _) (by omega))) (hv_at (PySem.Str.ofString "") (hs_of (hv_lst (has_cons (hv_str _) (has_cons (hv_str _) (has_cons (hv_str _) has_nil))) (Nat.le_of_ble_eq_true rfl))) (hv_mod (hv_intI (hv_at 0 (hs_of (hv_var (x := draws_2) rfl s33.im.1)) (hv_int 14) (by first | omega | decide +kernel | (simp only [List.length_cons, List.length_nil]; omega)) (by first | omega | decide +kernel | (simp only [List.length_cons, List.length_nil]; omega)))) (hv_int 3) (by first | omega | decide +kernel | (simp only [List.length_cons, List.length_nil]; omega))) (by first | omega | decide +kernel | (simp only [List.length_cons, List.length_nil]; omega)) (by first | omega | decide +kernel | (simp only [List.length_cons, List.length_nil]; omega))) (by have := l_six; have := l_emp; have := l_dash; have := l_sg; first | omega | (simp only [str_len_app, strAt_len]; omega) | (refine Nat.le_trans (Nat.add_le_add_left (g_a _) _) ?_; omega) | (rw [str_len_app]; have := g_b; have := g_c; refine Nat.le_trans (Nat.add_le_add (Nat.add_le_add_right (g_b _) _) (g_c _)) ?_; omega) | (refine Nat.le_trans (Nat.add_le_add_right (g_b _) _) ?_; omega) | exact Nat.le_trans (aff_len _ _) (by omega))) fun v H' e d => q v H' e (by rw [hF35]; exact d)
theorem good_l0 (ds : List Int) : ∀ (n : Nat) (k : Int) (t : PySem.Str), (loopN (m_law_good_text_l0 ds) n k t).length ≤ t.length + 3 * n
  | 0, _, _ => Nat.le_refl _
  | n + 1, k, t => by
    rw [loopN]
    refine Nat.le_trans (good_l0 ds n _ _) ?_
    have h : (m_law_good_text_l0 ds t k).length ≤ t.length + 3 := by
      unfold m_law_good_text_l0
      dsimp only
      split
      · rw [str_len_app, str_len_app, strAt_len]
        refine Nat.le_trans (Nat.add_le_add_left (g_a _) _) ?_
        omega
      · rw [str_len_app, strAt_len]; omega
    omega
theorem good_len (c : Int) : (m_law_good_text c).length ≤ 100 := by
  unfold m_law_good_text
  dsimp only
  generalize m_law_draws c 16 = ds
  have h := good_l0 ds (Int.toNat ((1 : Int) + ((ds.getD (Int.toNat (0 : Int)) 0) % (7 : Int)))) 0 (PySem.Str.ofString "")
  rw [l_emp] at h
  generalize loopN (m_law_good_text_l0 ds) (Int.toNat ((1 : Int) + ((ds.getD (Int.toNat (0 : Int)) 0) % (7 : Int)))) 0 (PySem.Str.ofString "") = t at h
  have ht : t.length ≤ 21 := by omega
  split
  · split
    · show (Builtin.Str.glued _ _).length ≤ _
      rw [size_glued]
      refine Nat.le_trans (Nat.le_trans (Nat.add_le_add_left (Nat.mul_le_mul_right _ (Nat.sub_le _ _)) _) (dash_len t)) ?_
      omega
    · omega
  · rw [str_len_app, str_len_app]
    refine Nat.le_trans (Nat.add_le_add (Nat.add_le_add_right (g_b _) _) (g_c _)) ?_
    omega
def m_law_is_good (text_ : PySem.Str) : Bool :=
  let small_ : PySem.Str := (Txt.lower text_)
  ((decide (((Str.length text_ : Nat) : Int) ≤ (24 : Int))) && ((m_law_is_exception small_) || (m_law_is_pattern small_)))
abbrev s_law_is_good : Stmt := (topS 23)
theorem sc_law_is_good : FnScope ["text", "small"] ["text"] (defScope s_law_is_good) := ⟨rfl, rfl, rfl, by decide +kernel, rfl, by decide +kernel, by decide +kernel⟩
abbrev sp_law_is_good (K : PySem.W.Frag) : Sp := PrD K (fun c : PySem.Str => [Dx.toX c]) (fun c => c.length ≤ 100) (fun c => (m_law_is_good c : Bool))
theorem ok_law_is_good (T : Txt P K mg) : FnOk P w K mg base CX0 2 T.f_law_is_good T.d_law_is_good ["text"] (sp_law_is_good K) := by
  refine T.u_law_is_good.ok sc_law_is_good (fun vs H Q E h => ?_) (fun cdv A outer s H vs Q E hr h => ?_)
  · obtain ⟨Mc, c, mok, da, pre, q⟩ := h
    exact (dpa_len da)
  · obtain ⟨Mc, c, mok, da, pre, q⟩ := h
    obtain ⟨text_, rfl⟩ : ∃ z, z = c := ⟨c, rfl⟩
    dsimp only at da pre q
    obtain ⟨v0, w0, rfl, d0, da0⟩ := dpa_inv da
    cases dpa_inv0 da0
    cases (Dt.str d0)
    have s0 : Sg K Mc H H [] [] := Sg.enter mok True.intro
    refine ⟨_, (pss_cons (ps_set (i := 1) sc_law_is_good.nd rfl (.inl rfl) (pe_lower (pv 0))) (pss_cons (ps_ret (pe_and (pe_cmpR op_le (pe_callB call_len (by rfl) T.n_len (by decide +kernel) (pa_cons (pv 0) pa_nil)) pe_int (nomark _)) (pe_one (pe_or (pe_call (ok_law_is_exception T) hr (by rfl) T.g_law_is_exception T.u_law_is_exception.kp T.b_law_is_exception .nil pass0 (pa_cons (pv 1) pa_nil)) (pe_one (pe_call (ok_law_is_pattern T) hr (by rfl) T.g_law_is_pattern T.u_law_is_pattern.kp T.b_law_is_pattern .nil pass0 (pa_cons (pv 1) pa_nil))))))) pss_nil)), ?_⟩
    refine z_asgSG s0 (hv_lower (hv_vS rfl) (by have := l_six; have := l_emp; have := l_dash; have := l_sg; first | omega | (simp only [str_len_app, strAt_len]; omega) | (refine Nat.le_trans (Nat.add_le_add_left (g_a _) _) ?_; omega) | (rw [str_len_app]; have := g_b; have := g_c; refine Nat.le_trans (Nat.add_le_add (Nat.add_le_add_right (g_b _) _) (g_c _)) ?_; omega) | (refine Nat.le_trans (Nat.add_le_add_right (g_b _) _) ?_; omega) | exact Nat.le_trans (aff_len _ _) (by omega))) fun small_2 hsmall_2 Hs1 s1 => ?_
    try dsimp only at hsmall_2
    have ls9 : small_2.length ≤ 300 := by rw [hsmall_2]; have h9 := PyProof.Rows.len_lower text_; omega
    have hF3 : m_law_is_good text_ = ((decide (((Str.length text_ : Nat) : Int) ≤ (24 : Int))) && ((m_law_is_exception small_2) || (m_law_is_pattern small_2))) := (by subst hsmall_2; first | (simp only [m_law_is_good, if_true, if_false, Bool.false_eq_true, decide_true, decide_false, Option.getD_some, Option.isNone_none, Option.isNone_some, Bool.not_true, Bool.not_false, ↓reduceIte]; done) | (rfl; done) | ((unfold m_law_is_good); (dsimp only); first | done | rfl))
    exact zq_ret s1 (hv_and (hv_le (hv_lenS (hv_vS rfl) (by have := l_six; have := l_emp; have := l_dash; have := l_sg; first | omega | (simp only [str_len_app, strAt_len]; omega) | (refine Nat.le_trans (Nat.add_le_add_left (g_a _) _) ?_; omega) | (rw [str_len_app]; have := g_b; have := g_c; refine Nat.le_trans (Nat.add_le_add (Nat.add_le_add_right (g_b _) _) (g_c _)) ?_; omega) | (refine Nat.le_trans (Nat.add_le_add_right (g_b _) _) ?_; omega) | exact Nat.le_trans (aff_len _ _) (by omega))) (hv_int 24)) (fun hb0 => (hv_or (hv_call small_2 (hd_cons (hv_vS rfl) hd_nil) (by exact ls9)) (fun hb0 => (hv_call small_2 (hd_cons (hv_vS rfl) hd_nil) (by exact ls9)))))) fun v H' e d => q v H' e (by rw [hF3]; exact d)
def m_is_entry (text_ : PySem.Str) : Bool :=
  ((decide (((Str.length text_ : Nat) : Int) ≤ (24 : Int))) && ((m_is_exception text_) || (m_is_pattern text_)))
abbrev s_is_entry : Stmt := (topS 12)
theorem sc_is_entry : FnScope ["text"] ["text"] (defScope s_is_entry) := ⟨rfl, rfl, rfl, by decide +kernel, rfl, by decide +kernel, by decide +kernel⟩
abbrev sp_is_entry (K : PySem.W.Frag) : Sp := PrD K (fun c : PySem.Str => [Dx.toX c]) (fun c => c.length ≤ 100) (fun c => (m_is_entry c : Bool))
theorem ok_is_entry (T : Txt P K mg) : FnOk P w K mg base CX0 3 T.f_is_entry T.d_is_entry ["text"] (sp_is_entry K) := by
  refine T.u_is_entry.ok sc_is_entry (fun vs H Q E h => ?_) (fun cdv A outer s H vs Q E hr h => ?_)
  · obtain ⟨Mc, c, mok, da, pre, q⟩ := h
    exact (dpa_len da)
  · obtain ⟨Mc, c, mok, da, pre, q⟩ := h
    obtain ⟨text_, rfl⟩ : ∃ z, z = c := ⟨c, rfl⟩
    dsimp only at da pre q
    obtain ⟨v0, w0, rfl, d0, da0⟩ := dpa_inv da
    cases dpa_inv0 da0
    cases (Dt.str d0)
    have s0 : Sg K Mc H H [] [] := Sg.enter mok True.intro
    refine ⟨_, (pss_cons (ps_ret (pe_and (pe_cmpR op_le (pe_callB call_len (by rfl) T.n_len (by decide +kernel) (pa_cons (pv 0) pa_nil)) (pe_glob (v := .int (24)) rfl T.g_LONGEST_ENTRY ⟨_, rfl⟩) (nomark _)) (pe_one (pe_or (pe_call (ok_is_exception T) hr (by rfl) T.g_is_exception T.u_is_exception.kp T.b_is_exception .nil pass0 (pa_cons (pv 0) pa_nil)) (pe_one (pe_call (ok_is_pattern T) hr (by rfl) T.g_is_pattern T.u_is_pattern.kp T.b_is_pattern .nil pass0 (pa_cons (pv 0) pa_nil))))))) pss_nil), ?_⟩
    have hF1 : m_is_entry text_ = ((decide (((Str.length text_ : Nat) : Int) ≤ (24 : Int))) && ((m_is_exception text_) || (m_is_pattern text_))) := (by  first | (simp only [m_is_entry, if_true, if_false, Bool.false_eq_true, decide_true, decide_false, Option.getD_some, Option.isNone_none, Option.isNone_some, Bool.not_true, Bool.not_false, ↓reduceIte]; done) | (rfl; done) | ((unfold m_is_entry); (dsimp only); first | done | rfl))
    exact zq_ret s0 (hv_and (hv_le (hv_lenS (hv_vS rfl) (by have := l_six; have := l_emp; have := l_dash; have := l_sg; first | omega | (simp only [str_len_app, strAt_len]; omega) | (refine Nat.le_trans (Nat.add_le_add_left (g_a _) _) ?_; omega) | (rw [str_len_app]; have := g_b; have := g_c; refine Nat.le_trans (Nat.add_le_add (Nat.add_le_add_right (g_b _) _) (g_c _)) ?_; omega) | (refine Nat.le_trans (Nat.add_le_add_right (g_b _) _) ?_; omega) | exact Nat.le_trans (aff_len _ _) (by omega))) (hv_int 24)) (fun hb0 => (hv_or (hv_call text_ (hd_cons (hv_vS rfl) hd_nil) (by exact pre)) (fun hb0 => (hv_call text_ (hd_cons (hv_vS rfl) hd_nil) (by exact pre)))))) fun v H' e d => q v H' e (by rw [hF1]; exact d)
def m_check_entries_l0  (s_ : Unit) (x_ : (Int × PySem.Str)) : Lp (Except Int Unit) (Unit) :=
  let at_ : Int := x_.1
  let entry_ : PySem.Str := x_.2
  if (!(m_is_entry entry_)) = true then
    Lp.ret (.error at_)
  else
    Lp.nxt ()
def m_check_entries (entries_ : (List PySem.Str)) : (Except Int Unit) :=
  match (loopL m_check_entries_l0 (enumL entries_) () : (Except Int Unit) ⊕ (Unit)) with
  | .inl rr_ => rr_
  | .inr r0_ =>
    (.ok ())
abbrev s_check_entries : Stmt := (topS 11)
theorem sc_check_entries : FnScope ["entries", "at", "entry"] ["entries"] (defScope s_check_entries) := ⟨rfl, rfl, rfl, by decide +kernel, rfl, by decide +kernel, by decide +kernel⟩
abbrev sp_check_entries (K : PySem.W.Frag) (C : Addr) : Sp := PrE K (fun c : (List PySem.Str) => [Dx.toX c]) (fun c => c.length ≤ 20 ∧ ∀ e ∈ c, e.length ≤ 100) (fun c => (m_check_entries c : (Except Int Unit))) C [PySem.Str.ofString "at"] (fun (i : Int) => [Dx.toX i])
theorem ok_check_entries (T : Txt P K mg) : FnOk P w K mg base (L2N.CX P w) 4 T.f_check_entries T.d_check_entries ["entries"] (sp_check_entries K T.C_BadEntry) := by
  refine fun_okC T.u_check_entries sc_check_entries (fun vs H Q E h => ?_) (fun cdv A outer s H vs Q E hr h => ?_)
  · obtain ⟨Mc, c, mok, da, pre, qok, qer⟩ := h
    exact (dpa_len da)
  · obtain ⟨Mc, c, mok, da, pre, qok, qer⟩ := h
    obtain ⟨entries_, rfl⟩ : ∃ z, z = c := ⟨c, rfl⟩
    dsimp only at da pre qok qer
    obtain ⟨v0, w0, rfl, d0, da0⟩ := dpa_inv da
    cases dpa_inv0 da0
    have s0 : Sg K Mc H H [(v0, Dx.toX entries_)] [] := Sg.enter mok ⟨d0, True.intro⟩
    refine ⟨_, (pss_cons (ps_for (passes_of rfl) rfl (pi_enum (by rfl) T.n_enumerate (pa_cons (pv 0) pa_nil)) (pg_tup rfl (pgs_cons (pg_name (i := 1) sc_check_entries.nd rfl (.inl rfl)) (pgs_cons (pg_name (i := 2) sc_check_entries.nd rfl (.inl rfl)) pgs_nil))) (pss_cons (ps_if (pt_not (pt_val (pe_call (ok_is_entry T) hr (by rfl) T.g_is_entry T.u_is_entry.kp T.b_is_entry .nil pass0 (pa_cons (pv 2) pa_nil)))) (pss_cons (L2N.ps_raise rfl (L2N.takes_of rfl rfl rfl rfl) (mk_excN T.T_BadEntry T.iC_BadEntry T.tI_BadEntry (T.FI_BadEntry w base) (hr.mono (by decide)) T.bI_BadEntry passN (by rfl) T.g_BadEntry (pv 1))) pss_nil) pss_nil) pss_nil)) pss_nil), ?_⟩
    refine zq_forE s0 (hv_var (x := entries_) rfl s0.im.1) (fun vsrc0 i σ' H' => ∃ (o1 : Option V) (o2 : Option V), (loopL m_check_entries_l0 (enumL entries_) () : (Except Int Unit) ⊕ (Unit)) = (loopL m_check_entries_l0 (List.drop i (enumL entries_)) () : (Except Int Unit) ⊕ (Unit)) ∧ True ∧ σ' = [some v0, o1, o2] ∧ Sg K Mc H H' [(vsrc0, Dx.toX entries_), (v0, Dx.toX entries_)] []) (fun vsrc0 Hs3 s3 => ⟨_, _, rfl, (by first | trivial | omega | (simp; done) | simp_all), rfl, s3.keep fun _ h => ⟨h.1, ⟨h.2.1, True.intro⟩⟩⟩) (fun vsrc0 i σ' H' hP => by obtain ⟨o1, o2, he, hg, hs, hS⟩ := hP; exact ⟨hS.im.1, hS.mok⟩) (fun vsrc0 i7 x8 wx8 σ' Hs6 Hs6b hi10 hP eT12 hx9 => ?_) (fun vsrc0 σ' Hs6 hP => ?_)
    · obtain ⟨o1, o2, he4, hg5, rfl, s6⟩ := hP
      have s6 := s6.ex eT12
      have qx8 := (List.getElem?_eq_some_iff.mp hi10).1
      rw [enumL_len] at qx8
      obtain ⟨l17, u13, u14, rfl, st18, d15, d16⟩ := Dt.pair (p := x8) hx9
      have zd15 := Dt.int d15
      subst zd15
      have zd16 := Dt.str d16
      subst zd16
      refine ⟨_, _, rfl, ex_t msk_le st18, rfl, _, _, rfl, _, _, rfl, rfl, ?_⟩
      have ex9 := enumL_at hi10
      have el9 := pre.2 _ (List.mem_of_getElem? ex9.2)
      have ei9 := (List.getElem?_eq_some_iff.mp ex9.2).1
      refine z_ifx (b := (!(m_is_entry x8.2))) s6 (ht_not (ht_B (K := K) (hv_call x8.2 (hd_cons (hv_vS rfl) hd_nil) (by exact el9)))) (fun hb19 Hs20 s20 => ?_) (fun hb19 Hs21 s21 => ?_)
      · have hb19P := hb19
        try simp only [decide_eq_true_eq, decide_eq_false_iff_not, Bool.not_eq_true', Bool.not_eq_false', Bool.and_eq_true, Bool.or_eq_true, Bool.or_eq_false_iff] at hb19P
        have hf22 : m_check_entries_l0 () x8 = Lp.ret (.error x8.1) := (by  first | (simp only [m_check_entries_l0, hb19, if_true, if_false, Bool.false_eq_true, decide_true, decide_false, Option.getD_some, Option.isNone_none, Option.isNone_some, Bool.not_true, Bool.not_false, ↓reduceIte]; done) | (rfl; done) | ((unfold m_check_entries_l0); (dsimp only); (first | rw [ifT hb19] | rw [ifF hb19] | skip); (try dsimp only); first | done | rfl) | (exfalso; simp at hb19; done))
        have hl23 := he4.trans (loopL_ret hi10 hf22)
        have hF24 : m_check_entries entries_ = (.error x8.1) := (by  first | (simp only [m_check_entries, hb19, hl23, if_true, if_false, Bool.false_eq_true, decide_true, decide_false, Option.getD_some, Option.isNone_none, Option.isNone_some, Bool.not_true, Bool.not_false, ↓reduceIte]; done) | (rfl; done) | ((unfold m_check_entries); (dsimp only); (first | rw [ifT hb19] | rw [ifF hb19] | skip); (try dsimp only); (first | rw [hl23] | skip); (try dsimp only); first | done | rfl) | (exfalso; simp at hb19; done))
        exact zq_raiseE s20 (hv_vI rfl) ⟨_, rfl, (by first | omega | decide +kernel | (simp only [List.length_cons, List.length_nil]; omega)), (by first | omega | decide +kernel | (simp only [List.length_cons, List.length_nil]; omega))⟩ fun d H' e hd => qer _ hF24 d H' e hd
      · have hb19P := hb19
        try simp only [decide_eq_true_eq, decide_eq_false_iff_not, Bool.not_eq_true', Bool.not_eq_false', Bool.and_eq_true, Bool.or_eq_true, Bool.or_eq_false_iff] at hb19P
        have hf25 : m_check_entries_l0 () x8 = Lp.nxt () := (by  first | (simp only [m_check_entries_l0, hb19, if_true, if_false, Bool.false_eq_true, decide_true, decide_false, Option.getD_some, Option.isNone_none, Option.isNone_some, Bool.not_true, Bool.not_false, ↓reduceIte]; done) | (rfl; done) | ((unfold m_check_entries_l0); (dsimp only); (first | rw [ifT hb19] | rw [ifF hb19] | skip); (try dsimp only); first | done | rfl) | (exfalso; simp at hb19; done))
        exact ⟨_, _, he4.trans (loopL_nxt hi10 hf25), (by first | trivial | omega | (simp_all; done) | (simp_all; omega)), rfl, s21.keep fun _ h => ⟨h.1, ⟨h.2.1, True.intro⟩⟩⟩
    · obtain ⟨o26, o27, he29, hg30, rfl, s28⟩ := hP
      rw [loopL_end] at he29
      exact qok () (show m_check_entries entries_ = .ok () from (by  first | (simp only [m_check_entries, he29, if_true, if_false, Bool.false_eq_true, decide_true, decide_false, Option.getD_some, Option.isNone_none, Option.isNone_some, Bool.not_true, Bool.not_false, ↓reduceIte]; done) | (rfl; done) | ((unfold m_check_entries); (dsimp only); (first | rw [he29] | skip); (try dsimp only); first | done | rfl))) .non _ s28.all (show Dt K _ V.non () from Dt.ofNon)
def m_law_l0 (script_ : (List Int)) (s_ : (List PySem.Str)) (x_ : Int) : (List PySem.Str) :=
  let entries_ : (List PySem.Str) := s_
  let k_ : Int := x_
  if ((decide (((m_law_cell script_ (1 : Int)) % (3 : Int)) = (0 : Int))) || (decide ((((m_law_cell script_ (1 : Int)) / (3 : Int)) % (7 : Int)) = k_))) = true then
    let entries_ : (List PySem.Str) := entries_ ++ [(m_law_any_text (m_law_cell script_ ((2 : Int) + k_)))]
    entries_
  else
    let entries_ : (List PySem.Str) := entries_ ++ [(m_law_good_text (m_law_cell script_ ((2 : Int) + k_)))]
    entries_
def m_law_l1 (entries_ : (List PySem.Str)) (s_ : Int) (x_ : Int) : Int :=
  let bad_ : Int := s_
  let k_ : Int := x_
  if ((decide (bad_ < (0 : Int))) && (!(m_law_is_good (entries_.getD (Int.toNat k_) (PySem.Str.ofString ""))))) = true then
    let bad_ : Int := k_
    bad_
  else
    bad_
def m_law_l3  (s_ : Unit) (x_ : Bool) : Lp Bool (Unit) :=
  let wrong_ : Bool := x_
  if wrong_ = true then
    Lp.ret false
  else
    Lp.nxt ()
def m_law (script_ : (List Int)) : Bool :=
  let count_ : Int := ((m_law_cell script_ (0 : Int)) % (7 : Int))
  let entries_ : (List PySem.Str) := []
  let r0_ : (List PySem.Str) := loopN (m_law_l0 script_) (Int.toNat count_) (0 : Int) entries_
  let entries_ : (List PySem.Str) := r0_
  let bad_ : Int := (-1 : Int)
  let r1_ : Int := loopN (m_law_l1 entries_) (Int.toNat count_) (0 : Int) bad_
  let bad_ : Int := r1_
  let passed_ : (List PySem.Str) := entries_
  let at_ : Int := (-1 : Int)
  let told_ : Int := (0 : Int)
  match ((m_check_entries passed_) : Except Int Unit) with
  | .ok tv_ =>
    let told_ : Unit := tv_
    if (!decide (passed_ = entries_)) = true then
      false
    else
      ((decide (at_ = bad_)) && (decide ((Option.isNone (none : Option Int)) = (decide (bad_ < (0 : Int))))))
  | .error te_ =>
    let at_ : Int := te_
    match (loopL m_law_l3 [false, false, false, false] () : Bool ⊕ (Unit)) with
    | .inl rr_ => rr_
    | .inr r3_ =>
      if (!decide (passed_ = entries_)) = true then
        false
      else
        ((decide (at_ = bad_)) && (decide ((Option.isNone (some told_)) = (decide (bad_ < (0 : Int))))))
abbrev s_law : Stmt := (topS 24)
theorem sc_law : FnScope ["script", "count", "entries", "k", "bad", "passed", "at", "told", "e", "wrong"] ["script"] (defScope s_law) := ⟨rfl, rfl, rfl, by decide +kernel, rfl, by decide +kernel, by decide +kernel⟩
abbrev sp_law (K : PySem.W.Frag) : Sp := PrD K (fun c : (List Int) => [Dx.toX c]) (fun c => True) (fun c => (m_law c : Bool))
theorem ok_law (T : Txt P K mg) : FnOk P w K mg base CX0 5 T.f_law T.d_law ["script"] (sp_law K) := by
  refine T.u_law.ok sc_law (fun vs H Q E h => ?_) (fun cdv A outer s H vs Q E hr h => ?_)
  · obtain ⟨Mc, c, mok, da, pre, q⟩ := h
    exact (dpa_len da)
  · obtain ⟨Mc, c, mok, da, pre, q⟩ := h
    obtain ⟨script_, rfl⟩ : ∃ z, z = c := ⟨c, rfl⟩
    dsimp only at da pre q
    obtain ⟨v0, w0, rfl, d0, da0⟩ := dpa_inv da
    cases dpa_inv0 da0
    have s0 : Sg K Mc H H [(v0, Dx.toX script_)] [] := Sg.enter mok ⟨d0, True.intro⟩
    refine ⟨_, (pss_cons (ps_set (i := 1) sc_law.nd rfl (.inl rfl) (pe_op op_mod (pe_call (ok_law_cell T) (hr.mono (by decide)) (by rfl) T.g_law_cell T.u_law_cell.kp T.b_law_cell .nil pass0 (pa_cons (pv 0) (pa_cons pe_int pa_nil))) pe_int)) (pss_cons (ps_set (i := 2) sc_law.nd rfl (.inl rfl) (pe_lst pa_nil)) (pss_cons (ps_for PassesOwn.never rfl (pi_range1 (by rfl) T.n_range (pa_cons (pv 1) pa_nil)) (pg_name (i := 3) sc_law.nd rfl (.inl rfl)) (pss_cons (ps_if (PW.pt (pw_or (pt_cmpR op_eq (pe_op op_mod (pe_call (ok_law_cell T) (hr.mono (by decide)) (by rfl) T.g_law_cell T.u_law_cell.kp T.b_law_cell .nil pass0 (pa_cons (pv 0) (pa_cons pe_int pa_nil))) pe_int) pe_int (nomark _)) (pw_or1 (pt_cmpR op_eq (pe_op op_mod (pe_op op_fdivW (pe_call (ok_law_cell T) (hr.mono (by decide)) (by rfl) T.g_law_cell T.u_law_cell.kp T.b_law_cell .nil pass0 (pa_cons (pv 0) (pa_cons pe_int pa_nil))) pe_int) pe_int) (pv 3) (nomark _))))) (pss_cons (ps_expr (pe_bm PySem.F.plainAttrs_list PySem.F.slot_list_append PySem.F.type_list_append mt_append (pv 2) (pa_cons (pe_call (ok_law_any_text T) (hr.mono (by decide)) (by rfl) T.g_law_any_text T.u_law_any_text.kp T.b_law_any_text .nil pass0 (pa_cons (pe_call (ok_law_cell T) (hr.mono (by decide)) (by rfl) T.g_law_cell T.u_law_cell.kp T.b_law_cell .nil pass0 (pa_cons (pv 0) (pa_cons (pe_op op_add pe_int (pv 3)) pa_nil))) pa_nil)) pa_nil))) pss_nil) (pss_cons (ps_expr (pe_bm PySem.F.plainAttrs_list PySem.F.slot_list_append PySem.F.type_list_append mt_append (pv 2) (pa_cons (pe_call (ok_law_good_text T) (hr.mono (by decide)) (by rfl) T.g_law_good_text T.u_law_good_text.kp T.b_law_good_text .nil pass0 (pa_cons (pe_call (ok_law_cell T) (hr.mono (by decide)) (by rfl) T.g_law_cell T.u_law_cell.kp T.b_law_cell .nil pass0 (pa_cons (pv 0) (pa_cons (pe_op op_add pe_int (pv 3)) pa_nil))) pa_nil)) pa_nil))) pss_nil)) pss_nil)) (pss_cons (ps_set (i := 4) sc_law.nd rfl (.inl rfl) (pe_un un_neg pe_int)) (pss_cons (ps_for PassesOwn.never rfl (pi_range1 (by rfl) T.n_range (pa_cons (pv 1) pa_nil)) (pg_name (i := 3) sc_law.nd rfl (.inl rfl)) (pss_cons (ps_if (PW.pt (pw_and (pt_cmpR op_lt (pv 4) pe_int (nomark _)) (pw_and1 (pt_not (pt_val (pe_call (ok_law_is_good T) (hr.mono (by decide)) (by rfl) T.g_law_is_good T.u_law_is_good.kp T.b_law_is_good .nil pass0 (pa_cons (pe_ix ix_list (pv 2) (pv 3) (fun _ _ => rfl)) pa_nil))))))) (pss_cons (ps_set (i := 4) sc_law.nd rfl (.inl rfl) (pv 3)) pss_nil) pss_nil) pss_nil)) (pss_cons (ps_set (i := 5) sc_law.nd rfl (.inl rfl) (pe_callTy call_list_of (by rfl) T.n_list (by decide +kernel) (pa_cons (pv 2) pa_nil))) (pss_cons (ps_set (i := 6) sc_law.nd rfl (.inl rfl) (pe_un un_neg pe_int)) (pss_cons (ps_set (i := 7) sc_law.nd rfl (.inl rfl) pe_int) (pss_cons (L2N.ps_try_as (i := 8) rfl rfl sc_law.nd rfl rfl ⟨by rfl, by decide, .inl T.g_BadEntry⟩ takes0N (fun W pn xe tk po => (pss_cons (ps_set (i := 7) sc_law.nd rfl (.inl rfl) (pe_callS (ok_check_entries T) hr (by rfl) T.g_check_entries T.u_check_entries.kp T.b_check_entries (L2N.passAt tk) (pa_cons (pv 5) pa_nil))) pss_nil)) (fun a_ oe_ cls_ d_ pn_ hz hf => (pss_cons (ps_set (i := 6) sc_law.nd rfl (.inl rfl) (pe_xf T.xf_BadEntry T.no_BadEntry_at ⟨hz.1, hz.2.1⟩ hf (pv 8))) (pss_cons (L2H.ps_forH PassesOwn.never (by exact hot_suite hz hf) (show L2H.PIH _ _ _ (iList K _) from pi_listH (pe_lst (pa_cons (pe_callB (call_isG T.ec_BadEntry ⟨hz.1, hz.2.1⟩ hf T.cl_BadEntry) (by rfl) T.n_isinstance (by decide +kernel) (pa_cons (pv 8) (pa_cons (pe_glob (v := .ref T.C_BadText) (by rfl) T.g_BadText rfl) pa_nil))) (pa_cons (pe_callB (call_isG T.ec_BadEntry ⟨hz.1, hz.2.1⟩ hf T.cl_BadEntry) (by rfl) T.n_isinstance (by decide +kernel) (pa_cons (pv 8) (pa_cons (pe_glob (v := .ref T.C_BadStyle) (by rfl) T.g_BadStyle rfl) pa_nil))) (pa_cons (pe_callB (call_isG T.ec_BadEntry ⟨hz.1, hz.2.1⟩ hf T.cl_BadEntry) (by rfl) T.n_isinstance (by decide +kernel) (pa_cons (pv 8) (pa_cons (pe_glob (v := .ref T.C_BadDemand) (by rfl) T.g_BadDemand rfl) pa_nil))) (pa_cons (pe_callB (call_isG T.ec_BadEntry ⟨hz.1, hz.2.1⟩ hf T.cl_BadEntry) (by rfl) T.n_isinstance (by decide +kernel) (pa_cons (pv 8) (pa_cons (pe_glob (v := .ref T.C_BadExample) (by rfl) T.g_BadExample rfl) pa_nil))) pa_nil)))))) (pg_name (i := 9) sc_law.nd rfl (.inl rfl)) (pss_cons (ps_if (pt_val (pv 9)) (pss_cons (ps_ret pe_bl) pss_nil) pss_nil) pss_nil)) (pss_cons (ps_if (PW.pt (pw_or (pt_not (pt_val (pe_callB (call_isG T.ec_BadEntry ⟨hz.1, hz.2.1⟩ hf T.cl_BadEntry) (by rfl) T.n_isinstance (by decide +kernel) (pa_cons (pv 8) (pa_cons (pe_glob (v := .ref T.C_FolioError) (by rfl) T.g_FolioError rfl) pa_nil))))) (pw_or1 (pt_not (pt_val (pe_callB (call_isG T.ec_BadEntry ⟨hz.1, hz.2.1⟩ hf T.cl_BadEntry) (by rfl) T.n_isinstance (by decide +kernel) (pa_cons (pv 8) (pa_cons (pe_bltn (v := .ty "ValueError") (by rfl) T.n_ValueError (by decide +kernel) rfl) pa_nil)))))))) (pss_cons (ps_ret pe_bl) pss_nil) pss_nil) (pss_cons (ps_if (PW.pt (pw_or (pt_not (pt_val (pe_callB (show CallR _ (.builtin "isinstance") (rIsi K) from call_isi) (by rfl) T.n_isinstance (by decide +kernel) (pa_cons (pv 6) (pa_cons (pe_bltn (v := .ty "int") (by rfl) T.n_int (by decide +kernel) rfl) pa_nil))))) (pw_or1 (pt_val (pe_callB (show CallR _ (.builtin "isinstance") (rIsi K) from call_isi) (by rfl) T.n_isinstance (by decide +kernel) (pa_cons (pv 6) (pa_cons (pe_bltn (v := .ty "bool") (by rfl) T.n_bool (by decide +kernel) rfl) pa_nil))))))) (pss_cons (ps_ret pe_bl) pss_nil) pss_nil) pss_nil)))))) (pss_cons (ps_if (pt_cmpR (op_neT (α := (List PySem.Str)) (hud hr (by decide +kernel))) (pv 5) (pv 2) (nomark _)) (pss_cons (ps_ret pe_bl) pss_nil) pss_nil) (pss_cons (ps_ret (pe_and (pe_cmpR op_eq (pv 6) (pv 4) (nomark _)) (pe_one (pe_cmpR op_eq (pe_cmpR op_isN (pv 7) pe_non (nomark _)) (pe_cmpR op_lt (pv 4) pe_int (nomark _)) (nomark _))))) pss_nil))))))))))), ?_⟩
    refine z_asgIG s0 (hv_mod (hv_call (script_, (0 : Int)) (hd_cons (hv_var (x := script_) rfl s0.im.1) (hd_cons (hv_int 0) hd_nil)) (by first | omega | (dsimp only; omega) | (subst_vars; omega) | decide +kernel)) (hv_int 7) (by first | omega | decide +kernel | (simp only [List.length_cons, List.length_nil]; omega))) fun count_2 hcount_2 Hs1 s1 => ?_
    try dsimp only at hcount_2
    refine z_nilG PySem.Str s1 fun entries_4 hentries_4 ps3 Hs3 s3 => ?_
    have lentries_4 : entries_4.length = 0 := by rw [hentries_4]; rfl
    refine zq_forR1G s3 (hv_vI rfl) (by first | omega | decide +kernel | (simp only [List.length_cons, List.length_nil]; omega)) (fun i σ' H' => ∃ (entries_5 : (List PySem.Str)) (o6 : Option V) (o7 : Option V) (o8 : Option V) (o9 : Option V) (o10 : Option V) (o11 : Option V) (o12 : Option V), (loopN (m_law_l0 script_) (Int.toNat count_2) (0 : Int) entries_4 : (List PySem.Str)) = (loopN (m_law_l0 script_) ((Int.toNat count_2) - i) ((0 : Int) + (i : Int)) entries_5 : (List PySem.Str)) ∧ (entries_5.length = (i) ∧ ∀ e ∈ entries_5, e.length ≤ 100) ∧ σ' = [some v0, some (V.int count_2), some (.ref ps3), o6, o7, o8, o9, o10, o11, o12] ∧ Sg K Mc H H' [(v0, Dx.toX script_)] [(ps3, .lst (List.map Dx.toX entries_5))]) (fun Hs13 s13 => ⟨entries_4, _, _, _, _, _, _, _, (by simp), (by first | trivial | omega | (simp; done) | simp_all), rfl, s13.keep fun _ h => ⟨h.1, True.intro⟩⟩) (fun i17 x18 σ' Hs16 hx19 hi20 hP => ?_) (fun σ' Hs16 hP => ?_)
    · obtain ⟨entries_5, o6, o7, o8, o9, o10, o11, o12, he14, hg15, rfl, s16⟩ := hP
      have hg15q0 := hg15.1
      have hg15q1 := hg15.2
      have pre9 := hg15
      refine z_if (b := ((decide (((m_law_cell script_ (1 : Int)) % (3 : Int)) = (0 : Int))) || (decide ((((m_law_cell script_ (1 : Int)) / (3 : Int)) % (7 : Int)) = x18)))) s16 (ht_or (ht_val (K := K) (hv_eqI (hv_mod (hv_call (script_, (1 : Int)) (hd_cons (hv_var (x := script_) rfl s16.im.1) (hd_cons (hv_int 1) hd_nil)) (by first | omega | (dsimp only; omega) | (subst_vars; omega) | decide +kernel)) (hv_int 3) (by first | omega | decide +kernel | (simp only [List.length_cons, List.length_nil]; omega))) (hv_int 0))) (fun hb0 => (ht_val (K := K) (hv_eqI (hv_mod (hv_div (hv_call (script_, (1 : Int)) (hd_cons (hv_var (x := script_) rfl s16.im.1) (hd_cons (hv_int 1) hd_nil)) (by first | omega | (dsimp only; omega) | (subst_vars; omega) | decide +kernel)) (hv_int 3) (by first | exact ⟨by decide +kernel, by decide +kernel⟩ | (refine log_small ?_ ?_ <;> omega))) (hv_int 7) (by first | omega | decide +kernel | (simp only [List.length_cons, List.length_nil]; omega))) (hv_vI rfl))))) (fun hb22 Hs23 s23 => ?_) (fun hb22 Hs24 s24 => ?_)
      · have hb22P := hb22
        try simp only [decide_eq_true_eq, decide_eq_false_iff_not, Bool.not_eq_true', Bool.not_eq_false', Bool.and_eq_true, Bool.or_eq_true, Bool.or_eq_false_iff] at hb22P
        refine zq_appG s23 (kk := 0) rfl (ev_var rfl) (hv_call (m_law_cell script_ ((2 : Int) + x18)) (hd_cons (hv_call (script_, ((2 : Int) + x18)) (hd_cons (hv_var (x := script_) rfl s23.im.1) (hd_cons (hv_add (hv_int 2) (hv_vI rfl)) hd_nil)) (by first | omega | (dsimp only; omega) | (subst_vars; omega) | decide +kernel)) hd_nil) True.intro) (by first | omega | decide +kernel | (simp only [List.length_cons, List.length_nil]; omega)) fun entries_26 hentries_26 Hs25 s25 => ?_
        have lentries_26 : entries_26.length = entries_5.length + 1 := by rw [hentries_26, List.length_append]; rfl
        have s25 : Sg K Mc _ _ _ [(ps3, .lst (List.map Dx.toX entries_26))] := s25
        have hf27 : (m_law_l0 script_) entries_5 x18 = entries_26 := (by subst hentries_26; subst hentries_4; subst hcount_2; first | (simp only [m_law_l0, hb22, if_true, if_false, Bool.false_eq_true, decide_true, decide_false, Option.getD_some, Option.isNone_none, Option.isNone_some, Bool.not_true, Bool.not_false, ↓reduceIte]; done) | (rfl; done) | ((unfold m_law_l0); (dsimp only); (first | rw [ifT hb22] | rw [ifF hb22] | skip); (try dsimp only); first | done | rfl) | (exfalso; simp at hb22; done))
        exact ⟨entries_26, _, _, _, _, _, _, _, he14.trans ((loopN_step hi20).trans (by rw [← hx19, hf27])), (by subst_vars; refine ⟨by rw [List.length_append]; simp only [List.length_cons, List.length_nil] <;> omega, fun e he => ?_⟩; rcases List.mem_append.mp he with q9 | q9; exact (pre9).2 e q9; rw [List.mem_singleton.mp q9]; first | exact any_len _ | exact good_len _), rfl, s25.keep fun _ h => ⟨h.1, True.intro⟩⟩
      · have hb22P := hb22
        try simp only [decide_eq_true_eq, decide_eq_false_iff_not, Bool.not_eq_true', Bool.not_eq_false', Bool.and_eq_true, Bool.or_eq_true, Bool.or_eq_false_iff] at hb22P
        refine zq_appG s24 (kk := 0) rfl (ev_var rfl) (hv_call (m_law_cell script_ ((2 : Int) + x18)) (hd_cons (hv_call (script_, ((2 : Int) + x18)) (hd_cons (hv_var (x := script_) rfl s24.im.1) (hd_cons (hv_add (hv_int 2) (hv_vI rfl)) hd_nil)) (by first | omega | (dsimp only; omega) | (subst_vars; omega) | decide +kernel)) hd_nil) True.intro) (by first | omega | decide +kernel | (simp only [List.length_cons, List.length_nil]; omega)) fun entries_29 hentries_29 Hs28 s28 => ?_
        have lentries_29 : entries_29.length = entries_5.length + 1 := by rw [hentries_29, List.length_append]; rfl
        have s28 : Sg K Mc _ _ _ [(ps3, .lst (List.map Dx.toX entries_29))] := s28
        have hf30 : (m_law_l0 script_) entries_5 x18 = entries_29 := (by subst hentries_29; subst hentries_4; subst hcount_2; first | (simp only [m_law_l0, hb22, if_true, if_false, Bool.false_eq_true, decide_true, decide_false, Option.getD_some, Option.isNone_none, Option.isNone_some, Bool.not_true, Bool.not_false, ↓reduceIte]; done) | (rfl; done) | ((unfold m_law_l0); (dsimp only); (first | rw [ifT hb22] | rw [ifF hb22] | skip); (try dsimp only); first | done | rfl) | (exfalso; simp at hb22; done))
        exact ⟨entries_29, _, _, _, _, _, _, _, he14.trans ((loopN_step hi20).trans (by rw [← hx19, hf30])), (by subst_vars; refine ⟨by rw [List.length_append]; simp only [List.length_cons, List.length_nil] <;> omega, fun e he => ?_⟩; rcases List.mem_append.mp he with q9 | q9; exact (pre9).2 e q9; rw [List.mem_singleton.mp q9]; first | exact any_len _ | exact good_len _), rfl, s28.keep fun _ h => ⟨h.1, True.intro⟩⟩
    · obtain ⟨entries_31, o32, o33, o34, o35, o36, o37, o38, he40, hg41, rfl, s39⟩ := hP
      have hg41q0 := hg41.1
      have hg41q1 := hg41.2
      rw [loopN_end] at he40
      have le9 := hg41.2
      have ln9 := hg41.1
      have s42 := Sg.frz (xs := entries_31) s39
      refine z_asgIG s42 (hv_neg (hv_int 1)) fun bad_44 hbad_44 Hs43 s43 => ?_
      try dsimp only at hbad_44
      refine zq_forR1G s43 (hv_vI rfl) (by first | omega | decide +kernel | (simp only [List.length_cons, List.length_nil]; omega)) (fun i σ' H' => ∃ (bad_45 : Int) (o46 : Option V) (o47 : Option V) (o48 : Option V) (o49 : Option V) (o50 : Option V) (o51 : Option V), (loopN (m_law_l1 entries_31) (Int.toNat count_2) (0 : Int) bad_44 : Int) = (loopN (m_law_l1 entries_31) ((Int.toNat count_2) - i) ((0 : Int) + (i : Int)) bad_45 : Int) ∧ True ∧ σ' = [some v0, some (V.int count_2), some (V.ref ps3), o46, some (V.int bad_45), o47, o48, o49, o50, o51] ∧ Sg K Mc H H' [((V.ref ps3), Dx.toX entries_31), (v0, Dx.toX script_)] []) (fun Hs52 s52 => ⟨bad_44, _, _, _, _, _, _, (by simp), (by first | trivial | omega | (simp; done) | simp_all), rfl, s52.keep fun _ h => ⟨h.1, ⟨h.2.1, True.intro⟩⟩⟩) (fun i56 x57 σ' Hs55 hx58 hi59 hP => ?_) (fun σ' Hs55 hP => ?_)
      · obtain ⟨bad_45, o46, o47, o48, o49, o50, o51, he53, hg54, rfl, s55⟩ := hP
        have el9 : (entries_31.getD (Int.toNat x57) (PySem.Str.ofString "")).length ≤ 100 := getD_P (P := fun s => Str.length s ≤ 100) le9 (by rw [l_emp]; omega) _
        refine z_ifx (b := ((decide (bad_45 < (0 : Int))) && (!(m_law_is_good (entries_31.getD (Int.toNat x57) (PySem.Str.ofString "")))))) s55 (ht_and (ht_val (K := K) (hv_lt (hv_vI rfl) (hv_int 0))) (fun hb0 => (ht_not (ht_B (K := K) (hv_call (entries_31.getD (Int.toNat x57) (PySem.Str.ofString "")) (hd_cons (hv_at (PySem.Str.ofString "") (hs_of (hv_var (x := entries_31) rfl s55.im.1)) (hv_vI rfl) (by first | omega | decide +kernel | (simp only [List.length_cons, List.length_nil]; omega)) (by first | omega | decide +kernel | (simp only [List.length_cons, List.length_nil]; omega))) hd_nil) (by exact el9)))))) (fun hb61 Hs62 s62 => ?_) (fun hb61 Hs63 s63 => ?_)
        · have hb61P := hb61
          try simp only [decide_eq_true_eq, decide_eq_false_iff_not, Bool.not_eq_true', Bool.not_eq_false', Bool.and_eq_true, Bool.or_eq_true, Bool.or_eq_false_iff] at hb61P
          refine z_asgIG s62 (hv_vI rfl) fun bad_65 hbad_65 Hs64 s64 => ?_
          try dsimp only at hbad_65
          have hf66 : (m_law_l1 entries_31) bad_45 x57 = bad_65 := (by subst hbad_65; subst hbad_44; subst hentries_4; subst hcount_2; first | (simp only [m_law_l1, he40, hb61, if_true, if_false, Bool.false_eq_true, decide_true, decide_false, Option.getD_some, Option.isNone_none, Option.isNone_some, Bool.not_true, Bool.not_false, ↓reduceIte]; done) | (rfl; done) | ((unfold m_law_l1); (dsimp only); (first | rw [he40] | skip); (try dsimp only); (first | rw [ifT hb61] | rw [ifF hb61] | skip); (try dsimp only); first | done | rfl) | (exfalso; simp at hb61; done))
          exact ⟨bad_65, _, _, _, _, _, _, he53.trans ((loopN_step hi59).trans (by rw [← hx58, hf66])), (by first | trivial | omega | (simp_all; done) | (simp_all; omega)), rfl, s64.keep fun _ h => ⟨h.1, ⟨h.2.1, True.intro⟩⟩⟩
        · have hb61P := hb61
          try simp only [decide_eq_true_eq, decide_eq_false_iff_not, Bool.not_eq_true', Bool.not_eq_false', Bool.and_eq_true, Bool.or_eq_true, Bool.or_eq_false_iff] at hb61P
          have hf67 : (m_law_l1 entries_31) bad_45 x57 = bad_45 := (by subst hbad_44; subst hentries_4; subst hcount_2; first | (simp only [m_law_l1, he40, hb61, if_true, if_false, Bool.false_eq_true, decide_true, decide_false, Option.getD_some, Option.isNone_none, Option.isNone_some, Bool.not_true, Bool.not_false, ↓reduceIte]; done) | (rfl; done) | ((unfold m_law_l1); (dsimp only); (first | rw [he40] | skip); (try dsimp only); (first | rw [ifT hb61] | rw [ifF hb61] | skip); (try dsimp only); first | done | rfl) | (exfalso; simp at hb61; done))
          exact ⟨bad_45, _, _, _, _, _, _, he53.trans ((loopN_step hi59).trans (by rw [← hx58, hf67])), (by first | trivial | omega | (simp_all; done) | (simp_all; omega)), rfl, s63.keep fun _ h => ⟨h.1, ⟨h.2.1, True.intro⟩⟩⟩
      · obtain ⟨bad_68, o69, o70, o71, o72, o73, o74, he76, hg77, rfl, s75⟩ := hP
        rw [loopN_end] at he76
        refine z_asgG s75 (hv_listOf (hs_of (hv_var (x := entries_31) rfl s75.im.1))) fun passed_79 hpassed_79 vpassed_79 Hs78 s78 => ?_
        try dsimp only at hpassed_79
        refine z_asgIG s78 (hv_neg (hv_int 1)) fun at_81 hat_81 Hs80 s80 => ?_
        try dsimp only at hat_81
        refine z_asgIG s80 (hv_int 0) fun told_83 htold_83 Hs82 s82 => ?_
        try dsimp only at htold_83
        refine zq_tryA passed_79 s82 (hd_cons (hv_var (x := passed_79) rfl s82.im.1) hd_nil) (by subst_vars; exact ⟨by omega, le9⟩) T.ex_BadEntry (fun tv84 hok86 vtv84 Hs88 s88 => ?_) (fun te85 her87 a90 d91 Hs89 s89 => ?_)
        · try dsimp only at hok86
          refine z_ifx (b := (!decide (passed_79 = entries_31))) s88 (ht_val (K := K) (hv_neT (hv_whole s88 (hv_var (x := passed_79) rfl s88.im.2.1)) (hv_whole s88 (hv_var (x := entries_31) rfl s88.im.2.2.1)))) (fun hb92 Hs93 s93 => ?_) (fun hb92 Hs94 s94 => ?_)
          · have hb92P := hb92
            try simp only [decide_eq_true_eq, decide_eq_false_iff_not, Bool.not_eq_true', Bool.not_eq_false', Bool.and_eq_true, Bool.or_eq_true, Bool.or_eq_false_iff] at hb92P
            have hF95 : m_law script_ = false := (by subst htold_83; subst hat_81; subst hpassed_79; subst hbad_44; subst hentries_4; subst hcount_2; first | (simp only [m_law, he40, he76, hok86, hb92, if_true, if_false, Bool.false_eq_true, decide_true, decide_false, Option.getD_some, Option.isNone_none, Option.isNone_some, Bool.not_true, Bool.not_false, ↓reduceIte]; done) | (rfl; done) | ((unfold m_law); (dsimp only); (first | rw [he40] | skip); (try dsimp only); (first | rw [he76] | skip); (try dsimp only); (first | rw [hok86] | skip); (try dsimp only); (first | rw [ifT hb92] | rw [ifF hb92] | skip); (try dsimp only); first | done | rfl) | (exfalso; simp at hb92; done))
            exact zq_ret s93 (hv_bl false) fun v H' e d => q v H' e (by rw [hF95]; exact d)
          · have hb92P := hb92
            try simp only [decide_eq_true_eq, decide_eq_false_iff_not, Bool.not_eq_true', Bool.not_eq_false', Bool.and_eq_true, Bool.or_eq_true, Bool.or_eq_false_iff] at hb92P
            have hF96 : m_law script_ = ((decide (at_81 = bad_68)) && (decide ((Option.isNone (none : Option Int)) = (decide (bad_68 < (0 : Int)))))) := (by subst htold_83; subst hat_81; subst hpassed_79; subst hbad_44; subst hentries_4; subst hcount_2; first | (simp only [m_law, he40, he76, hok86, hb92, if_true, if_false, Bool.false_eq_true, decide_true, decide_false, Option.getD_some, Option.isNone_none, Option.isNone_some, Bool.not_true, Bool.not_false, ↓reduceIte]; done) | (rfl; done) | ((unfold m_law); (dsimp only); (first | rw [he40] | skip); (try dsimp only); (first | rw [he76] | skip); (try dsimp only); (first | rw [hok86] | skip); (try dsimp only); (first | rw [ifT hb92] | rw [ifF hb92] | skip); (try dsimp only); first | done | rfl) | (exfalso; simp at hb92; done))
            exact zq_ret s94 (hv_and (hv_eqI (hv_vI rfl) (hv_vI rfl)) (fun hb0 => (hv_eqB (hv_isN (hv_co (y := (none : Option Int)) (hv_var (x := tv84) rfl s94.im.1) rfl)) (hv_lt (hv_vI rfl) (hv_int 0))))) fun v H' e d => q v H' e (by rw [hF96]; exact d)
        · try dsimp only at her87
          refine z_asgIG s89 (hv_xf (x := te85) (i := 0) rfl s89.im.1 rfl (by decide +kernel) rfl) fun at_98 hat_98 Hs97 s97 => ?_
          try dsimp only at hat_98
          refine zq_forG s97 (hv_lst (has_cons (hv_isG (b := false) rfl s97.im.1 (fun _ h => h) T.k_BadEntry_BadText) (has_cons (hv_isG (b := false) rfl s97.im.1 (fun _ h => h) T.k_BadEntry_BadStyle) (has_cons (hv_isG (b := false) rfl s97.im.1 (fun _ h => h) T.k_BadEntry_BadDemand) (has_cons (hv_isG (b := false) rfl s97.im.1 (fun _ h => h) T.k_BadEntry_BadExample) has_nil)))) (Nat.le_of_ble_eq_true rfl)) (fun vsrc3 i σ' H' => ∃ (o99 : Option V) (o100 : Option V), (loopL m_law_l3 [false, false, false, false] () : Bool ⊕ (Unit)) = (loopL m_law_l3 (List.drop i [false, false, false, false]) () : Bool ⊕ (Unit)) ∧ True ∧ σ' = [some v0, some (V.int count_2), some (V.ref ps3), o99, some (V.int bad_68), some vpassed_79, some (V.int at_98), some (V.int told_83), some (.ref a90), o100] ∧ Sg K Mc H H' [(vsrc3, Dx.toX [false, false, false, false]), ((V.ref d91), (Xd.exd [PySem.Str.ofString "at"] [Dx.toX te85])), (vpassed_79, Dx.toX passed_79), ((V.ref ps3), Dx.toX entries_31), (v0, Dx.toX script_)] []) (fun vsrc3 Hs101 s101 => ⟨_, _, rfl, (by first | trivial | omega | (simp; done) | simp_all), rfl, s101.keep fun _ h => ⟨h.1, ⟨h.2.1, ⟨h.2.2.1, ⟨h.2.2.2.1, ⟨h.2.2.2.2.1, True.intro⟩⟩⟩⟩⟩⟩) (fun vsrc3 i σ' H' hP => by obtain ⟨o99, o100, he, hg, hs, hS⟩ := hP; exact hS.im.1) (fun vsrc3 i105 x106 wx106 σ' Hs104 hi108 hP hx107 => ?_) (fun vsrc3 σ' Hs104 hP => ?_)
          · obtain ⟨o99, o100, he102, hg103, rfl, s104⟩ := hP
            have qx106 := (List.getElem?_eq_some_iff.mp hi108).1
            cases (Dt.bool hx107)
            refine z_ifx (b := x106) s104 (ht_B (K := K) (hv_vB rfl)) (fun hb110 Hs111 s111 => ?_) (fun hb110 Hs112 s112 => ?_)
            · have hb110P := hb110
              try simp only [decide_eq_true_eq, decide_eq_false_iff_not, Bool.not_eq_true', Bool.not_eq_false', Bool.and_eq_true, Bool.or_eq_true, Bool.or_eq_false_iff] at hb110P
              have hf113 : m_law_l3 () x106 = Lp.ret false := (by subst hat_98; subst htold_83; subst hat_81; subst hpassed_79; subst hbad_44; subst hentries_4; subst hcount_2; first | (simp only [m_law_l3, he40, he76, her87, hb110, if_true, if_false, Bool.false_eq_true, decide_true, decide_false, Option.getD_some, Option.isNone_none, Option.isNone_some, Bool.not_true, Bool.not_false, ↓reduceIte]; done) | (rfl; done) | ((unfold m_law_l3); (dsimp only); (first | rw [he40] | skip); (try dsimp only); (first | rw [he76] | skip); (try dsimp only); (first | rw [her87] | skip); (try dsimp only); (first | rw [ifT hb110] | rw [ifF hb110] | skip); (try dsimp only); first | done | rfl) | (exfalso; simp at hb110; done))
              have hl114 := he102.trans (loopL_ret hi108 hf113)
              have hF115 : m_law script_ = false := (by subst hat_98; subst htold_83; subst hat_81; subst hpassed_79; subst hbad_44; subst hentries_4; subst hcount_2; first | (simp only [m_law, he40, he76, her87, hb110, hl114, if_true, if_false, Bool.false_eq_true, decide_true, decide_false, Option.getD_some, Option.isNone_none, Option.isNone_some, Bool.not_true, Bool.not_false, ↓reduceIte]; done) | (rfl; done) | ((unfold m_law); (dsimp only); (first | rw [he40] | skip); (try dsimp only); (first | rw [he76] | skip); (try dsimp only); (first | rw [her87] | skip); (try dsimp only); (first | rw [ifT hb110] | rw [ifF hb110] | skip); (try dsimp only); (first | rw [hl114] | skip); (try dsimp only); first | done | rfl) | (exfalso; simp at hb110; done))
              exact zq_ret s111 (hv_bl false) fun v H' e d => q v H' e (by rw [hF115]; exact d)
            · have hb110P := hb110
              try simp only [decide_eq_true_eq, decide_eq_false_iff_not, Bool.not_eq_true', Bool.not_eq_false', Bool.and_eq_true, Bool.or_eq_true, Bool.or_eq_false_iff] at hb110P
              have hf116 : m_law_l3 () x106 = Lp.nxt () := (by subst hat_98; subst htold_83; subst hat_81; subst hpassed_79; subst hbad_44; subst hentries_4; subst hcount_2; first | (simp only [m_law_l3, he40, he76, her87, hb110, if_true, if_false, Bool.false_eq_true, decide_true, decide_false, Option.getD_some, Option.isNone_none, Option.isNone_some, Bool.not_true, Bool.not_false, ↓reduceIte]; done) | (rfl; done) | ((unfold m_law_l3); (dsimp only); (first | rw [he40] | skip); (try dsimp only); (first | rw [he76] | skip); (try dsimp only); (first | rw [her87] | skip); (try dsimp only); (first | rw [ifT hb110] | rw [ifF hb110] | skip); (try dsimp only); first | done | rfl) | (exfalso; simp at hb110; done))
              exact ⟨_, _, he102.trans (loopL_nxt hi108 hf116), (by first | trivial | omega | (simp_all; done) | (simp_all; omega)), rfl, s112.keep fun _ h => ⟨h.1, ⟨h.2.1, ⟨h.2.2.1, ⟨h.2.2.2.1, ⟨h.2.2.2.2.1, True.intro⟩⟩⟩⟩⟩⟩
          · obtain ⟨o117, o118, he120, hg121, rfl, s119⟩ := hP
            rw [loopL_end] at he120
            refine z_ifx (b := false) s119 (HT.is (ht_or (HT.is (ht_not (ht_B (K := K) (hv_isG (b := true) rfl s119.im.2.1 (fun _ h => h) T.k_BadEntry_FolioError))) (show _ = false by first | rfl | decide | simp)) (fun hb0 => (HT.is (ht_not (ht_B (K := K) (hv_isG (b := true) rfl s119.im.2.1 (fun _ h => h) T.k_BadEntry_ValueError))) (show _ = false by first | rfl | decide | simp)))) (show _ = false by first | rfl | decide | simp)) (fun hb => absurd hb Bool.false_ne_true) (fun _ Hs122 s122 => ?_)
            refine z_ifx (b := false) s122 (HT.is (ht_or (HT.is (ht_not (ht_B (K := K) (hv_isi (b := true) (hv_vI rfl) (by decide +kernel)))) (show _ = false by first | rfl | decide | simp)) (fun hb0 => (ht_B (K := K) (hv_isi (b := false) (hv_vI rfl) (by decide +kernel))))) (show _ = false by first | rfl | decide | simp)) (fun hb => absurd hb Bool.false_ne_true) (fun _ Hs123 s123 => ?_)
            refine suite_end ?_
            refine z_ifx (b := (!decide (passed_79 = entries_31))) s123 (ht_val (K := K) (hv_neT (hv_whole s123 (hv_var (x := passed_79) rfl s123.im.2.2.1)) (hv_whole s123 (hv_var (x := entries_31) rfl s123.im.2.2.2.1)))) (fun hb124 Hs125 s125 => ?_) (fun hb124 Hs126 s126 => ?_)
            · have hb124P := hb124
              try simp only [decide_eq_true_eq, decide_eq_false_iff_not, Bool.not_eq_true', Bool.not_eq_false', Bool.and_eq_true, Bool.or_eq_true, Bool.or_eq_false_iff] at hb124P
              have hF127 : m_law script_ = false := (by subst hat_98; subst htold_83; subst hat_81; subst hpassed_79; subst hbad_44; subst hentries_4; subst hcount_2; first | (simp only [m_law, he40, he76, her87, he120, hb124, if_true, if_false, Bool.false_eq_true, decide_true, decide_false, Option.getD_some, Option.isNone_none, Option.isNone_some, Bool.not_true, Bool.not_false, ↓reduceIte]; done) | (rfl; done) | ((unfold m_law); (dsimp only); (first | rw [he40] | skip); (try dsimp only); (first | rw [he76] | skip); (try dsimp only); (first | rw [her87] | skip); (try dsimp only); (first | rw [he120] | skip); (try dsimp only); (first | rw [ifT hb124] | rw [ifF hb124] | skip); (try dsimp only); first | done | rfl) | (exfalso; simp at hb124; done))
              exact zq_ret s125 (hv_bl false) fun v H' e d => q v H' e (by rw [hF127]; exact d)
            · have hb124P := hb124
              try simp only [decide_eq_true_eq, decide_eq_false_iff_not, Bool.not_eq_true', Bool.not_eq_false', Bool.and_eq_true, Bool.or_eq_true, Bool.or_eq_false_iff] at hb124P
              have hF128 : m_law script_ = ((decide (at_98 = bad_68)) && (decide ((Option.isNone (some told_83)) = (decide (bad_68 < (0 : Int)))))) := (by subst hat_98; subst htold_83; subst hat_81; subst hpassed_79; subst hbad_44; subst hentries_4; subst hcount_2; first | (simp only [m_law, he40, he76, her87, he120, hb124, if_true, if_false, Bool.false_eq_true, decide_true, decide_false, Option.getD_some, Option.isNone_none, Option.isNone_some, Bool.not_true, Bool.not_false, ↓reduceIte]; done) | (rfl; done) | ((unfold m_law); (dsimp only); (first | rw [he40] | skip); (try dsimp only); (first | rw [he76] | skip); (try dsimp only); (first | rw [her87] | skip); (try dsimp only); (first | rw [he120] | skip); (try dsimp only); (first | rw [ifT hb124] | rw [ifF hb124] | skip); (try dsimp only); first | done | rfl) | (exfalso; simp at hb124; done))
              exact zq_ret s126 (hv_and (hv_eqI (hv_vI rfl) (hv_vI rfl)) (fun hb0 => (hv_eqB (hv_isN (hv_some (hv_vI rfl))) (hv_lt (hv_vI rfl) (hv_int 0))))) fun v H' e d => q v H' e (by rw [hF128]; exact d)
end -- walk
/-- MATH -/
theorem dash_eq : PySem.Str.ofString "-" = ⟨#[45]⟩ := by decide +kernel
theorem dot_eq : PySem.Str.ofString "." = ⟨#[46]⟩ := by decide +kernel
theorem one_eq {a b : Nat} : (⟨#[a]⟩ : PySem.Str) = ⟨#[b]⟩ ↔ a = b := by
  constructor
  · intro h
    have := congrArg cps h
    simpa [cps] using this
  · intro h; rw [h]
def Asc (t : PySem.Str) : Prop := ∀ c ∈ cps t, c < 128
def LET (c : Nat) : Bool := decide (65 ≤ c ∧ c ≤ 90 ∨ 97 ≤ c ∧ c ≤ 122)
def LOW (c : Nat) : Bool := decide (97 ≤ c ∧ c ≤ 122)
def DGT (c : Nat) : Bool := decide (48 ≤ c ∧ c ≤ 57)
theorem cps_let : cps (PySem.Str.ofString "abcdefghijklmnopqrstuvwxyzABCDEFGHIJKLMNOPQRSTUVWXYZ") = (List.range 26).map (· + 97) ++ (List.range 26).map (· + 65) := by decide +kernel
theorem cps_lowd : cps (PySem.Str.ofString "abcdefghijklmnopqrstuvwxyz-") = (List.range 26).map (· + 97) ++ [45] := by decide +kernel
theorem cps_lowp : cps (PySem.Str.ofString "abcdefghijklmnopqrstuvwxyz0123456789.") = (List.range 26).map (· + 97) ++ (List.range 10).map (· + 48) ++ [46] := by decide +kernel
theorem cps_dig9 : cps (PySem.Str.ofString "0123456789") = (List.range 10).map (· + 48) := by decide +kernel
theorem mem_rng (n b c : Nat) : c ∈ (List.range n).map (· + b) ↔ b ≤ c ∧ c < b + n := by
  simp only [List.mem_map, List.mem_range]
  constructor
  · rintro ⟨a, h, rfl⟩; omega
  · intro h; exact ⟨c - b, by omega, by omega⟩
theorem in_let (c : Nat) : inStr ⟨#[c]⟩ (PySem.Str.ofString "abcdefghijklmnopqrstuvwxyzABCDEFGHIJKLMNOPQRSTUVWXYZ") = LET c := by
  rw [inStr_one, cps_let]; unfold LET
  refine decide_eq_decide.mpr ?_
  rw [List.mem_append, mem_rng, mem_rng]; omega
theorem in_lowd (c : Nat) : inStr ⟨#[c]⟩ (PySem.Str.ofString "abcdefghijklmnopqrstuvwxyz-") = (LOW c || decide (c = 45)) := by
  rw [inStr_one, cps_lowd]; unfold LOW
  rw [Bool.eq_iff_iff]
  simp only [decide_eq_true_eq, Bool.or_eq_true, List.mem_append, mem_rng, List.mem_singleton]; omega
theorem in_lowp (c : Nat) : inStr ⟨#[c]⟩ (PySem.Str.ofString "abcdefghijklmnopqrstuvwxyz0123456789.") = (LOW c || DGT c || decide (c = 46)) := by
  rw [inStr_one, cps_lowp]; unfold LOW DGT
  rw [Bool.eq_iff_iff]
  simp only [decide_eq_true_eq, Bool.or_eq_true, List.mem_append, mem_rng, List.mem_singleton]; omega
theorem in_dig9 (c : Nat) : inStr ⟨#[c]⟩ (PySem.Str.ofString "0123456789") = DGT c := by
  rw [inStr_one, cps_dig9]; unfold DGT
  refine decide_eq_decide.mpr ?_
  rw [mem_rng]; omega
theorem lo1_let {c : Nat} (h : c < 128) : LOW (lo1 c) = LET c := by
  have k : ∀ c : Fin 128, LOW (lo1 c.val) = LET c.val := by decide +kernel
  exact k ⟨c, h⟩
theorem lo1_dgt {c : Nat} (h : c < 128) : DGT (lo1 c) = DGT c := by
  have k : ∀ c : Fin 128, DGT (lo1 c.val) = DGT c.val := by decide +kernel
  exact k ⟨c, h⟩
theorem lo1_eq {c : Nat} (h : c < 128) (d : Nat) (hd : d = 45 ∨ d = 46) : (lo1 c = d) ↔ c = d := by
  have k : ∀ c : Fin 128, (lo1 c.val = 45 ↔ c.val = 45) ∧ (lo1 c.val = 46 ↔ c.val = 46) := by decide +kernel
  rcases hd with rfl | rfl
  · exact (k ⟨c, h⟩).1
  · exact (k ⟨c, h⟩).2
theorem emp_iff (t : PySem.Str) : t = PySem.Str.ofString "" ↔ cps t = [] := by
  constructor
  · rintro rfl; decide +kernel
  · intro h; exact str_ext (h.trans (by decide +kernel))
theorem word_is (t : PySem.Str) : m_is_word t = (!(cps t).isEmpty && (cps t).all LET) := by
  unfold m_is_word
  rw [Bool.eq_iff_iff]
  simp only [Bool.and_eq_true, Bool.not_eq_true', decide_eq_false_iff_not, List.all_eq_true, emp_iff, List.isEmpty_eq_false_iff, chars_cps, List.mem_map, id]
  constructor
  · rintro ⟨h1, h2⟩
    exact ⟨h1, fun c hc => by rw [← in_let]; exact h2 _ ⟨_, ⟨c, hc, rfl⟩, rfl⟩⟩
  · rintro ⟨h1, h2⟩
    refine ⟨h1, ?_⟩
    rintro _ ⟨_, ⟨c, hc, rfl⟩, rfl⟩
    rw [in_let]; exact h2 c hc
/-- words with single hyphens between; p: a hyphen or the beginning stands ahead -/
def okW (L : Nat → Bool) : Bool → List Nat → Bool
  | p, [] => !p
  | p, c :: l => if c = 45 then !p && okW L true l else L c && okW L false l
theorem okW_app (L : Nat → Bool) : ∀ (a : List Nat) (p : Bool) (r : List Nat), (∀ c ∈ a, c ≠ 45) → okW L p (a ++ r) = (a.all L && okW L (p && a.isEmpty) r)
  | [], p, r, _ => by simp
  | c :: a, p, r, h => by
    have hc := h c List.mem_cons_self
    rw [List.cons_append, okW, if_neg hc, okW_app L a false r fun d hd => h d (List.mem_cons_of_mem _ hd)]
    simp [Bool.and_assoc]
theorem cps_join (c : Nat) : ∀ (x y : PySem.Str) (r : List PySem.Str), cps (PySem.Str.join ⟨#[c]⟩ (x :: y :: r)) = cps x ++ c :: cps (PySem.Str.join ⟨#[c]⟩ (y :: r)) := fun x y r => by
  show cps (x ++ ⟨#[c]⟩ ++ PySem.Str.join _ _) = _
  rw [cps_app, cps_app, List.append_assoc]; rfl
theorem okW_parts : ∀ (ps : List PySem.Str), ps ≠ [] → (∀ p ∈ ps, 45 ∉ cps p) → okW LET true (cps (PySem.Str.join ⟨#[45]⟩ ps)) = ps.all fun p => !(cps p).isEmpty && (cps p).all LET
  | [], h, _ => absurd rfl h
  | [p], _, h => by
    have hp := h p List.mem_cons_self
    show okW LET true (cps p) = _
    have := okW_app LET (cps p) true [] fun c hc z => hp (z ▸ hc)
    rw [List.append_nil] at this
    rw [this]
    simp [okW, Bool.and_comm]
  | p :: q :: r, _, h => by
    have hp := h p List.mem_cons_self
    rw [cps_join, okW_app LET (cps p) true _ fun c hc z => hp (z ▸ hc), okW, if_pos rfl, okW_parts (q :: r) (by simp) fun x hx => h x (List.mem_cons_of_mem _ hx)]
    rw [List.all_cons (l := q :: r)]
    cases (cps p).isEmpty <;> simp
theorem split_ne (x : PySem.Str) (c : Nat) : Txt.split x ⟨#[c]⟩ ≠ [] := by
  unfold Txt.split
  split
  · simp
  · split
    · simp
    · rw [StrLaws.partsBetween_eq]
      obtain ⟨p, r, h⟩ := StrLaws.partsFrom_ne x (⟨#[c]⟩ : PySem.Str).length 0 (Builtin.Str.occurrences x ⟨#[c]⟩ 0 x.length (x.length + 1))
      rw [h]; simp
theorem exception_is (t : PySem.Str) : m_is_exception t = okW LET true (cps t) := by
  unfold m_is_exception
  rw [dash_eq]
  have h1 := StrLaws.join_split t ⟨#[45]⟩
  have h2 := StrLaws.split_free t 45
  have h3 := split_ne t 45
  generalize Txt.split t ⟨#[45]⟩ = ps at h1 h2 h3
  rw [← h1, okW_parts ps h3 h2, List.all_map]
  congr 1
  funext p
  show m_is_word p = _
  rw [word_is]
theorem okW_iff (L : Nat → Bool) (hL : L 45 = false) : ∀ (u : List Nat) (p : Bool), okW L p u = true ↔ (∀ c ∈ u, L c = true ∨ c = 45) ∧ (p = true → u ≠ [] ∧ u[0]? ≠ some 45) ∧ u[u.length - 1]? ≠ some 45 ∧ ∀ i : Nat, ¬ (u[i]? = some 45 ∧ u[i + 1]? = some 45)
  | [], p => by cases p <;> simp [okW]
  | c :: l, p => by
    have ih := okW_iff L hL l
    rw [okW]
    by_cases hc : c = 45
    · subst hc
      rw [if_pos rfl, Bool.and_eq_true, ih true]
      constructor
      · rintro ⟨h0, h1, h2, h3, h4⟩
        have hne := (h2 rfl).1
        have hl : 0 < l.length := List.length_pos_iff.mpr hne
        refine ⟨?_, fun hp => (by rw [hp] at h0; cases h0), ?_, ?_⟩
        · intro d hd
          rcases List.mem_cons.mp hd with rfl | hd
          · exact .inr rfl
          · exact h1 d hd
        · rw [List.length_cons, Nat.add_sub_cancel, show l.length = (l.length - 1) + 1 by omega, List.getElem?_cons_succ]; exact h3
        · intro i
          cases i with
          | zero => rintro ⟨_, b⟩; rw [List.getElem?_cons_succ] at b; exact (h2 rfl).2 b
          | succ i => rw [List.getElem?_cons_succ, List.getElem?_cons_succ]; exact h4 i
      · rintro ⟨h1, h2, h3, h4⟩
        have hp : p = false := by
          cases p with
          | false => rfl
          | true => exact absurd rfl (h2 rfl).2
        have hne : l ≠ [] := by
          rintro rfl
          exact h3 rfl
        have hl : 0 < l.length := List.length_pos_iff.mpr hne
        refine ⟨by rw [hp]; rfl, fun d hd => h1 d (List.mem_cons_of_mem _ hd), fun _ => ⟨hne, fun z => h4 0 ⟨rfl, by rw [List.getElem?_cons_succ]; exact z⟩⟩, ?_, fun i => ?_⟩
        · rw [List.length_cons, Nat.add_sub_cancel, show l.length = (l.length - 1) + 1 by omega, List.getElem?_cons_succ] at h3; exact h3
        · have := h4 (i + 1); rw [List.getElem?_cons_succ, List.getElem?_cons_succ] at this; exact this
    · rw [if_neg hc, Bool.and_eq_true, ih false]
      constructor
      · rintro ⟨h0, h1, -, h3, h4⟩
        refine ⟨?_, fun hp => ⟨by simp, by simpa using hc⟩, ?_, ?_⟩
        · intro d hd
          rcases List.mem_cons.mp hd with rfl | hd
          · exact .inl h0
          · exact h1 d hd
        · rw [List.length_cons, Nat.add_sub_cancel]
          by_cases hl : l.length = 0
          · rw [hl]; simpa using hc
          · rw [show l.length = (l.length - 1) + 1 by omega, List.getElem?_cons_succ]; exact h3
        · intro i
          cases i with
          | zero => rintro ⟨a, _⟩; exact hc (by simpa using a)
          | succ i => rw [List.getElem?_cons_succ, List.getElem?_cons_succ]; exact h4 i
      · rintro ⟨h1, h2, h3, h4⟩
        refine ⟨(h1 c List.mem_cons_self).resolve_right hc, fun d hd => h1 d (List.mem_cons_of_mem _ hd), fun z => (by cases z), ?_, fun i => ?_⟩
        · by_cases hl : l.length = 0
          · rw [List.length_eq_zero_iff.mp hl]; simp
          · rw [List.length_cons, Nat.add_sub_cancel, show l.length = (l.length - 1) + 1 by omega, List.getElem?_cons_succ] at h3; exact h3
        · have := h4 (i + 1); rw [List.getElem?_cons_succ, List.getElem?_cons_succ] at this; exact this
theorem okW_lower : ∀ (l : List Nat) (p : Bool), (∀ c ∈ l, c < 128) → okW LOW p (l.map lo1) = okW LET p l
  | [], p, _ => rfl
  | c :: l, p, h => by
    have hc := h c List.mem_cons_self
    have ih := fun p => okW_lower l p fun d hd => h d (List.mem_cons_of_mem _ hd)
    rw [List.map_cons, okW, okW, ih, ih, lo1_let hc]
    by_cases z : c = 45
    · rw [if_pos ((lo1_eq hc 45 (.inl rfl)).mpr z), if_pos z]
    · rw [if_neg fun q => z ((lo1_eq hc 45 (.inl rfl)).mp q), if_neg z]
/-- a loop that leaves with r at the first item that is not good -/
theorem loopL_allG {ρ α : Type} {f : Unit → α → Lp ρ Unit} {good : α → Bool} {r : ρ} (h : ∀ x, f () x = if good x = true then .nxt () else .ret r) : ∀ l : List α, loopL f l () = if l.all good = true then .inr () else .inl r
  | [] => rfl
  | x :: l => by
    rw [loopL, h, List.all_cons]
    cases good x with
    | true => rw [if_pos rfl, Bool.true_and]; exact loopL_allG h l
    | false => rw [if_neg Bool.false_ne_true, Bool.false_and, if_neg Bool.false_ne_true]
theorem dd_in (t : PySem.Str) : inStr (PySem.Str.ofString "--") t = true ↔ ∃ i : Nat, (cps t)[i]? = some 45 ∧ (cps t)[i + 1]? = some 45 := by
  unfold inStr
  rw [StrLaws.found_iff]
  have hl : (PySem.Str.ofString "--").length = 2 := by decide +kernel
  have hc : (PySem.Str.ofString "--").cps.toList = [45, 45] := by decide +kernel
  rw [hl]
  refine exists_congr fun i => ?_
  rw [StrLaws.subAt_eq, hl, hc, len_cps, beq_iff_eq]
  constructor
  · rintro ⟨h1, h2⟩
    have g : ∀ j : Nat, (List.take 2 (List.drop i (cps t)))[j]? = [45, 45][j]? := fun j => by rw [h2]
    have g0 := g 0
    have g1 := g 1
    simp only [List.getElem?_take, List.getElem?_drop] at g0 g1
    exact ⟨by simpa using g0, by simpa using g1⟩
  · rintro ⟨h1, h2⟩
    have hb := (List.getElem?_eq_some_iff.mp h2).1
    refine ⟨by omega, ?_⟩
    have ha := (List.getElem?_eq_some_iff.mp h1).1
    have e1 := (List.getElem?_eq_some_iff.mp h1).2
    have e2 := (List.getElem?_eq_some_iff.mp h2).2
    rw [List.drop_eq_getElem_cons ha, List.drop_eq_getElem_cons hb, e1, e2]
    rfl
theorem at_eq (t : PySem.Str) (i c : Nat) (h : i < (cps t).length) : (Ly.strAt t i = ⟨#[c]⟩) ↔ (cps t)[i]? = some c := by
  show (⟨#[(cps t).getD i 0]⟩ : PySem.Str) = ⟨#[c]⟩ ↔ _
  rw [one_eq, List.getD_eq_getElem?_getD, List.getElem?_eq_getElem h]
  simp
theorem law_exc_is (u : PySem.Str) : m_law_is_exception u = okW LOW true (cps u) := by
  unfold m_law_is_exception
  have key := okW_iff LOW (by decide) (cps u) true
  have hall : (chars u).all (fun x => inStr x (PySem.Str.ofString "abcdefghijklmnopqrstuvwxyz-")) = true ↔ ∀ c ∈ cps u, LOW c = true ∨ c = 45 := by
    rw [chars_cps, List.all_eq_true]
    constructor
    · intro h c hc
      have := h ⟨#[c]⟩ (List.mem_map.mpr ⟨c, hc, rfl⟩)
      rw [in_lowd, Bool.or_eq_true, decide_eq_true_eq] at this; exact this
    · rintro h _ hx
      obtain ⟨c, hc, rfl⟩ := List.mem_map.mp hx
      rw [in_lowd, Bool.or_eq_true, decide_eq_true_eq]; exact h c hc
  have hloop := loopL_allG (f := m_law_is_exception_l0) (good := fun x => inStr x (PySem.Str.ofString "abcdefghijklmnopqrstuvwxyz-")) (r := false) (fun x => by
    unfold m_law_is_exception_l0; dsimp only
    cases inStr x (PySem.Str.ofString "abcdefghijklmnopqrstuvwxyz-") <;> rfl) (chars u)
  rw [Bool.eq_iff_iff, key]
  rw [dash_eq]
  by_cases h0 : cps u = []
  · have : u = PySem.Str.ofString "" := (emp_iff u).mpr h0
    rw [decide_eq_true this, Bool.true_or, if_pos rfl]
    simp [h0]
  · have hl : 0 < (cps u).length := List.length_pos_iff.mpr h0
    have e0 : decide (u = PySem.Str.ofString "") = false := decide_eq_false fun z => h0 ((emp_iff u).mp z)
    have e1 : decide (Ly.strAt u (Int.toNat (0 : Int)) = ⟨#[45]⟩) = decide ((cps u)[0]? = some 45) := decide_eq_decide.mpr (at_eq u 0 45 hl)
    have e2 : decide (Ly.strAt u (u.length - 1) = ⟨#[45]⟩) = decide ((cps u)[(cps u).length - 1]? = some 45) := by
      rw [len_cps]; exact decide_eq_decide.mpr (at_eq u _ 45 (by omega))
    rw [e0, e1, e2, Bool.false_or]
    by_cases q : ((cps u)[0]? = some 45) ∨ ((cps u)[(cps u).length - 1]? = some 45) ∨ inStr (PySem.Str.ofString "--") u = true
    · rw [if_pos (by simpa using q)]
      constructor
      · intro z; cases z
      · rintro ⟨_, k1, k2, k3⟩
        rcases q with q | q | q
        · exact absurd q (k1 rfl).2
        · exact absurd q k2
        · obtain ⟨i, hi⟩ := (dd_in u).mp q
          exact absurd hi (k3 i)
    · rw [if_neg (by simpa using q), hloop]
      have q1 := fun z => q (.inl z)
      have q2 := fun z => q (.inr (.inl z))
      have q3 := fun z => q (.inr (.inr z))
      by_cases a : (chars u).all (fun x => inStr x (PySem.Str.ofString "abcdefghijklmnopqrstuvwxyz-")) = true
      · rw [if_pos a]
        exact ⟨fun _ => ⟨hall.mp a, fun _ => ⟨h0, q1⟩, q2, fun i hi => q3 ((dd_in u).mpr ⟨i, hi⟩)⟩, fun _ => rfl⟩
      · rw [if_neg a]
        exact ⟨fun z => (by cases z), fun z => absurd (hall.mpr z.1) a⟩
theorem exc_same {t : PySem.Str} (h : Asc t) : m_law_is_exception (Txt.lower t) = m_is_exception t := by
  rw [law_exc_is, exception_is, cps_lower h, okW_lower _ _ h]
/-! patterns -/
def core (s : List Nat) : List Nat := let p := if s[0]? = some 46 then s.drop 1 else s; if p[p.length - 1]? = some 46 then p.take (p.length - 1) else p
theorem rp_is (x : PySem.Str) : cps (Txt.removeprefix x (PySem.Str.ofString ".")) = if (cps x)[0]? = some 46 then (cps x).drop 1 else cps x := by
  rw [dot_eq, StrLaws.removeprefix_eq]
  have h := StrLaws.subAt_one x 46 0
  by_cases q : x.cps.toList[0]? = some 46
  · rw [if_pos q, if_pos (by rw [Bool.and_eq_true, decide_eq_true_eq]; exact h.mpr q)]
    show (List.take (x.length - 1) (List.drop 1 x.cps.toList)).toArray.toList = _
    rw [List.toList_toArray, List.take_of_length_le]
    rw [List.length_drop, len_cps]; exact Nat.le_refl _
  · rw [if_neg q, if_neg (by rw [Bool.and_eq_true, decide_eq_true_eq]; exact fun z => q (h.mp z))]
theorem rs_is (x : PySem.Str) : cps (Txt.removesuffix x (PySem.Str.ofString ".")) = if (cps x)[(cps x).length - 1]? = some 46 then (cps x).take ((cps x).length - 1) else cps x := by
  rw [dot_eq, StrLaws.removesuffix_eq]
  have e1 : (⟨#[46]⟩ : PySem.Str).length = 1 := rfl
  have h := StrLaws.subAt_one x 46 (x.length - 1)
  rw [e1] at h
  rw [e1]
  have ex : x.length = (cps x).length := len_cps x
  by_cases q : x.cps.toList[x.length - 1]? = some 46
  · have hb := (List.getElem?_eq_some_iff.mp q).1
    rw [if_pos (by rw [Bool.and_eq_true, decide_eq_true_eq]; exact ⟨by have := (h.mpr q).1; omega, (h.mpr q).2⟩), if_pos (by rw [← ex]; exact q)]
    show (List.take (x.length - 1 - 0) (List.drop 0 x.cps.toList)).toArray.toList = _
    rw [List.toList_toArray, List.drop_zero, Nat.sub_zero, ex]
  · rw [if_neg (by rw [Bool.and_eq_true, decide_eq_true_eq]; rintro ⟨z1, z2⟩; exact q (h.mp ⟨by omega, z2⟩)), if_neg (by rw [← ex]; exact q)]
theorem core_is (x : PySem.Str) : cps (Txt.removesuffix (Txt.removeprefix x (PySem.Str.ofString ".")) (PySem.Str.ofString ".")) = core (cps x) := by
  rw [rs_is, rp_is]; rfl
theorem join0_cps : ∀ xs : List PySem.Str, cps (Txt.join (PySem.Str.ofString "") xs) = (xs.map cps).flatten
  | [] => by decide +kernel
  | [x] => by
    show cps x = _
    simp
  | x :: y :: r => by
    have ih := join0_cps (y :: r)
    have e : PySem.Str.ofString "" = PySem.Str.empty := by decide +kernel
    unfold Txt.join at ih ⊢
    rw [StrLaws.glued_eq_join] at ih ⊢
    show cps (x ++ PySem.Str.ofString "" ++ PySem.Str.join (PySem.Str.ofString "") (y :: r)) = _
    rw [cps_app, cps_app, ih, show cps (PySem.Str.ofString "") = [] by decide +kernel]
    simp
theorem plain_is (t : PySem.Str) : cps (Txt.join (PySem.Str.ofString "") (List.map (fun (c_ : PySem.Str) => c_) (List.filter (fun (c_ : PySem.Str) => (!(inStr c_ (PySem.Str.ofString "0123456789")))) (chars t)))) = (cps t).filter fun c => !DGT c := by
  rw [join0_cps, List.map_id', chars_cps, List.filter_map, List.map_map]
  have h1 : ((fun (c_ : PySem.Str) => !inStr c_ (PySem.Str.ofString "0123456789")) ∘ fun c => (⟨#[c]⟩ : PySem.Str)) = fun c => !DGT c := by
    funext c
    show (!inStr ⟨#[c]⟩ _) = _
    rw [in_dig9]
  rw [h1]
  generalize (cps t).filter (fun c => !DGT c) = l
  induction l with
  | nil => rfl
  | cons c l ih => rw [List.map_cons, List.flatten_cons, ih]; rfl
def patW (l : List Nat) : Bool := let w := core (l.filter fun c => !DGT c); !decide (w = l) && (!w.isEmpty && w.all LET)
theorem pattern_is (t : PySem.Str) : m_is_pattern t = patW (cps t) := by
  unfold m_is_pattern patW
  dsimp only
  rw [word_is, core_is, plain_is]
  congr 2
  refine decide_eq_decide.mpr ?_
  constructor
  · intro h
    have := congrArg cps h
    rw [core_is, plain_is] at this; exact this
  · intro h
    refine str_ext ?_
    rw [core_is, plain_is]; exact h
def patG (l : List Nat) : Prop := (∀ c ∈ l, LET c = true ∨ DGT c = true ∨ c = 46) ∧ ¬ ((l.filter fun c => !DGT c) = l ∧ 46 ∉ l) ∧ (∀ k : Nat, 0 < k → k + 1 < (l.filter fun c => !DGT c).length → (l.filter fun c => !DGT c)[k]? ≠ some 46) ∧ ∃ c ∈ l.filter (fun c => !DGT c), c ≠ 46
/-- the list is its core, with or without a dot on either side -/
theorem core_parts (s : List Nat) : ∃ a b : List Nat, s = a ++ core s ++ b ∧ (a = [] ∧ s[0]? ≠ some 46 ∨ a = [46]) ∧ (b = [] ∧ ((core s) = [] ∨ (core s)[(core s).length - 1]? ≠ some 46) ∨ b = [46]) := by
  unfold core
  dsimp only
  have key : ∀ p : List Nat, ∃ b, p = (if p[p.length - 1]? = some 46 then p.take (p.length - 1) else p) ++ b ∧ (b = [] ∧ ((if p[p.length - 1]? = some 46 then p.take (p.length - 1) else p) = [] ∨ (if p[p.length - 1]? = some 46 then p.take (p.length - 1) else p)[(if p[p.length - 1]? = some 46 then p.take (p.length - 1) else p).length - 1]? ≠ some 46) ∨ b = [46]) := fun p => by
    by_cases q : p[p.length - 1]? = some 46
    · rw [if_pos q]
      obtain ⟨h1, h2⟩ := List.getElem?_eq_some_iff.mp q
      refine ⟨[46], ?_, .inr rfl⟩
      have := List.take_append_drop (p.length - 1) p
      rw [List.drop_eq_getElem_cons h1, h2, List.drop_of_length_le (by omega)] at this
      exact this.symm
    · rw [if_neg q]
      exact ⟨[], (List.append_nil _).symm, .inl ⟨rfl, .inr q⟩⟩
  by_cases q : s[0]? = some 46
  · rw [if_pos q]
    obtain ⟨b, hb, hc⟩ := key (s.drop 1)
    refine ⟨[46], b, ?_, .inr rfl, hc⟩
    rw [List.append_assoc, ← hb]
    obtain ⟨h1, h2⟩ := List.getElem?_eq_some_iff.mp q
    have := List.drop_eq_getElem_cons h1
    rw [List.drop_zero, h2] at this
    exact this
  · rw [if_neg q]
    obtain ⟨b, hb, hc⟩ := key s
    exact ⟨[], b, by rw [List.nil_append, ← hb], .inl ⟨rfl, q⟩, hc⟩
theorem fil_full {l : List Nat} {f : Nat → Bool} (h : l.length ≤ (l.filter f).length) : l.filter f = l := (List.filter_sublist).eq_of_length_le h
theorem patW_iff (l : List Nat) : patW l = true ↔ patG l := by
  unfold patW patG
  dsimp only
  have hs : ∀ c, c ∈ l.filter (fun c => !DGT c) ↔ c ∈ l ∧ DGT c = false := fun c => by rw [List.mem_filter]; simp
  obtain ⟨a, b, e, ha, hb⟩ := core_parts (l.filter fun c => !DGT c)
  have hlen : (l.filter fun c => !DGT c).length ≤ l.length := List.length_filter_le _ _
  have hfull : l.length ≤ (l.filter fun c => !DGT c).length → l.filter (fun c => !DGT c) = l := fil_full
  generalize l.filter (fun c => !DGT c) = s at *
  have hal : a.length ≤ 1 := by rcases ha with ⟨rfl, _⟩ | rfl <;> simp
  have hbl : b.length ≤ 1 := by rcases hb with ⟨rfl, _⟩ | rfl <;> simp
  have ham : ∀ c ∈ a, c = 46 := by rcases ha with ⟨rfl, _⟩ | rfl <;> simp
  have hbm : ∀ c ∈ b, c = 46 := by rcases hb with ⟨rfl, _⟩ | rfl <;> simp
  have h46 : LET 46 = false := by decide
  have el : s.length = a.length + (core s).length + b.length := by have := congrArg List.length e; rw [List.length_append, List.length_append] at this; exact this
  have hmem : ∀ c, c ∈ s ↔ c ∈ a ∨ c ∈ core s ∨ c ∈ b := fun c => by
    conv => lhs; rw [e]
    simp [or_assoc]
  have hat : ∀ k : Nat, a.length ≤ k → k < a.length + (core s).length → s[k]? = (core s)[k - a.length]? := fun k h1 h2 => by
    conv => lhs; rw [e]
    rw [List.append_assoc, List.getElem?_append_right h1, List.getElem?_append_left (by omega)]
  simp only [Bool.and_eq_true, Bool.not_eq_true', decide_eq_false_iff_not, List.isEmpty_eq_false_iff, List.all_eq_true]
  constructor
  · rintro ⟨h1, h2, h3⟩
    refine ⟨fun c hc => ?_, fun z => ?_, fun k k0 k1 => ?_, ?_⟩
    · by_cases d : DGT c = true
      · exact .inr (.inl d)
      · have : c ∈ s := (hs c).mpr ⟨hc, by simpa using d⟩
        rcases (hmem c).mp this with q | q | q
        · exact .inr (.inr (ham c q))
        · exact .inl (h3 c q)
        · exact .inr (.inr (hbm c q))
    · have na : a = [] := by
        rcases ha with ⟨q, _⟩ | q
        · exact q
        · exact absurd (z.1 ▸ (hmem 46).mpr (.inl (by rw [q]; simp))) z.2
      have nb : b = [] := by
        rcases hb with ⟨q, _⟩ | q
        · exact q
        · exact absurd (z.1 ▸ (hmem 46).mpr (.inr (.inr (by rw [q]; simp)))) z.2
      rw [na, nb, List.nil_append, List.append_nil] at e
      exact h1 (e.symm.trans z.1)
    · rw [hat k (by omega) (by omega)]
      intro z
      have := h3 46 (List.mem_of_getElem? z)
      rw [h46] at this; cases this
    · obtain ⟨c, hc⟩ := List.exists_mem_of_ne_nil _ h2
      exact ⟨c, (hmem c).mpr (.inr (.inl hc)), fun z => by have := h3 c hc; rw [z, h46] at this; cases this⟩
  · rintro ⟨h1, h2, h3, c0, hc0, hn0⟩
    have hc1 : c0 ∈ core s := by
      rcases (hmem c0).mp hc0 with q | q | q
      · exact absurd (ham _ q) hn0
      · exact q
      · exact absurd (hbm _ q) hn0
    have hfree : 46 ∉ core s := fun z => by
      obtain ⟨j, hj⟩ := List.mem_iff_getElem?.mp z
      have hjl := (List.getElem?_eq_some_iff.mp hj).1
      have hk := hat (a.length + j) (by omega) (by omega)
      rw [Nat.add_sub_cancel_left, hj] at hk
      by_cases q0 : a.length + j = 0
      · rw [q0] at hk
        rcases ha with ⟨_, q⟩ | q
        · exact q hk
        · rw [q] at q0; simp at q0
      · by_cases q1 : a.length + j + 1 < s.length
        · exact h3 _ (by omega) q1 hk
        · have nb : b.length = 0 := by omega
          have nj : j = (core s).length - 1 := by omega
          rcases hb with ⟨_, q | q⟩ | q
          · rw [q] at hjl; simp at hjl
          · exact q (nj ▸ hj)
          · rw [q] at nb; simp at nb
    refine ⟨fun z => ?_, fun z => (by rw [z] at hc1; cases hc1), fun c hc => ?_⟩
    · have h4 : (core s).length = l.length := congrArg List.length z
      have h5 := hfull (by omega)
      exact h2 ⟨h5, fun q => hfree (z ▸ q)⟩
    · have hin := (hs c).mp ((hmem c).mpr (.inr (.inl hc)))
      rcases h1 c hin.1 with q | q | q
      · exact q
      · rw [hin.2] at q; cases q
      · exact absurd (q ▸ hc) hfree
/-- the law's own walk over the signs -/
theorem pat_l0 : ∀ (u : List Nat) (acc : PySem.Str), (loopL m_law_is_pattern_l0 (u.map fun c => (⟨#[c]⟩ : PySem.Str)) acc : Bool ⊕ PySem.Str) = if (u.all fun c => LOW c || DGT c || decide (c = 46)) = true then .inr (acc ++ ⟨(u.filter fun c => !DGT c).toArray⟩) else .inl false
  | [], acc => by
    show Sum.inr acc = Sum.inr _
    congr 1
  | c :: u, acc => by
    rw [List.map_cons, loopL, List.all_cons]
    unfold m_law_is_pattern_l0
    dsimp only
    rw [in_lowp, in_dig9]
    cases hg : (LOW c || DGT c || decide (c = 46)) with
    | false => rfl
    | true =>
      rw [Bool.true_and, Bool.not_true, if_neg Bool.false_ne_true]
      cases hd : DGT c with
      | true =>
        rw [Bool.not_true, if_neg Bool.false_ne_true, List.filter_cons_of_neg (by rw [hd]; simp)]
        have := pat_l0 u acc
        unfold m_law_is_pattern_l0 at this
        exact this
      | false =>
        rw [Bool.not_false, if_pos rfl, List.filter_cons_of_pos (by rw [hd]; rfl)]
        have := pat_l0 u (acc ++ ⟨#[c]⟩)
        unfold m_law_is_pattern_l0 at this
        refine Eq.trans this ?_
        have e : acc ++ (⟨#[c]⟩ : PySem.Str) ++ ⟨(u.filter fun c => !DGT c).toArray⟩ = acc ++ (⟨(c :: u.filter fun c => !DGT c).toArray⟩ : PySem.Str) := by
          refine str_ext ?_
          rw [cps_app, cps_app, cps_app]; simp [cps]
        rw [e]
theorem loopNR_allG {ρ : Type} {f : Unit → Int → Lp ρ Unit} {r : ρ} (good : Int → Bool) (h : ∀ k, f () k = if good k = true then .nxt () else .ret r) : ∀ (n : Nat) (k : Int), loopNR f n k () = if (∀ j : Nat, j < n → good (k + (j : Int)) = true) then .inr () else .inl r
  | 0, k => by rw [if_pos fun j hj => absurd hj (Nat.not_lt_zero _)]; rfl
  | n + 1, k => by
    rw [loopNR, h]
    cases hg : good k with
    | true =>
      rw [if_pos rfl]
      refine Eq.trans (loopNR_allG good h n (k + 1)) ?_
      have e : (∀ j : Nat, j < n → good (k + 1 + (j : Int)) = true) ↔ ∀ j : Nat, j < n + 1 → good (k + (j : Int)) = true := by
        constructor
        · intro q j hj
          cases j with
          | zero => rw [show k + ((0 : Nat) : Int) = k by omega]; exact hg
          | succ j => have := q j (by omega); rw [show k + ((j + 1 : Nat) : Int) = k + 1 + (j : Int) by omega]; exact this
        · intro q j hj
          have := q (j + 1) (by omega); rw [show k + ((j + 1 : Nat) : Int) = k + 1 + (j : Int) by omega] at this; exact this
      simp only [e]
    | false =>
      rw [if_neg Bool.false_ne_true, if_neg]
      intro q
      have := q 0 (by omega)
      rw [show k + ((0 : Nat) : Int) = k by omega, hg] at this
      cases this
theorem law_pat_is (u : PySem.Str) : m_law_is_pattern u = true ↔ (∀ c ∈ cps u, LOW c = true ∨ DGT c = true ∨ c = 46) ∧ ¬ (((cps u).filter fun c => !DGT c) = cps u ∧ 46 ∉ cps u) ∧ (∀ k : Nat, 0 < k → k + 1 < ((cps u).filter fun c => !DGT c).length → ((cps u).filter fun c => !DGT c)[k]? ≠ some 46) ∧ ∃ c ∈ (cps u).filter (fun c => !DGT c), c ≠ 46 := by
  unfold m_law_is_pattern
  dsimp only
  rw [chars_cps u, pat_l0]
  by_cases h1 : ((cps u).all fun c => LOW c || DGT c || decide (c = 46)) = true
  · rw [if_pos h1]
    dsimp only
    have g1 : ∀ c ∈ cps u, LOW c = true ∨ DGT c = true ∨ c = 46 := fun c hc => by
      have := List.all_eq_true.mp h1 c hc
      simpa [or_assoc] using this
    have es : PySem.Str.ofString "" ++ (⟨((cps u).filter fun c => !DGT c).toArray⟩ : PySem.Str) = ⟨((cps u).filter fun c => !DGT c).toArray⟩ := by
      refine str_ext ?_
      rw [cps_app, show cps (PySem.Str.ofString "") = [] by decide +kernel, List.nil_append]
    rw [es]
    have ecp : cps (⟨((cps u).filter fun c => !DGT c).toArray⟩ : PySem.Str) = (cps u).filter fun c => !DGT c := by simp [cps]
    have h2 : decide ((⟨((cps u).filter fun c => !DGT c).toArray⟩ : PySem.Str) = u) = decide (((cps u).filter fun c => !DGT c) = cps u) := decide_eq_decide.mpr ⟨fun z => by have := congrArg cps z; rw [ecp] at this; exact this, fun z => str_ext (ecp.trans z)⟩
    rw [h2, dot_eq, inStr_one]
    generalize hS : (⟨((cps u).filter fun c => !DGT c).toArray⟩ : PySem.Str) = S at *
    generalize hs : (cps u).filter (fun c => !DGT c) = s at *
    by_cases q2 : s = cps u ∧ 46 ∉ cps u
    · rw [if_pos (by simp [q2.1, q2.2])]
      exact ⟨fun z => (by cases z), fun z => absurd q2 z.2.1⟩
    · rw [if_neg (by simpa using fun a b => q2 ⟨a, b⟩)]
      have hlen : S.length = s.length := by rw [len_cps, ecp]
      rw [Int.toNat_natCast, hlen]
      have e1 := loopNR_allG (f := m_law_is_pattern_l1 S) (r := false) (fun k => !(decide (Ly.strAt S (Int.toNat k) = ⟨#[46]⟩) && (decide ((0 : Int) < k) && decide (k < (s.length : Int) - 1)))) (fun k => by
        unfold m_law_is_pattern_l1
        dsimp only
        rw [dot_eq, hlen]
        cases (decide (Ly.strAt S (Int.toNat k) = ⟨#[46]⟩) && (decide ((0 : Int) < k) && decide (k < (s.length : Int) - 1))) <;> rfl) s.length 0
      rw [e1]
      have e2 : (∀ j : Nat, j < s.length → (!(decide (Ly.strAt S (Int.toNat ((0 : Int) + (j : Int))) = ⟨#[46]⟩) && (decide ((0 : Int) < (0 : Int) + (j : Int)) && decide ((0 : Int) + (j : Int) < (s.length : Int) - 1)))) = true) ↔ ∀ k : Nat, 0 < k → k + 1 < s.length → s[k]? ≠ some 46 := by
        constructor
        · intro h k k0 k1 z
          have := h k (by omega)
          rw [show (Int.toNat ((0 : Int) + (k : Int))) = k by omega, decide_eq_true ((at_eq S k 46 (by rw [ecp]; omega)).mpr (by rw [ecp]; exact z)), decide_eq_true (by omega), decide_eq_true (by omega)] at this
          cases this
        · intro h j hj
          rw [show (Int.toNat ((0 : Int) + (j : Int))) = j by omega]
          by_cases w : 0 < j ∧ j + 1 < s.length
          · rw [decide_eq_false (fun z => h j w.1 w.2 (by have := (at_eq S j 46 (by rw [ecp]; omega)).mp z; rw [ecp] at this; exact this))]; rfl
          · have : (decide ((0 : Int) < (0 : Int) + (j : Int)) && decide ((0 : Int) + (j : Int) < (s.length : Int) - 1)) = false := by
              rw [Bool.and_eq_false_iff, decide_eq_false_iff_not, decide_eq_false_iff_not]
              omega
            rw [this, Bool.and_false]; rfl
      by_cases q3 : ∀ k : Nat, 0 < k → k + 1 < s.length → s[k]? ≠ some 46
      · rw [if_pos (e2.mpr q3)]
        dsimp only
        have e3 := loopL_allG (f := m_law_is_pattern_l2) (good := fun x => decide (x = (⟨#[46]⟩ : PySem.Str))) (r := true) (fun x => by
          unfold m_law_is_pattern_l2
          dsimp only
          rw [dot_eq]
          cases decide (x = (⟨#[46]⟩ : PySem.Str)) <;> rfl) (chars S)
        rw [e3]
        have e4 : ((chars S).all fun x => decide (x = (⟨#[46]⟩ : PySem.Str))) = true ↔ ∀ c ∈ s, c = 46 := by
          rw [chars_cps, ecp, List.all_eq_true]
          constructor
          · intro h c hc
            have := h ⟨#[c]⟩ (List.mem_map.mpr ⟨c, hc, rfl⟩)
            rw [decide_eq_true_eq, one_eq] at this; exact this
          · rintro h _ hx
            obtain ⟨c, hc, rfl⟩ := List.mem_map.mp hx
            rw [decide_eq_true_eq, one_eq]; exact h c hc
        by_cases q4 : ∀ c ∈ s, c = 46
        · rw [if_pos (e4.mpr q4)]
          exact ⟨fun z => (by cases z), fun ⟨_, _, _, c, hc, hn⟩ => absurd (q4 c hc) hn⟩
        · rw [if_neg fun z => q4 (e4.mp z)]
          refine ⟨fun _ => ⟨g1, q2, q3, ?_⟩, fun _ => rfl⟩
          have := Classical.not_forall.mp q4
          obtain ⟨c, hc⟩ := this
          exact ⟨c, Classical.not_imp.mp hc⟩
      · rw [if_neg fun z => q3 (e2.mp z)]
        exact ⟨fun z => (by cases z), fun z => absurd z.2.2.1 q3⟩
  · rw [if_neg h1]
    refine ⟨fun z => (by cases z), fun z => absurd ?_ h1⟩
    rw [List.all_eq_true]
    intro c hc
    have := z.1 c hc
    simpa [or_assoc] using this
theorem fil_lower : ∀ l : List Nat, (∀ c ∈ l, c < 128) → (l.map lo1).filter (fun c => !DGT c) = (l.filter fun c => !DGT c).map lo1 := fun l h => by
  rw [List.filter_map]
  congr 1
  refine List.filter_congr fun c hc => ?_
  show (!DGT (lo1 c)) = _
  rw [lo1_dgt (h c hc)]
theorem lo1_dig {c : Nat} (h : c < 128) (d : LET c = false) : lo1 c = c := by
  have k : ∀ c : Fin 128, LET c.val = false → lo1 c.val = c.val := by decide +kernel
  exact k ⟨c, h⟩ d
theorem pat_same {t : PySem.Str} (h : Asc t) : m_law_is_pattern (Txt.lower t) = m_is_pattern t := by
  rw [Bool.eq_iff_iff, law_pat_is, pattern_is, patW_iff, cps_lower h, fil_lower _ h]
  unfold patG
  have h' : ∀ c ∈ cps t, c < 128 := h
  clear h
  generalize cps t = l at h' ⊢
  have hf : ∀ c ∈ l.filter (fun c => !DGT c), c < 128 := fun c hc => h' c (List.mem_filter.mp hc).1
  refine and_congr ?_ (and_congr (not_congr (and_congr ?_ (not_congr ?_))) (and_congr ?_ ?_))
  · constructor
    · intro k c hc
      have := k (lo1 c) (List.mem_map.mpr ⟨c, hc, rfl⟩)
      rw [lo1_let (h' c hc), lo1_dgt (h' c hc), lo1_eq (h' c hc) 46 (.inr rfl)] at this; exact this
    · rintro k _ hm
      obtain ⟨c, hc, rfl⟩ := List.mem_map.mp hm
      rw [lo1_let (h' c hc), lo1_dgt (h' c hc), lo1_eq (h' c hc) 46 (.inr rfl)]; exact k c hc
  · constructor
    · intro e
      exact fil_full (by have := congrArg List.length e; rw [List.length_map, List.length_map] at this; omega)
    · intro e; rw [e]
  · constructor
    · intro q
      obtain ⟨c, hc, e⟩ := List.mem_map.mp q
      rw [(lo1_eq (h' c hc) 46 (.inr rfl)).mp e] at hc; exact hc
    · intro q; exact List.mem_map.mpr ⟨46, q, by decide⟩
  · rw [List.length_map]
    refine forall_congr' fun k => forall_congr' fun _ => forall_congr' fun hk => not_congr ?_
    rw [List.getElem?_map]
    have hx : (l.filter fun c => !DGT c)[k]? = some (l.filter fun c => !DGT c)[k] := by simp
    rw [hx]
    show some _ = some _ ↔ some _ = some _
    rw [Option.some_inj, Option.some_inj]
    exact lo1_eq (hf _ (List.getElem_mem _)) 46 (.inr rfl)
  · constructor
    · rintro ⟨_, q, n⟩
      obtain ⟨c, hc, rfl⟩ := List.mem_map.mp q
      exact ⟨c, hc, fun z => n (by rw [z]; decide)⟩
    · rintro ⟨c, hc, n⟩
      exact ⟨lo1 c, List.mem_map.mpr ⟨c, hc, rfl⟩, fun z => n ((lo1_eq (hf c hc) 46 (.inr rfl)).mp z)⟩
theorem good_same {t : PySem.Str} (h : Asc t) : m_law_is_good t = m_is_entry t := by
  unfold m_law_is_good m_is_entry
  dsimp only
  rw [exc_same h, pat_same h]
/-! the texts are made of plain signs -/
theorem asc_ofS {s : PySem.Str} (h : (cps s).all (fun c => decide (c < 128)) = true) : Asc s := fun c hc => by simpa using List.all_eq_true.mp h c hc
theorem asc_app {a b : PySem.Str} (ha : Asc a) (hb : Asc b) : Asc (a ++ b) := fun c hc => by
  rw [cps_app, List.mem_append] at hc
  exact hc.elim (ha c) (hb c)
theorem asc_at {s : PySem.Str} (h : Asc s) (i : Nat) : Asc (Ly.strAt s i) := fun c hc => by
  have e : c = (cps s).getD i 0 := by simpa [Ly.strAt, cps] using hc
  rw [e]; exact getD_P (P := fun c => c < 128) h (by decide) i
theorem asc_getD {xs : List PySem.Str} (h : xs.all (fun s => (cps s).all fun c => decide (c < 128)) = true) (i : Nat) : Asc (xs.getD i (PySem.Str.ofString "")) :=
  getD_P (P := Asc) (fun s hs => asc_ofS (List.all_eq_true.mp h s hs)) (asc_ofS (by decide +kernel)) i
theorem asc_join0 {xs : List PySem.Str} (h : ∀ x ∈ xs, Asc x) : Asc (Txt.join (PySem.Str.ofString "") xs) := fun c hc => by
  rw [join0_cps, List.mem_flatten] at hc
  obtain ⟨l, hl, hc⟩ := hc
  obtain ⟨x, hx, rfl⟩ := List.mem_map.mp hl
  exact h x hx c hc
theorem asc_any (c : Int) : Asc (m_law_any_text c) := by
  unfold m_law_any_text
  dsimp only
  refine asc_join0 fun x hx => ?_
  obtain ⟨k, _, rfl⟩ := List.mem_map.mp hx
  exact asc_at (asc_ofS (by decide +kernel)) _
theorem cut_mem {t : PySem.Str} {a b : Option Int} : ∀ c ∈ cps (cutS t a b), c ∈ cps t := fun c hc => by
  unfold cutS at hc
  have : c ∈ List.take (HT.sIx t.length t.length b - HT.sIx t.length 0 a) (List.drop (HT.sIx t.length 0 a) t.cps.toList) := by
    unfold cps at hc
    rw [List.toList_toArray] at hc; exact hc
  exact List.mem_of_mem_drop (List.mem_of_mem_take this)
theorem asc_dash {a b : PySem.Str} (ha : Asc a) (hb : Asc b) : Asc (Txt.join (PySem.Str.ofString "-") [a, b]) := fun c hc => by
  unfold Txt.join at hc
  rw [StrLaws.glued_eq_join, dash_eq, cps_join] at hc
  rcases List.mem_append.mp hc with q | q
  · exact ha c q
  · rcases List.mem_cons.mp q with rfl | q
    · decide
    · exact hb c q
theorem asc_good (c : Int) : Asc (m_law_good_text c) := by
  unfold m_law_good_text
  dsimp only
  generalize m_law_draws c 16 = ds
  have h0 : ∀ (n : Nat) (k : Int) (t : PySem.Str), Asc t → Asc (loopN (m_law_good_text_l0 ds) n k t) := fun n => by
    induction n with
    | zero => intro k t h; exact h
    | succ n ih =>
      intro k t h
      rw [loopN]
      refine ih _ _ ?_
      unfold m_law_good_text_l0
      dsimp only
      have h1 := asc_app h (asc_at (s := PySem.Str.ofString "abcdeZ") (asc_ofS (by decide +kernel)) (Int.toNat ((ds.getD (Int.toNat (k + (1 : Int))) 0) % (6 : Int))))
      split
      · exact asc_app h1 (asc_getD (by decide +kernel) _)
      · exact h1
  have h1 := h0 (Int.toNat ((1 : Int) + ((ds.getD (Int.toNat (0 : Int)) 0) % (7 : Int)))) 0 (PySem.Str.ofString "") (asc_ofS (by decide +kernel))
  generalize loopN (m_law_good_text_l0 ds) (Int.toNat ((1 : Int) + ((ds.getD (Int.toNat (0 : Int)) 0) % (7 : Int)))) 0 (PySem.Str.ofString "") = t at h1
  split
  · split
    · exact asc_dash (fun c hc => h1 c (cut_mem c hc)) (fun c hc => h1 c (cut_mem c hc))
    · exact h1
  · exact asc_app (asc_app (asc_getD (by decide +kernel) _) h1) (asc_getD (by decide +kernel) _)
/-! the whole -/
theorem bad_stays (es : List PySem.Str) : ∀ (k : Nat) (i b : Int), 0 ≤ b → loopN (m_law_l1 es) k i b = b
  | 0, _, _, _ => rfl
  | k + 1, i, b, h => by
    rw [loopN]
    have e : m_law_l1 es b i = b := by
      unfold m_law_l1
      dsimp only
      rw [if_neg (by rw [decide_eq_false (by omega), Bool.false_and]; exact Bool.false_ne_true)]
    rw [e]; exact bad_stays es k _ b h
theorem check_same (es : List PySem.Str) (hA : ∀ e ∈ es, Asc e) : ∀ (k i : Nat), i + k = es.length →
    ((loopL m_check_entries_l0 ((enumL es).drop i) () : (Except Int Unit) ⊕ Unit) = .inr () ∧ loopN (m_law_l1 es) k (i : Int) (-1) = -1) ∨
    ∃ j : Nat, (loopL m_check_entries_l0 ((enumL es).drop i) () : (Except Int Unit) ⊕ Unit) = .inl (.error (j : Int)) ∧ loopN (m_law_l1 es) k (i : Int) (-1) = (j : Int)
  | 0, i, h => by
    left
    rw [List.drop_of_length_le (by rw [enumL_len]; omega)]
    exact ⟨rfl, rfl⟩
  | k + 1, i, h => by
    have hi : i < es.length := by omega
    have gx : es[i]? = some es[i] := by simp [hi]
    have gE := enumL_get gx
    obtain ⟨hi2, ge⟩ := List.getElem?_eq_some_iff.mp gE
    have eD : es.getD (Int.toNat (i : Int)) (PySem.Str.ofString "") = es[i] := by
      rw [Int.toNat_natCast, List.getD_eq_getElem?_getD, gx]; rfl
    have eg := good_same (hA es[i] (List.getElem_mem hi))
    rw [List.drop_eq_getElem_cons hi2, ge, loopL, loopN]
    have e1 : m_check_entries_l0 () ((i : Int), es[i]) = if m_is_entry es[i] = true then Lp.nxt () else Lp.ret (.error (i : Int)) := by
      unfold m_check_entries_l0
      dsimp only
      cases m_is_entry es[i] <;> rfl
    have e2 : m_law_l1 es (-1) (i : Int) = if m_is_entry es[i] = true then -1 else (i : Int) := by
      unfold m_law_l1
      dsimp only
      rw [eD, eg]
      cases m_is_entry es[i] <;> rfl
    rw [e1, e2]
    cases m_is_entry es[i] with
    | true =>
      rw [if_pos rfl, if_pos rfl]
      have := check_same es hA k (i + 1) (by omega)
      rw [show ((i + 1 : Nat) : Int) = (i : Int) + 1 by omega] at this
      exact this
    | false =>
      rw [if_neg Bool.false_ne_true, if_neg Bool.false_ne_true]
      exact .inr ⟨i, rfl, bad_stays es k _ _ (by omega)⟩
theorem law_true (ns : List Int) (hl : ns.length ≤ 63) : m_law ns = true := by
  unfold m_law
  dsimp only
  have h0 : ∀ (n : Nat) (k : Int) (es : List PySem.Str), (∀ e ∈ es, Asc e) → (∀ e ∈ loopN (m_law_l0 ns) n k es, Asc e) ∧ (loopN (m_law_l0 ns) n k es).length = es.length + n := fun n => by
    induction n with
    | zero => intro k es h; exact ⟨h, rfl⟩
    | succ n ih =>
      intro k es h
      rw [loopN]
      have hx : (∀ e ∈ m_law_l0 ns es k, Asc e) ∧ (m_law_l0 ns es k).length = es.length + 1 := by
        unfold m_law_l0
        dsimp only
        split
        · refine ⟨fun e he => ?_, by simp⟩
          rcases List.mem_append.mp he with q | q
          · exact h e q
          · rw [List.mem_singleton.mp q]; exact asc_any _
        · refine ⟨fun e he => ?_, by simp⟩
          rcases List.mem_append.mp he with q | q
          · exact h e q
          · rw [List.mem_singleton.mp q]; exact asc_good _
      have := ih (k + 1) _ hx.1
      exact ⟨this.1, by rw [this.2, hx.2]; omega⟩
  have h1 := h0 (Int.toNat ((m_law_cell ns 0) % 7)) 0 [] (fun e he => by cases he)
  generalize loopN (m_law_l0 ns) (Int.toNat ((m_law_cell ns 0) % 7)) 0 [] = es at h1
  obtain ⟨hA, hn⟩ := h1
  rw [List.length_nil, Nat.zero_add] at hn
  have key := check_same es hA (Int.toNat ((m_law_cell ns 0) % 7)) 0 (by rw [hn]; omega)
  rw [List.drop_zero] at key
  have k3 : (loopL m_law_l3 [false, false, false, false] () : Bool ⊕ Unit) = .inr () := rfl
  have hc : m_check_entries es = match (loopL m_check_entries_l0 (enumL es) () : (Except Int Unit) ⊕ Unit) with | .inl r => r | .inr _ => .ok () := rfl
  rcases key with ⟨q1, q2⟩ | ⟨j, q1, q2⟩
  · rw [q1] at hc
    rw [hc, show ((0 : Nat) : Int) = 0 from rfl] at *
    rw [q2]
    simp
  · rw [q1] at hc
    rw [hc, show ((0 : Nat) : Int) = 0 from rfl] at *
    rw [q2, k3]
    have : ¬ ((j : Int) < 0) := by omega
    simp [this]

theorem all_mk {w : World} {K : PySem.W.Frag} {h : Heap} {mg : Str → Option Value} {fa : Addr} (X : K.In h) (G : h.Ns mainGlobals mg) (hfa : mg "law" = some (.ref fa))
    {C_BadDemand : Addr} (aC_BadDemand : PySem.W.nsIn K mainGlobals "BadDemand" = some (some (.ref C_BadDemand)))
    {C_BadEntry : Addr} (aC_BadEntry : PySem.W.nsIn K mainGlobals "BadEntry" = some (some (.ref C_BadEntry)))
    {C_BadExample : Addr} (aC_BadExample : PySem.W.nsIn K mainGlobals "BadExample" = some (some (.ref C_BadExample)))
    {C_BadStyle : Addr} (aC_BadStyle : PySem.W.nsIn K mainGlobals "BadStyle" = some (some (.ref C_BadStyle)))
    {C_BadText : Addr} (aC_BadText : PySem.W.nsIn K mainGlobals "BadText" = some (some (.ref C_BadText)))
    {C_FolioError : Addr} (aC_FolioError : PySem.W.nsIn K mainGlobals "FolioError" = some (some (.ref C_FolioError)))
    {nm_BadEntry q_BadEntry : Str} {N_BadEntry : Addr} {bs_BadEntry bm_BadEntry : List Value} {sn_BadEntry : List Str} {sub_BadEntry : List Value} {ab_BadEntry : Bool} {col_BadEntry : Option Bool} {dd_BadEntry : Option Addr} {k0_BadEntry k1_BadEntry k2_BadEntry k3_BadEntry k5_BadEntry : Option Value}
    (lC_BadEntry : K.lookup C_BadEntry = some (excClassObj nm_BadEntry q_BadEntry C_BadEntry N_BadEntry bs_BadEntry bm_BadEntry true sn_BadEntry sub_BadEntry ab_BadEntry col_BadEntry dd_BadEntry k0_BadEntry k1_BadEntry k2_BadEntry k3_BadEntry k5_BadEntry "ValueError.__new__"))
    (saC_BadEntry : PySem.W.findIn K (.ref C_BadEntry) "__setattr__" = some (some (.builtin "object.__setattr__")))
    (exC_BadEntry : PySem.W.subIn K (.ref C_BadEntry) (.type "BaseException") = some true)
    (tyC_BadEntry : PySem.W.typeIn K (.ref C_BadEntry) = some (.type "type"))
    (kC_BadEntry : PySem.W.keepIn K (.ref C_BadEntry) = true)
    (noC_BadEntry : PySem.W.findIn K (.ref C_BadEntry) "at" = some none)
    (veC_BadEntry : PySem.W.subIn K (.ref C_BadEntry) (.type "ValueError") = some true)
    (suC_BadEntry : PySem.W.mroIn K C_BadEntry (.ref C_BadEntry) = some true)
    (anC_BadEntry : PySem.W.nsIn K cStatics "thirdparty.any" = some none)
    (spC_BadEntry : PySem.W.ks_superIn K C_BadEntry C_BadEntry "__init__" = some (some (.builtin "ValueError.__init__")))
    {f_BadEntry cc_BadEntry cda_BadEntry : Addr} {kV_BadEntry doc_BadEntry pm_BadEntry ct_BadEntry oc_BadEntry : Value} {an_BadEntry od_BadEntry : Option Addr} {osl_BadEntry : Array (Option Value)}
    (iC_BadEntry : PySem.W.findIn K (.ref C_BadEntry) "__init__" = some (some (.ref f_BadEntry)))
    (tI_BadEntry : PySem.W.typeIn K (.ref f_BadEntry) = some (.type "function"))
    (lk_BadEntry : K.lookup f_BadEntry = some ⟨oc_BadEntry, od_BadEntry, .func (PySem.W.fnX "__init__" "BadEntry.__init__" (defArgs st_BadEntry) (defBody st_BadEntry) (defScope st_BadEntry) [("__class__", cc_BadEntry)] .none kV_BadEntry doc_BadEntry pm_BadEntry an_BadEntry (.ref cda_BadEntry) ct_BadEntry), osl_BadEntry⟩)
    (hcd_BadEntry : PySem.W.codeIn K (.ref cda_BadEntry) "BadEntry.__init__" = true)
    {oc3_BadEntry : Value} {od3_BadEntry : Option Addr} {osl3_BadEntry : Array (Option Value)} (lcc_BadEntry : K.lookup cc_BadEntry = some ⟨oc3_BadEntry, od3_BadEntry, .cell (some (.ref C_BadEntry)), osl3_BadEntry⟩)
    {oc2_BadEntry : Value} {od2_BadEntry : Option Addr} {vs2_BadEntry : Array Value} {osl2_BadEntry : Array (Option Value)} (lcd_BadEntry : K.lookup cda_BadEntry = some ⟨oc2_BadEntry, od2_BadEntry, .fields vs2_BadEntry, osl2_BadEntry⟩)
    (zs_BadEntry : PySem.W.nsIn K mainGlobals "super" = some none) {file_BadEntry : Str} {tf_BadEntry : Tok} (hvs_BadEntry : vs2_BadEntry[2]? = some (.str file_BadEntry tf_BadEntry)) (hbm_BadEntry : PySem.HandSPX.refsVE bm_BadEntry = true) (hfile_BadEntry : ((PySem.Challenge.rw_folio_k09_entries.prog.main.file : Str) == file_BadEntry) = true) (htop_BadEntry : (PySem.Challenge.rw_folio_k09_entries.prog.main.scope.names.lookup ("super" : Str)).isSome = false)
    (xgC_BadEntry : PySem.W.findIn K (.ref C_BadEntry) "__getattribute__" = some (some (.builtin "BaseException.__getattribute__"))) (xkC_BadEntry : PySem.W.findIn K (.ref C_BadEntry) "__getattr__" = some none) (hdC_BadEntry : PySem.W.hasDictIn K C_BadEntry = true) (haC_BadEntry : PySem.W.findIn K (.ref C_BadEntry) "__class__" = some (some (.builtin "object.__class__")))
    (hnC_BadEntry : PySem.W.specialIn K (.builtin "object.__class__") "__get__" = some (some (.builtin "getset_descriptor.__get__"))) (htC_BadEntry : PySem.W.takesIn K (.builtin "object.__class__") = some true) (hmC_BadEntry : PySem.W.mroIn K C_BadEntry (.type "object") = some true)
    (eC_BadEntry : PySem.W.exmOne K (.ref C_BadEntry) (.ref C_BadEntry) = some true)
    (k_BadEntry_BadDemand : PySem.W.kitOne K (.ref C_BadEntry) (.ref C_BadDemand) = some false)
    (k_BadEntry_BadExample : PySem.W.kitOne K (.ref C_BadEntry) (.ref C_BadExample) = some false)
    (k_BadEntry_BadStyle : PySem.W.kitOne K (.ref C_BadEntry) (.ref C_BadStyle) = some false)
    (k_BadEntry_BadText : PySem.W.kitOne K (.ref C_BadEntry) (.ref C_BadText) = some false)
    (k_BadEntry_FolioError : PySem.W.kitOne K (.ref C_BadEntry) (.ref C_FolioError) = some true)
    (k_BadEntry_ValueError : PySem.W.kitOne K (.ref C_BadEntry) (.type "ValueError") = some true)
    {f_check_entries : Addr} {od_check_entries an_check_entries : Option Addr} {sl_check_entries : Array (Option Value)} {oc_check_entries kV_check_entries dc_check_entries pm_check_entries cd_check_entries ct_check_entries : Value}
    (a_check_entries : PySem.W.nsIn K mainGlobals "check_entries" = some (some (.ref f_check_entries))) (l_check_entries : K.lookup f_check_entries = some ⟨oc_check_entries, od_check_entries, .func (PySem.W.fnOf "check_entries" "check_entries" (defArgs (topS 11)) (defBody (topS 11)) (defScope (topS 11)) .none kV_check_entries dc_check_entries pm_check_entries an_check_entries cd_check_entries ct_check_entries), sl_check_entries⟩) (c_check_entries : PySem.W.codeIn K cd_check_entries "check_entries" = true) (k_check_entries : PySem.W.keepIn K (.ref f_check_entries) = true)
    {f_is_entry : Addr} {od_is_entry an_is_entry : Option Addr} {sl_is_entry : Array (Option Value)} {oc_is_entry kV_is_entry dc_is_entry pm_is_entry cd_is_entry ct_is_entry : Value}
    (a_is_entry : PySem.W.nsIn K mainGlobals "is_entry" = some (some (.ref f_is_entry))) (l_is_entry : K.lookup f_is_entry = some ⟨oc_is_entry, od_is_entry, .func (PySem.W.fnOf "is_entry" "is_entry" (defArgs (topS 12)) (defBody (topS 12)) (defScope (topS 12)) .none kV_is_entry dc_is_entry pm_is_entry an_is_entry cd_is_entry ct_is_entry), sl_is_entry⟩) (c_is_entry : PySem.W.codeIn K cd_is_entry "is_entry" = true) (k_is_entry : PySem.W.keepIn K (.ref f_is_entry) = true)
    {f_is_exception : Addr} {od_is_exception an_is_exception : Option Addr} {sl_is_exception : Array (Option Value)} {oc_is_exception kV_is_exception dc_is_exception pm_is_exception cd_is_exception ct_is_exception : Value}
    (a_is_exception : PySem.W.nsIn K mainGlobals "is_exception" = some (some (.ref f_is_exception))) (l_is_exception : K.lookup f_is_exception = some ⟨oc_is_exception, od_is_exception, .func (PySem.W.fnOf "is_exception" "is_exception" (defArgs (topS 13)) (defBody (topS 13)) (defScope (topS 13)) .none kV_is_exception dc_is_exception pm_is_exception an_is_exception cd_is_exception ct_is_exception), sl_is_exception⟩) (c_is_exception : PySem.W.codeIn K cd_is_exception "is_exception" = true) (k_is_exception : PySem.W.keepIn K (.ref f_is_exception) = true)
    {f_is_pattern : Addr} {od_is_pattern an_is_pattern : Option Addr} {sl_is_pattern : Array (Option Value)} {oc_is_pattern kV_is_pattern dc_is_pattern pm_is_pattern cd_is_pattern ct_is_pattern : Value}
    (a_is_pattern : PySem.W.nsIn K mainGlobals "is_pattern" = some (some (.ref f_is_pattern))) (l_is_pattern : K.lookup f_is_pattern = some ⟨oc_is_pattern, od_is_pattern, .func (PySem.W.fnOf "is_pattern" "is_pattern" (defArgs (topS 14)) (defBody (topS 14)) (defScope (topS 14)) .none kV_is_pattern dc_is_pattern pm_is_pattern an_is_pattern cd_is_pattern ct_is_pattern), sl_is_pattern⟩) (c_is_pattern : PySem.W.codeIn K cd_is_pattern "is_pattern" = true) (k_is_pattern : PySem.W.keepIn K (.ref f_is_pattern) = true)
    {f_is_word : Addr} {od_is_word an_is_word : Option Addr} {sl_is_word : Array (Option Value)} {oc_is_word kV_is_word dc_is_word pm_is_word cd_is_word ct_is_word : Value}
    (a_is_word : PySem.W.nsIn K mainGlobals "is_word" = some (some (.ref f_is_word))) (l_is_word : K.lookup f_is_word = some ⟨oc_is_word, od_is_word, .func (PySem.W.fnOf "is_word" "is_word" (defArgs (topS 15)) (defBody (topS 15)) (defScope (topS 15)) .none kV_is_word dc_is_word pm_is_word an_is_word cd_is_word ct_is_word), sl_is_word⟩) (c_is_word : PySem.W.codeIn K cd_is_word "is_word" = true) (k_is_word : PySem.W.keepIn K (.ref f_is_word) = true)
    {f_law_cell : Addr} {od_law_cell an_law_cell : Option Addr} {sl_law_cell : Array (Option Value)} {oc_law_cell kV_law_cell dc_law_cell pm_law_cell cd_law_cell ct_law_cell : Value}
    (a_law_cell : PySem.W.nsIn K mainGlobals "_law_cell" = some (some (.ref f_law_cell))) (l_law_cell : K.lookup f_law_cell = some ⟨oc_law_cell, od_law_cell, .func (PySem.W.fnOf "_law_cell" "_law_cell" (defArgs (topS 17)) (defBody (topS 17)) (defScope (topS 17)) .none kV_law_cell dc_law_cell pm_law_cell an_law_cell cd_law_cell ct_law_cell), sl_law_cell⟩) (c_law_cell : PySem.W.codeIn K cd_law_cell "_law_cell" = true) (k_law_cell : PySem.W.keepIn K (.ref f_law_cell) = true)
    {f_law_draws : Addr} {od_law_draws an_law_draws : Option Addr} {sl_law_draws : Array (Option Value)} {oc_law_draws kV_law_draws dc_law_draws pm_law_draws cd_law_draws ct_law_draws : Value}
    (a_law_draws : PySem.W.nsIn K mainGlobals "_law_draws" = some (some (.ref f_law_draws))) (l_law_draws : K.lookup f_law_draws = some ⟨oc_law_draws, od_law_draws, .func (PySem.W.fnOf "_law_draws" "_law_draws" (defArgs (topS 18)) (defBody (topS 18)) (defScope (topS 18)) .none kV_law_draws dc_law_draws pm_law_draws an_law_draws cd_law_draws ct_law_draws), sl_law_draws⟩) (c_law_draws : PySem.W.codeIn K cd_law_draws "_law_draws" = true) (k_law_draws : PySem.W.keepIn K (.ref f_law_draws) = true)
    {f_law_any_text : Addr} {od_law_any_text an_law_any_text : Option Addr} {sl_law_any_text : Array (Option Value)} {oc_law_any_text kV_law_any_text dc_law_any_text pm_law_any_text cd_law_any_text ct_law_any_text : Value}
    (a_law_any_text : PySem.W.nsIn K mainGlobals "_law_any_text" = some (some (.ref f_law_any_text))) (l_law_any_text : K.lookup f_law_any_text = some ⟨oc_law_any_text, od_law_any_text, .func (PySem.W.fnOf "_law_any_text" "_law_any_text" (defArgs (topS 19)) (defBody (topS 19)) (defScope (topS 19)) .none kV_law_any_text dc_law_any_text pm_law_any_text an_law_any_text cd_law_any_text ct_law_any_text), sl_law_any_text⟩) (c_law_any_text : PySem.W.codeIn K cd_law_any_text "_law_any_text" = true) (k_law_any_text : PySem.W.keepIn K (.ref f_law_any_text) = true)
    {f_law_good_text : Addr} {od_law_good_text an_law_good_text : Option Addr} {sl_law_good_text : Array (Option Value)} {oc_law_good_text kV_law_good_text dc_law_good_text pm_law_good_text cd_law_good_text ct_law_good_text : Value}
    (a_law_good_text : PySem.W.nsIn K mainGlobals "_law_good_text" = some (some (.ref f_law_good_text))) (l_law_good_text : K.lookup f_law_good_text = some ⟨oc_law_good_text, od_law_good_text, .func (PySem.W.fnOf "_law_good_text" "_law_good_text" (defArgs (topS 20)) (defBody (topS 20)) (defScope (topS 20)) .none kV_law_good_text dc_law_good_text pm_law_good_text an_law_good_text cd_law_good_text ct_law_good_text), sl_law_good_text⟩) (c_law_good_text : PySem.W.codeIn K cd_law_good_text "_law_good_text" = true) (k_law_good_text : PySem.W.keepIn K (.ref f_law_good_text) = true)
    {f_law_is_exception : Addr} {od_law_is_exception an_law_is_exception : Option Addr} {sl_law_is_exception : Array (Option Value)} {oc_law_is_exception kV_law_is_exception dc_law_is_exception pm_law_is_exception cd_law_is_exception ct_law_is_exception : Value}
    (a_law_is_exception : PySem.W.nsIn K mainGlobals "_law_is_exception" = some (some (.ref f_law_is_exception))) (l_law_is_exception : K.lookup f_law_is_exception = some ⟨oc_law_is_exception, od_law_is_exception, .func (PySem.W.fnOf "_law_is_exception" "_law_is_exception" (defArgs (topS 21)) (defBody (topS 21)) (defScope (topS 21)) .none kV_law_is_exception dc_law_is_exception pm_law_is_exception an_law_is_exception cd_law_is_exception ct_law_is_exception), sl_law_is_exception⟩) (c_law_is_exception : PySem.W.codeIn K cd_law_is_exception "_law_is_exception" = true) (k_law_is_exception : PySem.W.keepIn K (.ref f_law_is_exception) = true)
    {f_law_is_pattern : Addr} {od_law_is_pattern an_law_is_pattern : Option Addr} {sl_law_is_pattern : Array (Option Value)} {oc_law_is_pattern kV_law_is_pattern dc_law_is_pattern pm_law_is_pattern cd_law_is_pattern ct_law_is_pattern : Value}
    (a_law_is_pattern : PySem.W.nsIn K mainGlobals "_law_is_pattern" = some (some (.ref f_law_is_pattern))) (l_law_is_pattern : K.lookup f_law_is_pattern = some ⟨oc_law_is_pattern, od_law_is_pattern, .func (PySem.W.fnOf "_law_is_pattern" "_law_is_pattern" (defArgs (topS 22)) (defBody (topS 22)) (defScope (topS 22)) .none kV_law_is_pattern dc_law_is_pattern pm_law_is_pattern an_law_is_pattern cd_law_is_pattern ct_law_is_pattern), sl_law_is_pattern⟩) (c_law_is_pattern : PySem.W.codeIn K cd_law_is_pattern "_law_is_pattern" = true) (k_law_is_pattern : PySem.W.keepIn K (.ref f_law_is_pattern) = true)
    {f_law_is_good : Addr} {od_law_is_good an_law_is_good : Option Addr} {sl_law_is_good : Array (Option Value)} {oc_law_is_good kV_law_is_good dc_law_is_good pm_law_is_good cd_law_is_good ct_law_is_good : Value}
    (a_law_is_good : PySem.W.nsIn K mainGlobals "_law_is_good" = some (some (.ref f_law_is_good))) (l_law_is_good : K.lookup f_law_is_good = some ⟨oc_law_is_good, od_law_is_good, .func (PySem.W.fnOf "_law_is_good" "_law_is_good" (defArgs (topS 23)) (defBody (topS 23)) (defScope (topS 23)) .none kV_law_is_good dc_law_is_good pm_law_is_good an_law_is_good cd_law_is_good ct_law_is_good), sl_law_is_good⟩) (c_law_is_good : PySem.W.codeIn K cd_law_is_good "_law_is_good" = true) (k_law_is_good : PySem.W.keepIn K (.ref f_law_is_good) = true)
    {f_law : Addr} {od_law an_law : Option Addr} {sl_law : Array (Option Value)} {oc_law kV_law dc_law pm_law cd_law ct_law : Value}
    (a_law : PySem.W.nsIn K mainGlobals "law" = some (some (.ref f_law))) (l_law : K.lookup f_law = some ⟨oc_law, od_law, .func (PySem.W.fnOf "law" "law" (defArgs (topS 24)) (defBody (topS 24)) (defScope (topS 24)) .none kV_law dc_law pm_law an_law cd_law ct_law), sl_law⟩) (c_law : PySem.W.codeIn K cd_law "law" = true) (k_law : PySem.W.keepIn K (.ref f_law) = true)
    (z_ValueError : PySem.W.nsIn K mainGlobals "ValueError" = some none)
    (z_all : PySem.W.nsIn K mainGlobals "all" = some none)
    (z_bool : PySem.W.nsIn K mainGlobals "bool" = some none)
    (z_enumerate : PySem.W.nsIn K mainGlobals "enumerate" = some none)
    (z_int : PySem.W.nsIn K mainGlobals "int" = some none)
    (z_isinstance : PySem.W.nsIn K mainGlobals "isinstance" = some none)
    (z_len : PySem.W.nsIn K mainGlobals "len" = some none)
    (z_list : PySem.W.nsIn K mainGlobals "list" = some none)
    (z_range : PySem.W.nsIn K mainGlobals "range" = some none)
    {t_LETTERS : Tok} (y_LETTERS : PySem.W.nsIn K mainGlobals "LETTERS" = some (some (.str (PySem.Str.ofString "abcdefghijklmnopqrstuvwxyzABCDEFGHIJKLMNOPQRSTUVWXYZ") t_LETTERS)))
    {t_DIGITS : Tok} (y_DIGITS : PySem.W.nsIn K mainGlobals "DIGITS" = some (some (.str (PySem.Str.ofString "0123456789") t_DIGITS)))
    {t_LONGEST_ENTRY : Tok} (y_LONGEST_ENTRY : PySem.W.nsIn K mainGlobals "LONGEST_ENTRY" = some (some (.int (24) t_LONGEST_ENTRY))) :
    ∃ fd : FuncData, (∀ (s : Shared) (v : Value), BindsTo s fd ⟨[v], []⟩ [("script", v)]) ∧ ∀ base : Heap, K.In base → base.Ns mainGlobals mg → FnOk PySem.Challenge.rw_folio_k09_entries.prog w K mg base CX0 5 fa fd ["script"] (sp_law K) := by
  have e := hfa.symm.trans (PySem.W.mg_of X G a_law)
  cases e
  have T_BadEntry : OexC K C_BadEntry := ⟨⟨nm_BadEntry, q_BadEntry, N_BadEntry, bs_BadEntry, bm_BadEntry, sn_BadEntry, sub_BadEntry, ab_BadEntry, col_BadEntry, dd_BadEntry, k0_BadEntry, k1_BadEntry, k2_BadEntry, k3_BadEntry, k5_BadEntry, lC_BadEntry, hbm_BadEntry⟩, saC_BadEntry, exC_BadEntry, tyC_BadEntry, kC_BadEntry⟩
  have Z_BadEntry : SupC K C_BadEntry f_BadEntry cda_BadEntry cc_BadEntry (PySem.W.fnX "__init__" "BadEntry.__init__" (defArgs st_BadEntry) (defBody st_BadEntry) (defScope st_BadEntry) [("__class__", cc_BadEntry)] .none kV_BadEntry doc_BadEntry pm_BadEntry an_BadEntry (.ref cda_BadEntry) ct_BadEntry) "self" file_BadEntry := ⟨⟨_, _, _, lk_BadEntry⟩, ⟨_, rfl, rfl⟩, ⟨_, _, _, _, _, lcd_BadEntry, hvs_BadEntry⟩, ⟨_, _, _, lcc_BadEntry⟩, suC_BadEntry, anC_BadEntry, spC_BadEntry, veC_BadEntry⟩
  have cl_BadEntry : (PySem.W.clsIn K C_BadEntry).isSome = true := by unfold PySem.W.clsIn; rw [lC_BadEntry]; rfl
  have F_check_entries := fun_mk (st := (topS 11)) l_check_entries c_check_entries k_check_entries
  have B_check_entries := F_check_entries.binds (ps := ["entries"]) fun _ _ _ _ _ _ us hl => match us, hl with | [_], _ => rfl
  have F_is_entry := fun_mk (st := (topS 12)) l_is_entry c_is_entry k_is_entry
  have B_is_entry := F_is_entry.binds (ps := ["text"]) fun _ _ _ _ _ _ us hl => match us, hl with | [_], _ => rfl
  have F_is_exception := fun_mk (st := (topS 13)) l_is_exception c_is_exception k_is_exception
  have B_is_exception := F_is_exception.binds (ps := ["text"]) fun _ _ _ _ _ _ us hl => match us, hl with | [_], _ => rfl
  have F_is_pattern := fun_mk (st := (topS 14)) l_is_pattern c_is_pattern k_is_pattern
  have B_is_pattern := F_is_pattern.binds (ps := ["text"]) fun _ _ _ _ _ _ us hl => match us, hl with | [_], _ => rfl
  have F_is_word := fun_mk (st := (topS 15)) l_is_word c_is_word k_is_word
  have B_is_word := F_is_word.binds (ps := ["text"]) fun _ _ _ _ _ _ us hl => match us, hl with | [_], _ => rfl
  have F_law_cell := fun_mk (st := (topS 17)) l_law_cell c_law_cell k_law_cell
  have B_law_cell := F_law_cell.binds (ps := ["script", "k"]) fun _ _ _ _ _ _ us hl => match us, hl with | [_, _], _ => rfl
  have F_law_draws := fun_mk (st := (topS 18)) l_law_draws c_law_draws k_law_draws
  have B_law_draws := F_law_draws.binds (ps := ["cell", "count"]) fun _ _ _ _ _ _ us hl => match us, hl with | [_, _], _ => rfl
  have F_law_any_text := fun_mk (st := (topS 19)) l_law_any_text c_law_any_text k_law_any_text
  have B_law_any_text := F_law_any_text.binds (ps := ["cell"]) fun _ _ _ _ _ _ us hl => match us, hl with | [_], _ => rfl
  have F_law_good_text := fun_mk (st := (topS 20)) l_law_good_text c_law_good_text k_law_good_text
  have B_law_good_text := F_law_good_text.binds (ps := ["cell"]) fun _ _ _ _ _ _ us hl => match us, hl with | [_], _ => rfl
  have F_law_is_exception := fun_mk (st := (topS 21)) l_law_is_exception c_law_is_exception k_law_is_exception
  have B_law_is_exception := F_law_is_exception.binds (ps := ["text"]) fun _ _ _ _ _ _ us hl => match us, hl with | [_], _ => rfl
  have F_law_is_pattern := fun_mk (st := (topS 22)) l_law_is_pattern c_law_is_pattern k_law_is_pattern
  have B_law_is_pattern := F_law_is_pattern.binds (ps := ["text"]) fun _ _ _ _ _ _ us hl => match us, hl with | [_], _ => rfl
  have F_law_is_good := fun_mk (st := (topS 23)) l_law_is_good c_law_is_good k_law_is_good
  have B_law_is_good := F_law_is_good.binds (ps := ["text"]) fun _ _ _ _ _ _ us hl => match us, hl with | [_], _ => rfl
  have F_law := fun_mk (st := (topS 24)) l_law c_law k_law
  have B_law := F_law.binds (ps := ["script"]) fun _ _ _ _ _ _ us hl => match us, hl with | [_], _ => rfl
  refine ⟨PySem.W.fnOf "law" "law" (defArgs (topS 24)) (defBody (topS 24)) (defScope (topS 24)) .none kV_law dc_law pm_law an_law cd_law ct_law, fun s v => .of_eq rfl, fun base _ _ => ?_⟩
  exact ok_law ⟨_, PySem.W.mg_of X G aC_BadDemand, _, PySem.W.mg_of X G aC_BadEntry, _, PySem.W.mg_of X G aC_BadExample, _, PySem.W.mg_of X G aC_BadStyle, _, PySem.W.mg_of X G aC_BadText, _, PySem.W.mg_of X G aC_FolioError, T_BadEntry, _, _, iC_BadEntry, tI_BadEntry, fun w base => ini_BadEntry lk_BadEntry hcd_BadEntry T_BadEntry Z_BadEntry noC_BadEntry hfile_BadEntry htop_BadEntry (PySem.W.mg_none_of X G zs_BadEntry), bin_BadEntry, ⟨xgC_BadEntry, xkC_BadEntry, exC_BadEntry, hdC_BadEntry⟩, ⟨xgC_BadEntry, xkC_BadEntry, exC_BadEntry, hdC_BadEntry, haC_BadEntry, hnC_BadEntry, htC_BadEntry, hmC_BadEntry⟩, cl_BadEntry, eC_BadEntry, noC_BadEntry, k_BadEntry_BadDemand, k_BadEntry_BadExample, k_BadEntry_BadStyle, k_BadEntry_BadText, k_BadEntry_FolioError, k_BadEntry_ValueError, _, _, F_check_entries, B_check_entries, PySem.W.mg_of X G a_check_entries, _, _, F_is_entry, B_is_entry, PySem.W.mg_of X G a_is_entry, _, _, F_is_exception, B_is_exception, PySem.W.mg_of X G a_is_exception, _, _, F_is_pattern, B_is_pattern, PySem.W.mg_of X G a_is_pattern, _, _, F_is_word, B_is_word, PySem.W.mg_of X G a_is_word, _, _, F_law_cell, B_law_cell, PySem.W.mg_of X G a_law_cell, _, _, F_law_draws, B_law_draws, PySem.W.mg_of X G a_law_draws, _, _, F_law_any_text, B_law_any_text, PySem.W.mg_of X G a_law_any_text, _, _, F_law_good_text, B_law_good_text, PySem.W.mg_of X G a_law_good_text, _, _, F_law_is_exception, B_law_is_exception, PySem.W.mg_of X G a_law_is_exception, _, _, F_law_is_pattern, B_law_is_pattern, PySem.W.mg_of X G a_law_is_pattern, _, _, F_law_is_good, B_law_is_good, PySem.W.mg_of X G a_law_is_good, _, _, F_law, B_law, PySem.W.mg_of X G a_law, PySem.W.mg_none_of X G z_ValueError, PySem.W.mg_none_of X G z_all, PySem.W.mg_none_of X G z_bool, PySem.W.mg_none_of X G z_enumerate, PySem.W.mg_none_of X G z_int, PySem.W.mg_none_of X G z_isinstance, PySem.W.mg_none_of X G z_len, PySem.W.mg_none_of X G z_list, PySem.W.mg_none_of X G z_range, _, PySem.W.mg_of X G y_LETTERS, _, PySem.W.mg_of X G y_DIGITS, _, PySem.W.mg_of X G y_LONGEST_ENTRY⟩
end My
open PySem PySem.W PyProof.Rows
set_option maxHeartbeats 0 in
theorem PySem.Challenge.cw_folio_k09_entries_holds : PySem.Challenge.rw_folio_k09_entries.Holds := by
  w_on; o_law; k_head; (case hw => w_witness2)
  k_fill
  refine L2.walk_of (l := PySem.Challenge.rw_folio_k09_entries) (n := 63) (k := 5) (x := "script") (CX := fun _ => L2.CX0) (sp := fun w => My.sp_law _) rfl (by decide) rfl ⟨rfl, by decide, by decide⟩ (fun w h Y => PySem.W.kIn_of Y) ?F (fun _ _ a ns hl _ hS => Ly.law_sp hS True.intro (My.law_true ns hl)) (fun _ _ _ _ _ h => h)
  case F =>
    intro w mg fa h KX G hmg
    refine' My.all_mk KX G hmg ?aC_BadDemand ?aC_BadEntry ?aC_BadExample ?aC_BadStyle ?aC_BadText ?aC_FolioError ?lC_BadEntry ?saC_BadEntry ?exC_BadEntry ?tyC_BadEntry ?kC_BadEntry ?noC_BadEntry ?veC_BadEntry ?suC_BadEntry ?anC_BadEntry ?spC_BadEntry ?iC_BadEntry ?tI_BadEntry ?lk_BadEntry ?hcd_BadEntry ?lcc_BadEntry ?lcd_BadEntry ?zs_BadEntry ?hvs_BadEntry ?hbm_BadEntry ?hfile_BadEntry ?htop_BadEntry ?xgC_BadEntry ?xkC_BadEntry ?hdC_BadEntry ?haC_BadEntry ?hnC_BadEntry ?htC_BadEntry ?hmC_BadEntry ?eC_BadEntry ?k_BadEntry_BadDemand ?k_BadEntry_BadExample ?k_BadEntry_BadStyle ?k_BadEntry_BadText ?k_BadEntry_FolioError ?k_BadEntry_ValueError ?a_check_entries ?l_check_entries ?c_check_entries ?k_check_entries ?a_is_entry ?l_is_entry ?c_is_entry ?k_is_entry ?a_is_exception ?l_is_exception ?c_is_exception ?k_is_exception ?a_is_pattern ?l_is_pattern ?c_is_pattern ?k_is_pattern ?a_is_word ?l_is_word ?c_is_word ?k_is_word ?a_law_cell ?l_law_cell ?c_law_cell ?k_law_cell ?a_law_draws ?l_law_draws ?c_law_draws ?k_law_draws ?a_law_any_text ?l_law_any_text ?c_law_any_text ?k_law_any_text ?a_law_good_text ?l_law_good_text ?c_law_good_text ?k_law_good_text ?a_law_is_exception ?l_law_is_exception ?c_law_is_exception ?k_law_is_exception ?a_law_is_pattern ?l_law_is_pattern ?c_law_is_pattern ?k_law_is_pattern ?a_law_is_good ?l_law_is_good ?c_law_is_good ?k_law_is_good ?a_law ?l_law ?c_law ?k_law ?z_ValueError ?z_all ?z_bool ?z_enumerate ?z_int ?z_isinstance ?z_len ?z_list ?z_range ?y_LETTERS ?y_DIGITS ?y_LONGEST_ENTRY
    (case aC_BadDemand => k_is); (case aC_BadEntry => k_is); (case aC_BadExample => k_is); (case aC_BadStyle => k_is); (case aC_BadText => k_is); (case aC_FolioError => k_is); (case lC_BadEntry => k_is); (case saC_BadEntry => k_is); (case exC_BadEntry => k_is); (case tyC_BadEntry => k_is); (case kC_BadEntry => k_is); (case noC_BadEntry => k_is); (case veC_BadEntry => k_is); (case suC_BadEntry => k_is); (case anC_BadEntry => k_is); (case iC_BadEntry => k_is); (case tI_BadEntry => k_is); (case lk_BadEntry => k_is); (case hcd_BadEntry => k_is); (case lcc_BadEntry => k_is); (case lcd_BadEntry => k_is); (case zs_BadEntry => k_is); (case xgC_BadEntry => k_is); (case xkC_BadEntry => k_is); (case hdC_BadEntry => k_is); (case haC_BadEntry => k_is); (case hnC_BadEntry => k_is); (case htC_BadEntry => k_is); (case hmC_BadEntry => k_is); (case a_check_entries => k_is); (case l_check_entries => k_is); (case c_check_entries => k_is); (case k_check_entries => k_is); (case a_is_entry => k_is); (case l_is_entry => k_is); (case c_is_entry => k_is); (case k_is_entry => k_is); (case a_is_exception => k_is); (case l_is_exception => k_is); (case c_is_exception => k_is); (case k_is_exception => k_is); (case a_is_pattern => k_is); (case l_is_pattern => k_is); (case c_is_pattern => k_is); (case k_is_pattern => k_is); (case a_is_word => k_is); (case l_is_word => k_is); (case c_is_word => k_is); (case k_is_word => k_is); (case a_law_cell => k_is); (case l_law_cell => k_is); (case c_law_cell => k_is); (case k_law_cell => k_is); (case a_law_draws => k_is); (case l_law_draws => k_is); (case c_law_draws => k_is); (case k_law_draws => k_is); (case a_law_any_text => k_is); (case l_law_any_text => k_is); (case c_law_any_text => k_is); (case k_law_any_text => k_is); (case a_law_good_text => k_is); (case l_law_good_text => k_is); (case c_law_good_text => k_is); (case k_law_good_text => k_is); (case a_law_is_exception => k_is); (case l_law_is_exception => k_is); (case c_law_is_exception => k_is); (case k_law_is_exception => k_is); (case a_law_is_pattern => k_is); (case l_law_is_pattern => k_is); (case c_law_is_pattern => k_is); (case k_law_is_pattern => k_is); (case a_law_is_good => k_is); (case l_law_is_good => k_is); (case c_law_is_good => k_is); (case k_law_is_good => k_is); (case a_law => k_is); (case l_law => k_is); (case c_law => k_is); (case k_law => k_is); (case z_ValueError => k_is); (case z_all => k_is); (case z_bool => k_is); (case z_enumerate => k_is); (case z_int => k_is); (case z_isinstance => k_is); (case z_len => k_is); (case z_list => k_is); (case z_range => k_is); (case y_LETTERS => k_is); (case y_DIGITS => k_is); (case y_LONGEST_ENTRY => k_is); (case spC_BadEntry => ks_is); (case hvs_BadEntry => rfl); (case hbm_BadEntry => rfl); (case hfile_BadEntry => decide +kernel); (case htop_BadEntry => decide +kernel); (case eC_BadEntry => first | k_is | kernel_rfl); (case k_BadEntry_BadDemand => first | k_is | kit_is | kernel_rfl); (case k_BadEntry_BadExample => first | k_is | kit_is | kernel_rfl); (case k_BadEntry_BadStyle => first | k_is | kit_is | kernel_rfl); (case k_BadEntry_BadText => first | k_is | kit_is | kernel_rfl); (case k_BadEntry_FolioError => first | k_is | kit_is | kernel_rfl); (case k_BadEntry_ValueError => first | k_is | kit_is | kernel_rfl)
