import PyProof.Rows.All
import Wide.All
import OpenK.AllK
import Wide.FinOn
import HandS.ForMost
import HandS.DictComp
import HandS.Conv
import HandS.SortInts
import HandS.IsInst
import HandS.Style
import HandS.More
import HandS.HotCalls
import HandS.Small
import HandS.ExcInit
import HandS.ExcIs
import HandS.ExcField
import HandS.ClsMeth
import HandS.FStr
import HandS.SuiteRaise
import HandS.RaiseFrom
import HandS.ExcInitHot
import KE.KExcIs
import PyProof.ReprLen
import PyProof.ReprHeads
import PyProof.StrHeap
import HandS.Lambda
import HandS.EndTab
import KE.KDflt
import HandS.SetFor
import HandS.Strs
import HandS.Walk
import HandS.TupSets
import HandS.ExcCtx
import HandS.SortOrd
import HandS.Deep
import HandS.TupAny
import KE.DatumMoreOrd
import HandS.FStrTup
import KE.SortData
import HandS.Star
import HandS.Text
import HandS.WrittenGet
import HandS.ExcValue
import KE.KUnpackStar
import KE.KDictKeyed
import KE.KDictDisplayH
import KE.RegKIsAll
import PySem.Challenge.RW_cuelight_k17_texts_refused
set_option Elab.async false
set_option linter.all false
set_option maxRecDepth 100000
set_option maxHeartbeats 4000000
/-! Worlds: a frozen part G under the heap H; what is frozen stays, what is not frozen stays but by one's own hand. -/
namespace Q
open PySem L2

def Ex (H H' : Hp) : Prop := ∀ a o, H a = some o → H' a = some o
theorem Ex.refl (H : Hp) : Ex H H := fun _ _ h => h
theorem Ex.trans {A B C : Hp} (x : Ex A B) (y : Ex B C) : Ex A C := fun a o h => y a o (x a o h)
theorem Ex.back {A B : Hp} (x : Ex A B) {a : Addr} (h : B a = none) : A a = none := by
  cases e : A a with
  | none => rfl
  | some o => rw [x a o e] at h; cases h
theorem Ex.new {A : Hp} {p : Addr} {o : HO} (h : A p = none) : Ex A (upd A p o) := fun a u e => by
  rw [upd_ne (ne_of_none e h)]; exact e

/-- the entry of a def: what was frozen, the heap, what may turn meanwhile and what is always true of it -/
structure Fr where
  G0 : Hp
  H0 : Hp
  M : Addr → Prop
  I : Hp → Prop
  st : ∀ H H' : Hp, (∀ a, M a → H' a = H a) → I H → I H'
  has : ∀ (H : Hp) a, I H → M a → H a ≠ none
  i0 : I H0

structure Wd (F : Fr) where
  G : Hp
  H : Hp
  gh : Ex G H
  gg : Ex F.G0 G
  kp : ∀ a, ¬ F.M a → F.G0 a = none → F.H0 a ≠ none → G a = none ∧ H a = F.H0 a
  mg : ∀ a, F.M a → G a = none
  iv : F.I H

section
variable {F : Fr}
structure Le (W W' : Wd F) : Prop where
  ex : Ex W.G W'.G
  kp : ∀ a, ¬ F.M a → W.G a = none → W.H a ≠ none → W'.G a = none ∧ W'.H a = W.H a
/-- the frozen part alone -/
structure Wk (W W' : Wd F) : Prop where
  ex : Ex W.G W'.G
theorem Le.refl (W : Wd F) : Le W W := ⟨Ex.refl _, fun _ _ h _ => ⟨h, rfl⟩⟩
theorem Le.trans {A B C : Wd F} (x : Le A B) (y : Le B C) : Le A C := ⟨x.ex.trans y.ex, fun a m h n => by
  obtain ⟨h1, h2⟩ := x.kp a m h n
  obtain ⟨h3, h4⟩ := y.kp a m h1 (by rw [h2]; exact n)
  exact ⟨h3, h4.trans h2⟩⟩
theorem Le.wk {A B : Wd F} (x : Le A B) : Wk A B := ⟨x.ex⟩
theorem Wk.refl (W : Wd F) : Wk W W := ⟨Ex.refl _⟩
theorem Wk.trans {A B C : Wd F} (x : Wk A B) (y : Wk B C) : Wk A C := ⟨x.ex.trans y.ex⟩

theorem Wd.nm (W : Wd F) {p : Addr} (h : W.H p = none) : ¬ F.M p := fun m => F.has _ _ W.iv m h
theorem Wd.h0 (W : Wd F) {p : Addr} (h : W.H p = none) : F.H0 p = none := by
  cases e : F.H0 p with
  | none => rfl
  | some o =>
    cases g : F.G0 p with
    | some o' =>
      have := W.gh _ _ (W.gg _ _ g)
      rw [h] at this; cases this
    | none =>
      obtain ⟨_, q⟩ := W.kp p (W.nm h) g (by rw [e]; exact fun z => nomatch z)
      rw [h, e] at q; cases q
theorem Wd.g (W : Wd F) {p : Addr} (h : W.H p = none) : W.G p = none := W.gh.back h

/-- a new frozen object -/
def Wd.add (W : Wd F) (p : Addr) (o : HO) (h : W.H p = none) : Wd F where
  G := upd W.G p o
  H := upd W.H p o
  gh := fun a u e => by
    by_cases ha : a = p
    · subst ha; rw [upd_same] at e ⊢; exact e
    · rw [upd_ne ha] at e ⊢; exact W.gh a u e
  gg := W.gg.trans (Ex.new (W.g h))
  kp := fun a m g n => by
    have ha : a ≠ p := fun z => n (by rw [z]; exact W.h0 h)
    rw [upd_ne ha, upd_ne ha]; exact W.kp a m g n
  mg := fun a m => by
    have ha : a ≠ p := fun z => W.nm h (z ▸ m)
    rw [upd_ne ha]; exact W.mg a m
  iv := F.st _ _ (fun a m => upd_ne fun z => W.nm h (z ▸ m)) W.iv
theorem Wd.add_le (W : Wd F) {p : Addr} {o : HO} (h : W.H p = none) : Le W (W.add p o h) :=
  ⟨Ex.new (W.g h), fun a m g n => by
    have ha : a ≠ p := fun z => n (by rw [z]; exact h)
    exact ⟨(upd_ne ha).trans g, upd_ne ha⟩⟩
theorem Wd.add_at (W : Wd F) {p : Addr} {o : HO} (h : W.H p = none) : (W.add p o h).G p = some o := upd_same

/-- a new object of one's own -/
def Wd.own (W : Wd F) (p : Addr) (o : HO) (h : W.H p = none) : Wd F where
  G := W.G
  H := upd W.H p o
  gh := W.gh.trans (Ex.new h)
  gg := W.gg
  kp := fun a m g n => by
    have ha : a ≠ p := fun z => n (by rw [z]; exact W.h0 h)
    rw [upd_ne ha]; exact W.kp a m g n
  mg := W.mg
  iv := F.st _ _ (fun a m => upd_ne fun z => W.nm h (z ▸ m)) W.iv
theorem Wd.own_le (W : Wd F) {p : Addr} {o : HO} (h : W.H p = none) : Le W (W.own p o h) :=
  ⟨Ex.refl _, fun a m g n => by
    have ha : a ≠ p := fun z => n (by rw [z]; exact h)
    exact ⟨g, upd_ne ha⟩⟩

structure Own (W : Wd F) (p : Addr) (o : HO) : Prop where
  g : W.G p = none
  h : W.H p = some o
  z : F.H0 p = none
theorem Own.nm {W : Wd F} {p : Addr} {o : HO} (x : Own W p o) : ¬ F.M p := fun m => F.has _ _ F.i0 m x.z
theorem Own.up {W W' : Wd F} {p : Addr} {o : HO} (l : Le W W') (x : Own W p o) : Own W' p o := by
  obtain ⟨h1, h2⟩ := l.kp p x.nm x.g (by rw [x.h]; exact fun z => nomatch z)
  exact ⟨h1, h2.trans x.h, x.z⟩
theorem Wd.own_at (W : Wd F) {p : Addr} {o : HO} (h : W.H p = none) : Own (W.own p o h) p o := ⟨W.g h, upd_same, W.h0 h⟩
theorem Own.ne {W : Wd F} {p q : Addr} {o : HO} (x : Own W p o) (h : W.H q = none) : p ≠ q := ne_of_none x.h h

/-- one's own object written -/
def Wd.put (W : Wd F) (p : Addr) (o : HO) (h : F.H0 p = none) (g : W.G p = none) : Wd F where
  G := W.G
  H := upd W.H p o
  gh := fun a u e => by rw [upd_ne (ne_of_none e g)]; exact W.gh a u e
  gg := W.gg
  kp := fun a m q n => by
    have ha : a ≠ p := fun z => n (by rw [z]; exact h)
    rw [upd_ne ha]; exact W.kp a m q n
  mg := W.mg
  iv := F.st _ _ (fun a m => upd_ne fun z => F.has _ _ F.i0 m (z ▸ h)) W.iv
theorem Wd.put_wk (W : Wd F) {p : Addr} {o : HO} (h : F.H0 p = none) (g : W.G p = none) : Wk W (W.put p o h g) := ⟨Ex.refl _⟩
theorem Wd.put_at (W : Wd F) {p : Addr} {o : HO} (h : F.H0 p = none) (g : W.G p = none) : Own (W.put p o h g) p o := ⟨g, upd_same, h⟩
theorem Own.put {W : Wd F} {p q : Addr} {o u : HO} (x : Own W q u) (ne : q ≠ p) (h : F.H0 p = none) (g : W.G p = none) : Own (W.put p o h g) q u :=
  ⟨x.g, (upd_ne ne).trans x.h, x.z⟩

/-- one's own object, frozen from here on -/
def Wd.frz (W : Wd F) (p : Addr) (o : HO) (x : Own W p o) : Wd F where
  G := upd W.G p o
  H := W.H
  gh := fun a u e => by
    by_cases ha : a = p
    · subst ha; rw [upd_same] at e; rw [x.h]; exact e
    · rw [upd_ne ha] at e; exact W.gh a u e
  gg := W.gg.trans (Ex.new x.g)
  kp := fun a m q n => by
    have ha : a ≠ p := fun z => n (by rw [z]; exact x.z)
    rw [upd_ne ha]; exact W.kp a m q n
  mg := fun a m => by
    have ha : a ≠ p := fun z => x.nm (z ▸ m)
    rw [upd_ne ha]; exact W.mg a m
  iv := W.iv
theorem Wd.frz_wk (W : Wd F) {p : Addr} {o : HO} (x : Own W p o) : Wk W (W.frz p o x) := ⟨Ex.new x.g⟩
theorem Wd.frz_at (W : Wd F) {p : Addr} {o : HO} (x : Own W p o) : (W.frz p o x).G p = some o := upd_same
theorem Own.frz {W : Wd F} {p q : Addr} {o u : HO} (y : Own W q u) (ne : q ≠ p) (x : Own W p o) : Own (W.frz p o x) q u := ⟨(upd_ne ne).trans y.g, y.h, y.z⟩
end

/-! ### the entry of a def that turns nothing; the entry of one that turns the dice -/
def pF (G H : Hp) : Fr where
  G0 := G
  H0 := H
  M := fun _ => False
  I := fun _ => True
  st := fun _ _ _ _ => True.intro
  has := fun _ _ _ z => z.elim
  i0 := True.intro
def Wd.in (G H : Hp) (gh : Ex G H) : Wd (pF G H) where
  G := G
  H := H
  gh := gh
  gg := Ex.refl _
  kp := fun a _ g _ => ⟨g, rfl⟩
  mg := fun _ z => False.elim z
  iv := True.intro
section
variable {F : Fr}
/-- behind a call of a def that turns nothing -/
def Wd.back (W : Wd F) (W' : Wd (pF W.G W.H)) : Wd F where
  G := W'.G
  H := W'.H
  gh := W'.gh
  gg := W.gg.trans W'.gg
  kp := fun a m g n => by
    obtain ⟨h1, h2⟩ := W.kp a m g n
    obtain ⟨h3, h4⟩ := W'.kp a (fun z => z) h1 (by rw [show (pF W.G W.H).H0 a = W.H a from rfl, h2]; exact n)
    exact ⟨h3, h4.trans h2⟩
  mg := fun a m => (W'.kp a (fun z => z) (W.mg a m) (F.has _ _ W.iv m)).1
  iv := F.st _ _ (fun a m => (W'.kp a (fun z => z) (W.mg a m) (F.has _ _ W.iv m)).2) W.iv
theorem Wd.back_le (W : Wd F) (W' : Wd (pF W.G W.H)) : Le W (W.back W') := ⟨W'.gg, fun a _ g n => W'.kp a (fun z => z) g n⟩
end

/-! ### representations -/
structure Rp (α : Type) where
  rel : Hp → V → α → Prop
  mono : ∀ {G G' : Hp} {v : V} {x : α}, Ex G G' → rel G v x → rel G' v x
def All2 {α : Type} (R : V → α → Prop) (vs : List V) (xs : List α) : Prop := vs.length = xs.length ∧ ∀ (i : Nat) (x : α), xs[i]? = some x → ∃ v, vs[i]? = some v ∧ R v x
section
variable {α β : Type} {R R' : V → α → Prop} {vs ws : List V} {xs ys : List α}
theorem All2.nil : All2 R [] [] := ⟨rfl, fun i x h => by simp at h⟩
theorem All2.imp (h : All2 R vs xs) (k : ∀ v x, R v x → R' v x) : All2 R' vs xs := ⟨h.1, fun i x e => let ⟨v, h1, h2⟩ := h.2 i x e; ⟨v, h1, k _ _ h2⟩⟩
theorem All2.get (h : All2 R vs xs) {i : Nat} {v : V} {x : α} (e : vs[i]? = some v) (e' : xs[i]? = some x) : R v x := by
  obtain ⟨v', h1, h2⟩ := h.2 i x e'
  rw [e] at h1; cases h1; exact h2
theorem All2.getv (h : All2 R vs xs) {i : Nat} {v : V} (e : vs[i]? = some v) : ∃ x, xs[i]? = some x ∧ R v x := by
  have hi : i < xs.length := by rw [← h.1]; exact (List.getElem?_eq_some_iff.mp e).1
  exact ⟨xs[i], List.getElem?_eq_getElem hi, h.get e (List.getElem?_eq_getElem hi)⟩
theorem All2.append (h : All2 R vs xs) (k : All2 R ws ys) : All2 R (vs ++ ws) (xs ++ ys) := by
  refine ⟨by rw [List.length_append, List.length_append, h.1, k.1], fun i x e => ?_⟩
  by_cases hi : i < xs.length
  · rw [List.getElem?_append_left hi] at e
    obtain ⟨v, h1, h2⟩ := h.2 i x e
    exact ⟨v, by rw [List.getElem?_append_left (by rw [h.1]; exact hi)]; exact h1, h2⟩
  · rw [List.getElem?_append_right (by omega)] at e
    obtain ⟨v, h1, h2⟩ := k.2 _ x e
    exact ⟨v, by rw [List.getElem?_append_right (by rw [h.1]; omega), h.1]; exact h1, h2⟩
theorem All2.one {v : V} {x : α} (h : R v x) : All2 R [v] [x] := ⟨rfl, fun i y e => by
  cases i with
  | zero => cases e; exact ⟨v, rfl, h⟩
  | succ i => simp at e⟩
theorem All2.cons {v : V} {x : α} (h : R v x) (k : All2 R vs xs) : All2 R (v :: vs) (x :: xs) := (All2.one h).append k
theorem All2.snoc {v : V} {x : α} (k : All2 R vs xs) (h : R v x) : All2 R (vs ++ [v]) (xs ++ [x]) := k.append (All2.one h)
theorem All2.take (h : All2 R vs xs) (n : Nat) : All2 R (vs.take n) (xs.take n) := by
  refine ⟨by simp [h.1], fun i x e => ?_⟩
  rw [List.getElem?_take] at e ⊢
  split at e
  · rename_i hi
    rw [if_pos hi]; exact h.2 i x e
  · cases e
theorem All2.drop (h : All2 R vs xs) (n : Nat) : All2 R (vs.drop n) (xs.drop n) := by
  refine ⟨by simp [h.1], fun i x e => ?_⟩
  rw [List.getElem?_drop] at e ⊢
  exact h.2 _ x e
theorem All2.set (h : All2 R vs xs) {v : V} {x : α} (r : R v x) (n : Nat) : All2 R (vs.set n v) (xs.set n x) := by
  refine ⟨by simp [h.1], fun i y e => ?_⟩
  rw [List.getElem?_set] at e ⊢
  rw [h.1]
  split at e
  · rename_i hi
    rw [if_pos hi]
    split at e
    · rename_i hn
      rw [if_pos hn]
      cases e
      exact ⟨v, rfl, r⟩
    · cases e
  · rename_i hi
    rw [if_neg hi]; exact h.2 i y e
theorem All2.reverse (h : All2 R vs xs) : All2 R vs.reverse xs.reverse := by
  refine ⟨by simp [h.1], fun i x e => ?_⟩
  have hi : i < xs.length := by have := (List.getElem?_eq_some_iff.mp e).1; simpa using this
  rw [List.getElem?_reverse hi] at e
  rw [List.getElem?_reverse (by rw [h.1]; exact hi), h.1]
  exact h.2 _ x e
theorem All2.nil_of (h : All2 R [] xs) : xs = [] := by
  have := h.1
  cases xs with
  | nil => rfl
  | cons x xs => simp at this
theorem All2.ints : All2 (fun v (x : Int) => v = V.int x) vs xs' → vs = xs'.map V.int := by
  intro h
  apply List.ext_getElem?
  intro i
  rw [List.getElem?_map]
  cases e : xs'[i]? with
  | none =>
    have : xs'.length ≤ i := List.getElem?_eq_none_iff.mp e
    exact List.getElem?_eq_none (by rw [h.1]; exact this)
  | some x =>
    obtain ⟨v, h1, h2⟩ := h.2 i x e
    rw [h1, h2]; rfl
theorem All2.ofInts (xs : List Int) : All2 (fun v (x : Int) => v = V.int x) (xs.map V.int) xs := ⟨by simp, fun i x e => ⟨.int x, by rw [List.getElem?_map, e]; rfl, rfl⟩⟩
end
def rInt : Rp Int := ⟨fun _ v x => v = .int x, fun _ h => h⟩
def rBool : Rp Bool := ⟨fun _ v x => v = .bl x, fun _ h => h⟩
def rStr : Rp Str := ⟨fun _ v x => v = .str x, fun _ h => h⟩
def rNon : Rp Unit := ⟨fun _ v _ => v = .non, fun _ h => h⟩
def rList {α : Type} (r : Rp α) : Rp (List α) := ⟨fun G v xs => ∃ a vs, v = .ref a ∧ G a = some (.lst vs) ∧ All2 (r.rel G) vs xs, fun e ⟨a, vs, h1, h2, h3⟩ => ⟨a, vs, h1, e _ _ h2, h3.imp fun _ _ => r.mono e⟩⟩
def rTup {α : Type} (r : Rp α) : Rp (List α) := ⟨fun G v xs => ∃ a vs, v = .ref a ∧ G a = some (.tup vs) ∧ All2 (r.rel G) vs xs, fun e ⟨a, vs, h1, h2, h3⟩ => ⟨a, vs, h1, e _ _ h2, h3.imp fun _ _ => r.mono e⟩⟩
def rT2 {α β : Type} (r : Rp α) (s : Rp β) : Rp (α × β) := ⟨fun G v x => ∃ a u w, v = .ref a ∧ G a = some (.tup [u, w]) ∧ r.rel G u x.1 ∧ s.rel G w x.2,
  fun e ⟨a, u, w, h1, h2, h3, h4⟩ => ⟨a, u, w, h1, e _ _ h2, r.mono e h3, s.mono e h4⟩⟩
def rT3 {α β γ : Type} (r : Rp α) (s : Rp β) (t : Rp γ) : Rp (α × β × γ) := ⟨fun G v x => ∃ a u w y, v = .ref a ∧ G a = some (.tup [u, w, y]) ∧ r.rel G u x.1 ∧ s.rel G w x.2.1 ∧ t.rel G y x.2.2,
  fun e ⟨a, u, w, y, h1, h2, h3, h4, h5⟩ => ⟨a, u, w, y, h1, e _ _ h2, r.mono e h3, s.mono e h4, t.mono e h5⟩⟩
def rOpt {α : Type} (r : Rp α) : Rp (Option α) := ⟨fun G v x => match x with | none => v = .non | some y => r.rel G v y, fun {G G' v x} e h => by
  cases x with
  | none => exact h
  | some y => exact r.mono e h⟩
/-- a dict of int keys, its pairs in order -/
def DictR {α : Type} (r : Rp α) (G : Hp) (kvs : List (Key × V)) (xs : List (Int × α)) : Prop :=
  kvs.length = xs.length ∧ ∀ (i : Nat) (x : Int × α), xs[i]? = some x → ∃ v, kvs[i]? = some (Sum.inl x.1, v) ∧ r.rel G v x.2
theorem DictR.mono {α : Type} {r : Rp α} {G G' : Hp} {kvs : List (Key × V)} {xs : List (Int × α)} (e : Ex G G') (h : DictR r G kvs xs) : DictR r G' kvs xs :=
  ⟨h.1, fun i x q => let ⟨v, h1, h2⟩ := h.2 i x q; ⟨v, h1, r.mono e h2⟩⟩
def rDict {α : Type} (r : Rp α) : Rp (List (Int × α)) := ⟨fun G v xs => ∃ a kvs, v = .ref a ∧ G a = some (.dK kvs) ∧ DictR r G kvs xs, fun e ⟨a, kvs, h1, h2, h3⟩ => ⟨a, kvs, h1, e _ _ h2, h3.mono e⟩⟩
theorem Rp.up {α : Type} {r : Rp α} {G G' : Hp} {v : V} {x : α} (e : Ex G G') (h : r.rel G v x) : r.rel G' v x := r.mono e h
end Q

namespace Q
open PySem L2
section
variable {F : Fr} {K : PySem.W.Frag} {σ : L2.St} {W W1 : Wd F} {ta tb te tc tl : TE} {tt tu : TT} {α β γ δ : Type} {r : Rp α} {s : Rp β} {t : Rp γ}

def EvR (te : TE) (σ : L2.St) (W : Wd F) (r : Rp α) (x : α) : Prop := ∀ W1 : Wd F, Le W W1 → ∀ Q : VK, (∀ v (W2 : Wd F), Le W1 W2 → r.rel W2.G v x → Q v W2.H) → te σ W1.H Q
def EvN (te : TE) (σ : L2.St) (W : Wd F) (r : Rp α) (P : α → Prop) : Prop := ∀ W1 : Wd F, Le W W1 → ∀ Q : VK, (∀ v (W2 : Wd F) x, Le W1 W2 → r.rel W2.G v x → P x → Q v W2.H) → te σ W1.H Q
def EvB (tt : TT) (σ : L2.St) (W : Wd F) (b : Bool) : Prop := ∀ W1 : Wd F, Le W W1 → ∀ Q : Bool → Hp → Prop, (∀ W2 : Wd F, Le W1 W2 → Q b W2.H) → tt σ W1.H Q
def EvBN (tt : TT) (σ : L2.St) (W : Wd F) (P : Bool → Prop) : Prop := ∀ W1 : Wd F, Le W W1 → ∀ Q : Bool → Hp → Prop, (∀ (W2 : Wd F) b, Le W1 W2 → P b → Q b W2.H) → tt σ W1.H Q
/-- a new list of one's own -/
def EvO (te : TE) (σ : L2.St) (W : Wd F) (r : Rp α) (xs : List α) : Prop := ∀ W1 : Wd F, Le W W1 → ∀ Q : VK, (∀ p vs (W2 : Wd F), Le W1 W2 → W1.H p = none → Own W2 p (.lst vs) → All2 (r.rel W2.G) vs xs → Q (.ref p) W2.H) → te σ W1.H Q
def EvON (te : TE) (σ : L2.St) (W : Wd F) (r : Rp α) (P : List α → Prop) : Prop := ∀ W1 : Wd F, Le W W1 → ∀ Q : VK, (∀ p vs (W2 : Wd F) xs, Le W1 W2 → W1.H p = none → Own W2 p (.lst vs) → All2 (r.rel W2.G) vs xs → P xs → Q (.ref p) W2.H) → te σ W1.H Q

theorem le_frz {W W1 : Wd F} {p : Addr} {o : HO} (l : Le W W1) (h : W.H p = none) (x : Own W1 p o) : Le W (W1.frz p o x) :=
  ⟨l.ex.trans (Ex.new x.g), fun a m g n => by
    have ha : a ≠ p := fun z => n (by rw [z]; exact h)
    obtain ⟨h1, h2⟩ := l.kp a m g n
    exact ⟨(upd_ne ha).trans h1, h2⟩⟩
theorem le_fresh {W W1 : Wd F} (l : Le W W1) {p : Addr} (h : W1.H p = none) : W.H p = none := by
  cases e : W.H p with
  | none => rfl
  | some o =>
    cases g : W.G p with
    | some o' =>
      have := W1.gh _ _ (l.ex _ _ g)
      rw [h] at this; cases this
    | none =>
      obtain ⟨_, q⟩ := l.kp p (W1.nm h) g (by rw [e]; exact fun z => nomatch z)
      rw [h, e] at q; cases q
theorem EvO.fz {xs : List α} (h : EvO te σ W r xs) : EvR te σ W (rList r) xs := fun W1 l Q q => h W1 l Q fun p vs W2 l2 hp x a => by
  have y := q (.ref p) (W2.frz p _ x) (le_frz l2 hp x) ⟨p, vs, rfl, W2.frz_at x, a.imp fun _ _ => r.mono (W2.frz_wk x).ex⟩
  exact y
theorem EvON.fz {P : List α → Prop} (h : EvON te σ W r P) : EvN te σ W (rList r) P := fun W1 l Q q => h W1 l Q fun p vs W2 xs l2 hp x a hP => by
  have y := q (.ref p) (W2.frz p _ x) xs (le_frz l2 hp x) ⟨p, vs, rfl, W2.frz_at x, a.imp fun _ _ => r.mono (W2.frz_wk x).ex⟩ hP
  exact y
theorem EvO.n {xs : List α} (h : EvO te σ W r xs) : EvON te σ W r (· = xs) := fun W1 l Q q => h W1 l Q fun p vs W2 l2 hp x a => q p vs W2 xs l2 hp x a rfl
theorem EvR.n {x : α} (h : EvR te σ W r x) : EvN te σ W r (· = x) := fun W1 l Q q => h W1 l Q fun v W2 l2 hv => q v W2 x l2 hv rfl
theorem EvN.imp {P P' : α → Prop} (h : EvN te σ W r P) (k : ∀ x, P x → P' x) : EvN te σ W r P' := fun W1 l Q q => h W1 l Q fun v W2 x l2 hv hp => q v W2 x l2 hv (k x hp)
theorem EvB.n {b : Bool} (h : EvB tt σ W b) : EvBN tt σ W (· = b) := fun W1 l Q q => h W1 l Q fun W2 l2 => q W2 b l2 rfl
theorem EvR.up {x : α} (l : Le W W1) (h : EvR te σ W r x) : EvR te σ W1 r x := fun W2 l2 Q q => h W2 (l.trans l2) Q q
theorem EvR.is {x y : α} (h : EvR te σ W r x) (e : x = y) : EvR te σ W r y := e ▸ h
theorem EvB.is {x y : Bool} (h : EvB tt σ W x) (e : x = y) : EvB tt σ W y := e ▸ h
theorem EvO.is {x y : List α} (h : EvO te σ W r x) (e : x = y) : EvO te σ W r y := e ▸ h

/-! ### values -/
theorem ev_var {i : Nat} {v : V} {x : α} (h : σ[i]? = some (some v)) (hr : r.rel W.G v x) : EvR (tVar i) σ W r x := fun W1 l Q q => ⟨v, h, q v W1 (Le.refl _) (r.mono l.ex hr)⟩
theorem ev_int {i : Int} : EvR (tC (.int i)) σ W rInt i := fun W1 l Q q => q _ W1 (Le.refl _) rfl
theorem ev_bl {b : Bool} : EvR (tC (.bl b)) σ W rBool b := fun W1 l Q q => q _ W1 (Le.refl _) rfl
theorem ev_str {b : Str} : EvR (tC (.str b)) σ W rStr b := fun W1 l Q q => q _ W1 (Le.refl _) rfl
theorem ev_non : EvR (tC .non) σ W rNon () := fun W1 l Q q => q _ W1 (Le.refl _) rfl
theorem ev_nonO : EvR (tC .non) σ W (rOpt r) none := fun W1 l Q q => q _ W1 (Le.refl _) rfl
theorem ev_some {x : α} (h : EvR te σ W r x) : EvR te σ W (rOpt r) (some x) := h
/-- two places, by values -/
theorem ev_op {o : R2} {x : α} {y : β} {z : γ} (ha : EvR ta σ W r x) (hb : EvR tb σ W s y)
    (ho : ∀ (W1 : Wd F) v w (Q : VK), Le W W1 → r.rel W1.G v x → s.rel W1.G w y → (∀ u (W2 : Wd F), Le W1 W2 → t.rel W2.G u z → Q u W2.H) → o v w W1.H Q) : EvR (tOp o ta tb) σ W t z := fun W1 l Q q =>
  ha W1 l _ fun v W2 l2 hv => hb W2 (l.trans l2) _ fun w W3 l3 hw => ho W3 v w Q ((l.trans l2).trans l3) (r.mono l3.ex hv) hw fun u W4 l4 hu => q u W4 ((l2.trans l3).trans l4) hu
theorem ev_opN {o : R2} {P : α → Prop} {P' : β → Prop} {R : γ → Prop} (ha : EvN ta σ W r P) (hb : EvN tb σ W s P')
    (ho : ∀ (W1 : Wd F) v w x y (Q : VK), Le W W1 → r.rel W1.G v x → s.rel W1.G w y → P x → P' y → (∀ u (W2 : Wd F) z, Le W1 W2 → t.rel W2.G u z → R z → Q u W2.H) → o v w W1.H Q) : EvN (tOp o ta tb) σ W t R := fun W1 l Q q =>
  ha W1 l _ fun v W2 x l2 hv hx => hb W2 (l.trans l2) _ fun w W3 y l3 hw hy => ho W3 v w x y Q ((l.trans l2).trans l3) (r.mono l3.ex hv) hw hx hy fun u W4 z l4 hu hz => q u W4 z ((l2.trans l3).trans l4) hu hz
theorem ev_I0 {g : Int → Int → V} {f : Int → Int → γ} {x y : Int} (ha : EvR ta σ W rInt x) (hb : EvR tb σ W rInt y) (hg : ∀ G, t.rel G (g x y) (f x y)) : EvR (tOp (rI0 g) ta tb) σ W t (f x y) :=
  ev_op ha hb fun W1 v w Q l hv hw q => ⟨x, y, hv, hw, q _ W1 (Le.refl _) (hg _)⟩
theorem ev_I {C : Int → Int → Prop} {g : Int → Int → V} {f : Int → Int → γ} {x y : Int} (ha : EvR ta σ W rInt x) (hb : EvR tb σ W rInt y) (hc : C x y) (hg : ∀ G, t.rel G (g x y) (f x y)) : EvR (tOp (rI C g) ta tb) σ W t (f x y) :=
  ev_op ha hb fun W1 v w Q l hv hw q => ⟨x, y, hv, hw, hc, q _ W1 (Le.refl _) (hg _)⟩
theorem ev_I0N {g : Int → Int → V} {f : Int → Int → Int} {P P' R : Int → Prop} (ha : EvN ta σ W rInt P) (hb : EvN tb σ W rInt P') (hR : ∀ x y, P x → P' y → R (f x y)) (hg : ∀ x y, g x y = .int (f x y)) : EvN (tOp (rI0 g) ta tb) σ W rInt R :=
  ev_opN ha hb fun W1 v w x y Q l hv hw hx hy q => ⟨x, y, hv, hw, q _ W1 (f x y) (Le.refl _) (hg x y) (hR x y hx hy)⟩
theorem ev_IN {C : Int → Int → Prop} {g : Int → Int → V} {f : Int → Int → Int} {P P' R : Int → Prop} (ha : EvN ta σ W rInt P) (hb : EvN tb σ W rInt P') (hC : ∀ x y, P x → P' y → C x y) (hR : ∀ x y, P x → P' y → R (f x y)) (hg : ∀ x y, g x y = .int (f x y)) : EvN (tOp (rI C g) ta tb) σ W rInt R :=
  ev_opN ha hb fun W1 v w x y Q l hv hw hx hy q => ⟨x, y, hv, hw, hC x y hx hy, q _ W1 (f x y) (Le.refl _) (hg x y) (hR x y hx hy)⟩
abbrev oAdd : R2 := rI0 fun i j => .int (i + j)
abbrev oSub : R2 := rI0 fun i j => .int (i - j)
abbrev oMul : R2 := rI CMul fun i j => .int (i * j)
abbrev oDiv : R2 := rI CDiv fun i j => .int (i / j)
abbrev oMod : R2 := rI (fun _ j => 0 < j) fun i j => .int (i % j)
abbrev oPow : R2 := rI CPow fun i j => .int (i ^ j.toNat)
abbrev oLt : R2 := rI0 fun i j => .bl (decide (i < j))
abbrev oLe : R2 := rI0 fun i j => .bl (decide (i ≤ j))
abbrev oGt : R2 := rI0 fun i j => .bl (decide (j < i))
abbrev oGe : R2 := rI0 fun i j => .bl (decide (j ≤ i))
theorem ev_add {x y : Int} (ha : EvR ta σ W rInt x) (hb : EvR tb σ W rInt y) : EvR (tOp oAdd ta tb) σ W rInt (x + y) := ev_I0 (f := fun i j => i + j) ha hb fun _ => rfl
theorem ev_sub {x y : Int} (ha : EvR ta σ W rInt x) (hb : EvR tb σ W rInt y) : EvR (tOp oSub ta tb) σ W rInt (x - y) := ev_I0 (f := fun i j => i - j) ha hb fun _ => rfl
theorem ev_mul {x y : Int} (ha : EvR ta σ W rInt x) (hb : EvR tb σ W rInt y) (hc : CMul x y) : EvR (tOp oMul ta tb) σ W rInt (x * y) := ev_I (f := fun i j => i * j) ha hb hc fun _ => rfl
theorem ev_div {x y : Int} (ha : EvR ta σ W rInt x) (hb : EvR tb σ W rInt y) (hc : CDiv x y) : EvR (tOp oDiv ta tb) σ W rInt (x / y) := ev_I (f := fun i j => i / j) ha hb hc fun _ => rfl
theorem ev_mod {x y : Int} (ha : EvR ta σ W rInt x) (hb : EvR tb σ W rInt y) (hc : 0 < y) : EvR (tOp oMod ta tb) σ W rInt (x % y) := ev_I (f := fun i j => i % j) ha hb hc fun _ => rfl
theorem ev_pow {x y : Int} (ha : EvR ta σ W rInt x) (hb : EvR tb σ W rInt y) (hc : CPow x y) : EvR (tOp oPow ta tb) σ W rInt (x ^ y.toNat) := ev_I (f := fun i j => i ^ j.toNat) ha hb hc fun _ => rfl
theorem ev_lt {x y : Int} (ha : EvR ta σ W rInt x) (hb : EvR tb σ W rInt y) : EvR (tOp oLt ta tb) σ W rBool (decide (x < y)) := ev_I0 (t := rBool) (f := fun i j => decide (i < j)) ha hb fun _ => rfl
theorem ev_le {x y : Int} (ha : EvR ta σ W rInt x) (hb : EvR tb σ W rInt y) : EvR (tOp oLe ta tb) σ W rBool (decide (x ≤ y)) := ev_I0 (t := rBool) (f := fun i j => decide (i ≤ j)) ha hb fun _ => rfl
theorem ev_gt {x y : Int} (ha : EvR ta σ W rInt x) (hb : EvR tb σ W rInt y) : EvR (tOp oGt ta tb) σ W rBool (decide (y < x)) := ev_I0 (t := rBool) (f := fun i j => decide (j < i)) ha hb fun _ => rfl
theorem ev_ge {x y : Int} (ha : EvR ta σ W rInt x) (hb : EvR tb σ W rInt y) : EvR (tOp oGe ta tb) σ W rBool (decide (y ≤ x)) := ev_I0 (t := rBool) (f := fun i j => decide (j ≤ i)) ha hb fun _ => rfl
/-- == of flat things -/
def Fl (r : Rp α) : Prop := ∀ G G' v w (x y : α), r.rel G v x → r.rel G' w y → scal v w = true ∧ (v = w ↔ x = y)
theorem fl_int : Fl rInt := fun _ _ v w x y h1 h2 => by
  have h1 : v = .int x := h1
  have h2 : w = .int y := h2
  subst h1; subst h2
  exact ⟨rfl, by simp⟩
theorem fl_bool : Fl rBool := fun _ _ v w x y h1 h2 => by
  have h1 : v = .bl x := h1
  have h2 : w = .bl y := h2
  subst h1; subst h2
  exact ⟨rfl, by simp⟩
theorem fl_str : Fl rStr := fun _ _ v w x y h1 h2 => by
  have h1 : v = .str x := h1
  have h2 : w = .str y := h2
  subst h1; subst h2
  exact ⟨rfl, by simp⟩
theorem ev_eq [DecidableEq α] {x y : α} (f : Fl r) (ha : EvR ta σ W r x) (hb : EvR tb σ W r y) : EvR (tOp rEq ta tb) σ W rBool (decide (x = y)) :=
  ev_op ha hb fun W1 v w Q l hv hw q => by
    obtain ⟨h1, h2⟩ := f _ _ _ _ _ _ hv hw
    refine ⟨h1, ?_⟩
    rw [show decide (v = w) = decide (x = y) from decide_eq_decide.mpr h2]
    exact q _ W1 (Le.refl _) rfl
theorem ev_ne [DecidableEq α] {x y : α} (f : Fl r) (ha : EvR ta σ W r x) (hb : EvR tb σ W r y) : EvR (tOp rNe ta tb) σ W rBool (!decide (x = y)) :=
  ev_op ha hb fun W1 v w Q l hv hw q => by
    obtain ⟨h1, h2⟩ := f _ _ _ _ _ _ hv hw
    refine ⟨h1, ?_⟩
    rw [show decide (v = w) = decide (x = y) from decide_eq_decide.mpr h2]
    exact q _ W1 (Le.refl _) rfl

/-! ### lists -/
theorem sqL_of {G H : Hp} {a : Addr} {vs : List V} (e : Ex G H) (h : G a = some (.lst vs)) : SqL K H a vs := Or.inl (Or.inl (e _ _ h))
theorem sqT_of {G H : Hp} {a : Addr} {vs : List V} (e : Ex G H) (h : G a = some (.tup vs)) : SqT K H a vs := Or.inl (Or.inl (e _ _ h))
abbrev oLen (K : PySem.W.Frag) : List V → Hp → VK → Prop := fun xs H Q => ∃ p ys, xs = [.ref p] ∧ (SqL K H p ys ∨ SqT K H p ys) ∧ Q (.int (ys.length : Nat)) H
theorem ev_len {xs : List α} (ha : EvR ta σ W (rList r) xs) : EvR (tCB (oLen K) (tCons ta tNil)) σ W rInt (xs.length : Nat) := fun W1 l Q q => ha W1 l _ fun v W2 l2 hv => by
  obtain ⟨a, vs, rfl, h1, h2⟩ := hv
  exact ⟨a, vs, rfl, .inl (sqL_of W2.gh h1), q _ W2 l2 (by rw [h2.1]; rfl)⟩
/-- an item by its place -/
theorem ev_ixL {xs : List α} {i : Int} {x : α} (ha : EvR ta σ W (rList r) xs) (hb : EvR tb σ W rInt i) (hx : 0 ≤ i ∧ xs[i.toNat]? = some x) : EvR (tOp (rIx K) ta tb) σ W r x :=
  ev_op ha hb fun W1 v w Q l hv hw q => by
    obtain ⟨a, vs, rfl, h1, h2⟩ := hv
    have hw : w = .int i := hw
    subst hw
    obtain ⟨u, h3, h4⟩ := h2.2 _ _ hx.2
    refine .inl ⟨a, vs, i, u, rfl, rfl, sqL_of W1.gh h1, ?_, q u W1 (Le.refl _) h4⟩
    have e : i = ((i.toNat : Nat) : Int) := by omega
    rw [e]; exact atI_nat h3
theorem ev_ix0 {x : α} {y : β} (ha : EvR ta σ W (rT2 r s) (x, y)) : EvR (tOp (rIx K) ta (tC (.int 0))) σ W r x :=
  ev_op ha (ev_int (i := 0)) fun W1 v w Q l hv hw q => by
    obtain ⟨a, u, u', rfl, h1, h2, h3⟩ := hv
    have hw : w = .int 0 := hw
    subst hw
    exact .inr (.inl ⟨a, _, 0, u, rfl, rfl, sqT_of W1.gh h1, rfl, q u W1 (Le.refl _) h2⟩)
theorem ev_ix1 {x : α} {y : β} (ha : EvR ta σ W (rT2 r s) (x, y)) : EvR (tOp (rIx K) ta (tC (.int 1))) σ W s y :=
  ev_op ha (ev_int (i := 1)) fun W1 v w Q l hv hw q => by
    obtain ⟨a, u, u', rfl, h1, h2, h3⟩ := hv
    have hw : w = .int 1 := hw
    subst hw
    exact .inr (.inl ⟨a, _, 1, u', rfl, rfl, sqT_of W1.gh h1, rfl, q u' W1 (Le.refl _) h3⟩)
theorem ev_jx0 {x : α × β × γ} (ha : EvR ta σ W (rT3 r s t) x) : EvR (tOp (rIx K) ta (tC (.int 0))) σ W r x.1 :=
  ev_op ha (ev_int (i := 0)) fun W1 v w Q l hv hw q => by
    obtain ⟨a, u, u', u'', rfl, h1, h2, h3, h4⟩ := hv
    have hw : w = .int 0 := hw
    subst hw
    exact .inr (.inl ⟨a, _, 0, u, rfl, rfl, sqT_of W1.gh h1, rfl, q u W1 (Le.refl _) h2⟩)
theorem ev_jx1 {x : α × β × γ} (ha : EvR ta σ W (rT3 r s t) x) : EvR (tOp (rIx K) ta (tC (.int 1))) σ W s x.2.1 :=
  ev_op ha (ev_int (i := 1)) fun W1 v w Q l hv hw q => by
    obtain ⟨a, u, u', u'', rfl, h1, h2, h3, h4⟩ := hv
    have hw : w = .int 1 := hw
    subst hw
    exact .inr (.inl ⟨a, _, 1, u', rfl, rfl, sqT_of W1.gh h1, rfl, q u' W1 (Le.refl _) h3⟩)
theorem ev_jx2 {x : α × β × γ} (ha : EvR ta σ W (rT3 r s t) x) : EvR (tOp (rIx K) ta (tC (.int 2))) σ W t x.2.2 :=
  ev_op ha (ev_int (i := 2)) fun W1 v w Q l hv hw q => by
    obtain ⟨a, u, u', u'', rfl, h1, h2, h3, h4⟩ := hv
    have hw : w = .int 2 := hw
    subst hw
    exact .inr (.inl ⟨a, _, 2, u'', rfl, rfl, sqT_of W1.gh h1, rfl, q u'' W1 (Le.refl _) h4⟩)
/-- displays -/
theorem ev_t2 {x : α} {y : β} (ha : EvR ta σ W r x) (hb : EvR tb σ W s y) : EvR (tTup (tCons ta (tCons tb tNil))) σ W (rT2 r s) (x, y) := fun W1 l Q q =>
  ha W1 l _ fun v W2 l2 hv => hb W2 (l.trans l2) _ fun w W3 l3 hw => ⟨by show 2 ≤ sizeLine; decide, fun p hp => q (.ref p) (W3.add p _ hp) ((l2.trans l3).trans (W3.add_le hp))
    ⟨p, v, w, rfl, W3.add_at hp, r.mono (l3.ex.trans (W3.add_le hp).ex) hv, s.mono (W3.add_le hp).ex hw⟩⟩
theorem ev_t3 {x : α} {y : β} {z : γ} (ha : EvR ta σ W r x) (hb : EvR tb σ W s y) (hc : EvR tc σ W t z) : EvR (tTup (tCons ta (tCons tb (tCons tc tNil)))) σ W (rT3 r s t) (x, y, z) := fun W1 l Q q =>
  ha W1 l _ fun v W2 l2 hv => hb W2 (l.trans l2) _ fun w W3 l3 hw => hc W3 ((l.trans l2).trans l3) _ fun u W4 l4 hu => ⟨by show 3 ≤ sizeLine; decide, fun p hp => q (.ref p) (W4.add p _ hp) (((l2.trans l3).trans l4).trans (W4.add_le hp))
    ⟨p, v, w, u, rfl, W4.add_at hp, r.mono ((l3.ex.trans l4.ex).trans (W4.add_le hp).ex) hv, s.mono (l4.ex.trans (W4.add_le hp).ex) hw, t.mono (W4.add_le hp).ex hu⟩⟩
/-- the items of a display, or of a call, of one kind -/
def EvL (ta : TA) (σ : L2.St) (W : Wd F) (r : Rp α) (xs : List α) : Prop := ∀ W1 : Wd F, Le W W1 → ∀ Q : List V → Hp → Prop, (∀ vs (W2 : Wd F), Le W1 W2 → All2 (r.rel W2.G) vs xs → Q vs W2.H) → ta σ W1.H Q
theorem el_nil : EvL tNil σ W r [] := fun W1 l Q q => q [] W1 (Le.refl _) All2.nil
theorem el_cons {ts : TA} {x : α} {xs : List α} (h : EvR ta σ W r x) (hs : EvL ts σ W r xs) : EvL (tCons ta ts) σ W r (x :: xs) := fun W1 l Q q =>
  h W1 l _ fun v W2 l2 hv => hs W2 (l.trans l2) _ fun vs W3 l3 hvs => q (v :: vs) W3 (l2.trans l3) ((hvs).cons (r.mono l3.ex hv))
theorem eo_lst {ts : TA} {xs : List α} (h : EvL ts σ W r xs) (hz : xs.length ≤ 100000) : EvO (tLst ts) σ W r xs := fun W1 l Q q =>
  h W1 l _ fun vs W2 l2 a => ⟨by rw [a.1]; exact Nat.le_trans hz (by decide), fun p hp => q p vs (W2.own p _ hp) (l2.trans (W2.own_le hp)) (le_fresh l2 hp) (W2.own_at hp) a⟩
abbrev oList (K : PySem.W.Frag) : List V → Hp → VK → Prop := fun xs H Q => ∃ p ys, xs = [.ref p] ∧ (SqL K H p ys ∨ SqT K H p ys) ∧ ∀ l, H l = none → Q (.ref l) (upd H l (.lst ys))
theorem eo_list {xs : List α} (ha : EvR ta σ W (rList r) xs) : EvO (tCB (oList K) (tCons ta tNil)) σ W r xs := fun W1 l Q q => ha W1 l _ fun v W2 l2 hv => by
  obtain ⟨a, vs, rfl, h1, h2⟩ := hv
  exact ⟨a, vs, rfl, .inl (sqL_of W2.gh h1), fun p hp => q p vs (W2.own p _ hp) (l2.trans (W2.own_le hp)) (le_fresh l2 hp) (W2.own_at hp) h2⟩
theorem eo_listT {xs : List α} (ha : EvR ta σ W (rTup r) xs) : EvO (tCB (oList K) (tCons ta tNil)) σ W r xs := fun W1 l Q q => ha W1 l _ fun v W2 l2 hv => by
  obtain ⟨a, vs, rfl, h1, h2⟩ := hv
  exact ⟨a, vs, rfl, .inr (sqT_of W2.gh h1), fun p hp => q p vs (W2.own p _ hp) (l2.trans (W2.own_le hp)) (le_fresh l2 hp) (W2.own_at hp) h2⟩
/-- range -/
def rg (n : Int) : List Int := (List.range n.toNat).map fun (i : Nat) => (i : Int)
theorem rg_len (n : Int) : (rg n).length = n.toNat := by simp [rg]
theorem rg_get {n : Int} {i : Nat} {x : Int} : (rg n)[i]? = some x ↔ (i < n.toNat ∧ x = i) := by
  unfold rg
  rw [List.getElem?_map]
  by_cases h : i < n.toNat
  · rw [List.getElem?_range h]; simp [h, eq_comm]
  · rw [List.getElem?_eq_none (by simpa using h)]; simp [h]
theorem mem_rg {n x : Int} : x ∈ rg n ↔ 0 ≤ x ∧ x < n := by
  unfold rg
  rw [List.mem_map]
  constructor
  · rintro ⟨i, hi, rfl⟩
    have := List.mem_range.mp hi
    omega
  · rintro ⟨h1, h2⟩
    exact ⟨x.toNat, List.mem_range.mpr (by omega), by omega⟩
theorem eo_rng {n : Int} (ha : EvR ta σ W rInt n) (h : 0 ≤ n ∧ n ≤ 1000000) : EvO (tLstRg (tRg1 ta)) σ W rInt (rg n) := fun W1 l Q q => ha W1 l _ fun v W2 l2 hv =>
  ⟨n, hv, ⟨by decide, by decide, by omega, by omega, by omega⟩, fun p hp => q p _ (W2.own p _ hp) (l2.trans (W2.own_le hp)) (le_fresh l2 hp) (W2.own_at hp) (by
    have e : rgV 0 n = (rg n).map V.int := by
      unfold rgV rg
      rw [List.map_map]
      have z : (n - 0).toNat = n.toNat := by omega
      rw [z]
      apply List.map_congr_left
      intro i _
      show V.int (0 + (i : Int)) = V.int (i : Int)
      rw [Int.zero_add]
    rw [e]; exact All2.ofInts _)⟩
/-- + of two lists that stand in the heap -/
theorem eo_cat {xs ys : List α} (ha : EvR ta σ W (rList r) xs) (hb : EvR tb σ W (rList r) ys) (hz : xs.length + ys.length ≤ 100000) : EvO (tOp rCat ta tb) σ W r (xs ++ ys) := fun W1 l Q q =>
  ha W1 l _ fun v W2 l2 hv => hb W2 (l.trans l2) _ fun w W3 l3 hw => by
    obtain ⟨a, vs, rfl, h1, h2⟩ := hv
    obtain ⟨b, ws, rfl, h3, h4⟩ := hw
    have h2' := h2.imp fun _ _ => r.mono l3.ex
    exact ⟨a, b, vs, ws, rfl, rfl, W3.gh _ _ (l3.ex _ _ h1), W3.gh _ _ h3, by rw [h2.1, h4.1]; exact Nat.le_trans hz (by decide), fun p hp =>
      q p _ (W3.own p _ hp) ((l2.trans l3).trans (W3.own_le hp)) (le_fresh (l2.trans l3) hp) (W3.own_at hp) (h2'.append h4)⟩
/-- in -/
theorem inV_ints {x : Int} {ns : List Int} : inV (.int x) (ns.map V.int) = decide (x ∈ ns) := by
  unfold inV
  induction ns with
  | nil => simp
  | cons n ns ih =>
    have e : eqV (.int n) (.int x) = (n == x) := by simp [eqV]
    rw [List.map_cons, List.any_cons, ih, e]
    by_cases h : n = x
    · subst h; simp
    · have h' : ¬ x = n := fun z => h z.symm
      simp [h, h', List.mem_cons]
theorem flat_ints (ns : List Int) : (ns.map V.int).all flatV = true := by
  rw [List.all_eq_true]
  intro v hv
  obtain ⟨n, _, rfl⟩ := List.mem_map.mp hv
  rfl
theorem ev_in {x : Int} {ns : List Int} (ha : EvR ta σ W rInt x) (hb : EvR tb σ W (rList rInt) ns) : EvR (tOp (rIn K false) ta tb) σ W rBool (decide (x ∈ ns)) :=
  ev_op ha hb fun W1 v w Q l hv hw q => by
    obtain ⟨a, vs, rfl, h1, h2⟩ := hw
    have hv : v = .int x := hv
    subst hv
    have e := All2.ints h2
    subst e
    refine ⟨a, _, rfl, .inl (sqL_of W1.gh h1), rfl, flat_ints ns, ?_⟩
    rw [inV_ints]
    exact q _ W1 (Le.refl _) rfl
theorem ev_nin {x : Int} {ns : List Int} (ha : EvR ta σ W rInt x) (hb : EvR tb σ W (rList rInt) ns) : EvR (tOp (rIn K true) ta tb) σ W rBool (!decide (x ∈ ns)) :=
  ev_op ha hb fun W1 v w Q l hv hw q => by
    obtain ⟨a, vs, rfl, h1, h2⟩ := hw
    have hv : v = .int x := hv
    subst hv
    have e := All2.ints h2
    subst e
    refine ⟨a, _, rfl, .inl (sqL_of W1.gh h1), rfl, flat_ints ns, ?_⟩
    rw [inV_ints]
    exact q _ W1 (Le.refl _) rfl
/-- a slice from the beginning; a whole one backwards -/
theorem eo_sl {xs : List α} {j : Int} {tlo thi : TO} (ha : EvR ta σ W (rList r) xs) (hlo : tlo = tNoPart) (hb : EvR tb σ W rInt j) (hj : 0 ≤ j) (hhi : thi = tPart tb) : EvO (tSl (rSlL K) ta tlo thi) σ W r (xs.take j.toNat) := fun W1 l Q q => by
  subst hlo; subst hhi
  refine ha W1 l _ fun v W2 l2 hv => ?_
  refine hb W2 (l.trans l2) _ fun w W3 l3 hw => ?_
  obtain ⟨a, vs, rfl, h1, h2⟩ := hv
  refine ⟨j, hw, ⟨a, vs, rfl, sqL_of W3.gh (l3.ex _ _ h1), fun p hp => ?_⟩⟩
  have e : cutV vs none (some j) = vs.take j.toNat := by
    unfold cutV HT.sIx
    simp only [if_neg (show ¬ j < 0 by omega), Nat.sub_zero, List.drop_zero]
    rw [Nat.min_def]
    split
    · rfl
    · rename_i hh
      rw [List.take_of_length_le (Nat.le_refl _), List.take_of_length_le (by omega)]
  rw [e]
  exact q p _ (W3.own p _ hp) ((l2.trans l3).trans (W3.own_le hp)) (le_fresh (l2.trans l3) hp) (W3.own_at hp) ((h2.imp fun _ _ => r.mono l3.ex).take _)
theorem eo_rev {xs : List α} {tr : (PySem.W.Frag → TE → TE)} (ha : EvR ta σ W (rList r) xs) (htr : tr K ta = fun σ H Q => ta σ H fun x H1 => ∃ a xs, x = .ref a ∧ SqL K H1 a xs ∧ ∀ p, H1 p = none → Q (.ref p) (upd H1 p (.lst xs.reverse))) : EvO (tr K ta) σ W r xs.reverse := fun W1 l Q q => by
  rw [htr]
  refine ha W1 l _ fun v W2 l2 hv => ?_
  obtain ⟨a, vs, rfl, h1, h2⟩ := hv
  exact ⟨a, vs, rfl, sqL_of W2.gh h1, fun p hp => q p _ (W2.own p _ hp) (l2.trans (W2.own_le hp)) (le_fresh l2 hp) (W2.own_at hp) h2.reverse⟩
theorem eo_sorted {xs : List Int} (ha : EvR ta σ W (rList rInt) xs) : EvON (tCB (rSortedI K) (tCons ta tNil)) σ W rInt (fun ys => ys.Perm xs ∧ ys.Pairwise (· ≤ ·)) := fun W1 l Q q => ha W1 l _ fun v W2 l2 hv => by
  obtain ⟨a, vs, rfl, h1, h2⟩ := hv
  have e := All2.ints h2
  subst e
  exact ⟨a, xs, rfl, sqL_of W2.gh h1, fun ns' p h3 h4 hp => q p _ (W2.own p _ hp) ns' (l2.trans (W2.own_le hp)) (le_fresh l2 hp) (W2.own_at hp) (All2.ofInts _) ⟨h3, h4⟩⟩

/-! ### tests -/
theorem et_r {b : Bool} (h : EvR te σ W rBool b) : EvB (tTest te) σ W b := fun W1 l Q q => h W1 l _ fun v W2 l2 hv => ⟨b, hv, q W2 l2⟩
theorem et_b {b : Bool} (h : EvR te σ W rBool b) : EvB (tB te) σ W b := fun W1 l Q q => h W1 l _ fun v W2 l2 hv => ⟨b, hv, q W2 l2⟩
theorem et_and {a b : Bool} (h1 : EvB tt σ W a) (h2 : a = true → EvB tu σ W b) : EvB (tAnd tt tu) σ W (a && b) := fun W1 l Q q => h1 W1 l _ fun W2 l2 => by
  cases a with
  | true => exact iteT (h2 rfl W2 (l.trans l2) Q fun W3 l3 => q W3 (l2.trans l3))
  | false => exact iteF (q W2 l2)
theorem et_or {a b : Bool} (h1 : EvB tt σ W a) (h2 : a = false → EvB tu σ W b) : EvB (tOr tt tu) σ W (a || b) := fun W1 l Q q => h1 W1 l _ fun W2 l2 => by
  cases a with
  | true => exact iteT (q W2 l2)
  | false => exact iteF (h2 rfl W2 (l.trans l2) Q fun W3 l3 => q W3 (l2.trans l3))
theorem et_not {a : Bool} (h : EvB tt σ W a) : EvB (tNot tt) σ W (!a) := fun W1 l Q q => h W1 l _ fun W2 l2 => q W2 l2
theorem et_yes : EvB tYes σ W true := fun W1 l Q q => q W1 (Le.refl _)
theorem et_if {b : Bool} {x : α} (h : EvB tt σ W b) (h1 : b = true → EvR ta σ W r x) (h2 : b = false → EvR tb σ W r x) : EvR (tIf tt ta tb) σ W r x := fun W1 l Q q => h W1 l _ fun W2 l2 => by
  cases b with
  | true => exact iteT (h1 rfl W2 (l.trans l2) Q fun v W3 l3 => q v W3 (l2.trans l3))
  | false => exact iteF (h2 rfl W2 (l.trans l2) Q fun v W3 l3 => q v W3 (l2.trans l3))
theorem ev_andV {a b : Bool} (h1 : EvR ta σ W rBool a) (h2 : a = true → EvR tb σ W rBool b) : EvR (tAndV ta tb) σ W rBool (a && b) := fun W1 l Q q => h1 W1 l _ fun v W2 l2 hv => ⟨a, hv, by
  cases a with
  | true => exact iteT (h2 rfl W2 (l.trans l2) Q fun v W3 l3 => q v W3 (l2.trans l3))
  | false => exact iteF (q _ W2 l2 rfl)⟩
theorem ev_orV {a b : Bool} (h1 : EvR ta σ W rBool a) (h2 : a = false → EvR tb σ W rBool b) : EvR (tOrV ta tb) σ W rBool (a || b) := fun W1 l Q q => h1 W1 l _ fun v W2 l2 hv => ⟨a, hv, by
  cases a with
  | true => exact iteT (q _ W2 l2 rfl)
  | false => exact iteF (h2 rfl W2 (l.trans l2) Q fun v W3 l3 => q v W3 (l2.trans l3))⟩
theorem ev_notV {a : Bool} (h : EvR ta σ W rBool a) : EvR (tNotV ta) σ W rBool (!a) := fun W1 l Q q => h W1 l _ fun v W2 l2 hv => ⟨a, hv, q _ W2 l2 rfl⟩
/-- a op b op' c -/
theorem ev_chain {o o' : R2} {x y z : Int} {a b : Bool} (h1 : EvR ta σ W rInt x) (h2 : EvR tb σ W rInt y) (h3 : EvR tc σ W rInt z)
    (ho : ∀ H (Q : VK), Q (.bl a) H → o (.int x) (.int y) H Q) (ho' : ∀ H (Q : VK), Q (.bl b) H → o' (.int y) (.int z) H Q) : EvR (tChain o o' ta tb tc) σ W rBool (a && b) := fun W1 l Q q =>
  h1 W1 l _ fun v W2 l2 hv => h2 W2 (l.trans l2) _ fun w W3 l3 hw => by
    have hv : v = .int x := hv
    have hw : w = .int y := hw
    subst hv; subst hw
    refine ho _ _ ⟨a, rfl, ?_⟩
    cases a with
    | true => exact iteT (h3 W3 ((l.trans l2).trans l3) _ fun u W4 l4 hu => by
        have hu : u = .int z := hu
        subst hu
        exact ho' _ _ (q _ W4 ((l2.trans l3).trans l4) rfl))
    | false => exact iteF (q _ W3 (l2.trans l3) rfl)
theorem ev_chain_lelt {x y z : Int} (h1 : EvR ta σ W rInt x) (h2 : EvR tb σ W rInt y) (h3 : EvR tc σ W rInt z) : EvR (tChain oLe oLt ta tb tc) σ W rBool (decide (x ≤ y) && decide (y < z)) :=
  ev_chain h1 h2 h3 (fun H Q q => ⟨x, y, rfl, rfl, q⟩) (fun H Q q => ⟨y, z, rfl, rfl, q⟩)
theorem ev_chain_lele {x y z : Int} (h1 : EvR ta σ W rInt x) (h2 : EvR tb σ W rInt y) (h3 : EvR tc σ W rInt z) : EvR (tChain oLe oLe ta tb tc) σ W rBool (decide (x ≤ y) && decide (y ≤ z)) :=
  ev_chain h1 h2 h3 (fun H Q q => ⟨x, y, rfl, rfl, q⟩) (fun H Q q => ⟨y, z, rfl, rfl, q⟩)
end
end Q

namespace Q
open PySem L2
section
variable {F : Fr} {K : PySem.W.Frag} {σ : L2.St} {W W1 : Wd F} {ta tb te tc tl : TE} {tt tu : TT} {α β γ δ : Type} {r : Rp α} {s : Rp β} {t : Rp γ} {D : Ends} {tz tx ty : TS}
theorem le_put {W W1 : Wd F} {p : Addr} {o : HO} (l : Le W W1) (h : W.H p = none) (h0 : F.H0 p = none) (g : W1.G p = none) : Le W (W1.put p o h0 g) :=
  ⟨l.ex, fun a m q n => by
    have ha : a ≠ p := fun z => n (by rw [z]; exact h)
    obtain ⟨h1, h2⟩ := l.kp a m q n
    exact ⟨h1, (upd_ne ha).trans h2⟩⟩
/-- a list of one's own -/
structure OwnL (W : Wd F) (p : Addr) (r : Rp α) (xs : List α) : Prop where
  ex : ∃ vs, Own W p (.lst vs) ∧ All2 (r.rel W.G) vs xs
/-- all of one's own but p is as it was -/
structure Kp (p : Addr) (W W1 : Wd F) : Prop where
  ex : Ex W.G W1.G
  kp : ∀ q u, q ≠ p → Own W q u → Own W1 q u
theorem OwnL.up {p : Addr} {xs : List α} (l : Le W W1) (h : OwnL W p r xs) : OwnL W1 p r xs := by
  obtain ⟨vs, h1, h2⟩ := h.ex
  exact ⟨vs, h1.up l, h2.imp fun _ _ => r.mono l.ex⟩
theorem OwnL.kp {p q : Addr} {xs : List α} (l : Kp p W W1) (h : OwnL W q r xs) (ne : q ≠ p) : OwnL W1 q r xs := by
  obtain ⟨vs, h1, h2⟩ := h.ex
  exact ⟨vs, l.kp _ _ ne h1, h2.imp fun _ _ => r.mono l.ex⟩
theorem OwnL.z {p : Addr} {xs : List α} (h : OwnL W p r xs) : F.H0 p = none := by obtain ⟨vs, h1, h2⟩ := h.ex; exact h1.z
theorem OwnL.g {p : Addr} {xs : List α} (h : OwnL W p r xs) : W.G p = none := by obtain ⟨vs, h1, h2⟩ := h.ex; exact h1.g
theorem OwnL.ne {p q : Addr} {xs : List α} (h : OwnL W p r xs) (n : W.H q = none) : p ≠ q := by obtain ⟨vs, h1, h2⟩ := h.ex; exact h1.ne n
/-- freeze it -/
theorem OwnL.fz {p : Addr} {xs : List α} (h : OwnL W p r xs) : ∃ W1 : Wd F, W1.H = W.H ∧ Kp p W W1 ∧ (rList r).rel W1.G (.ref p) xs := by
  obtain ⟨vs, h1, h2⟩ := h.ex
  exact ⟨W.frz p _ h1, rfl, ⟨(W.frz_wk h1).ex, fun q u ne x => x.frz ne h1⟩, p, vs, rfl, W.frz_at h1, h2.imp fun _ _ => r.mono (W.frz_wk h1).ex⟩
/-- read one's own list: at that heap it is as good as frozen -/
theorem OwnL.rd {p : Addr} {xs : List α} (h : OwnL W p r xs) {i : Nat} (hi : σ[i]? = some (some (.ref p))) {Q : VK} {o : V → Hp → VK → Prop}
    (k : ∀ vs, W.H p = some (.lst vs) → All2 (r.rel W.G) vs xs → o (.ref p) W.H Q) : tVar i σ W.H fun v H => o v H Q := by
  obtain ⟨vs, h1, h2⟩ := h.ex
  exact ⟨_, hi, k vs h1.h h2⟩

/-! ### statements -/
theorem s_asg {i : Nat} {x : α} (h : EvR te σ W r x) (k : ∀ v (W1 : Wd F), Le W W1 → r.rel W1.G v x → D.nx (σ.set i (some v)) W1.H) : tAsg te (gName i) D σ W.H := h W (Le.refl _) _ fun v W1 l hv => k v W1 l hv
theorem q_asg {i : Nat} {x : α} (h : EvR te σ W r x) (k : ∀ v (W1 : Wd F), Le W W1 → r.rel W1.G v x → tz D (σ.set i (some v)) W1.H) : tSeq (tAsg te (gName i)) tz D σ W.H := s_asg (D := { D with nx := tz D }) h k
theorem s_asgN {i : Nat} {P : α → Prop} (h : EvN te σ W r P) (k : ∀ v (W1 : Wd F) x, Le W W1 → r.rel W1.G v x → P x → D.nx (σ.set i (some v)) W1.H) : tAsg te (gName i) D σ W.H := h W (Le.refl _) _ fun v W1 x l hv hx => k v W1 x l hv hx
theorem q_asgN {i : Nat} {P : α → Prop} (h : EvN te σ W r P) (k : ∀ v (W1 : Wd F) x, Le W W1 → r.rel W1.G v x → P x → tz D (σ.set i (some v)) W1.H) : tSeq (tAsg te (gName i)) tz D σ W.H := s_asgN (D := { D with nx := tz D }) h k
theorem s_asgO {i : Nat} {xs : List α} (h : EvO te σ W r xs) (k : ∀ p (W1 : Wd F), Le W W1 → W.H p = none → OwnL W1 p r xs → D.nx (σ.set i (some (.ref p))) W1.H) : tAsg te (gName i) D σ W.H :=
  h W (Le.refl _) _ fun p vs W1 l hp x a => k p W1 l hp ⟨vs, x, a⟩
theorem q_asgO {i : Nat} {xs : List α} (h : EvO te σ W r xs) (k : ∀ p (W1 : Wd F), Le W W1 → W.H p = none → OwnL W1 p r xs → tz D (σ.set i (some (.ref p))) W1.H) : tSeq (tAsg te (gName i)) tz D σ W.H := s_asgO (D := { D with nx := tz D }) h k
theorem q_asgON {i : Nat} {P : List α → Prop} (h : EvON te σ W r P) (k : ∀ p (W1 : Wd F) xs, Le W W1 → W.H p = none → OwnL W1 p r xs → P xs → tz D (σ.set i (some (.ref p))) W1.H) : tSeq (tAsg te (gName i)) tz D σ W.H :=
  h W (Le.refl _) _ fun p vs W1 xs l hp x a hP => k p W1 xs l hp ⟨vs, x, a⟩ hP
/-- targets that take a tuple apart -/
abbrev gT2 (K : PySem.W.Frag) (i j : Nat) : TG := gTup K 2 (gCons (gName i) (gCons (gName j) gNil))
abbrev gT3 (K : PySem.W.Frag) (i j k : Nat) : TG := gTup K 3 (gCons (gName i) (gCons (gName j) (gCons (gName k) gNil)))
theorem g_t2 {i j : Nat} {v : V} {x : α × β} {R : L2.St → Hp → Prop} (h : (rT2 r s).rel W.G v x) (k : ∀ u w, r.rel W.G u x.1 → s.rel W.G w x.2 → R ((σ.set i (some u)).set j (some w)) W.H) : gT2 K i j v σ W.H R := by
  obtain ⟨a, u, w, rfl, h1, h2, h3⟩ := h
  exact ⟨a, _, rfl, sqT_of W.gh h1, rfl, u, _, rfl, w, _, rfl, rfl, k u w h2 h3⟩
theorem g_t3 {i j l : Nat} {v : V} {x : α × β × γ} {R : L2.St → Hp → Prop} (h : (rT3 r s t).rel W.G v x) (k : ∀ u w y, r.rel W.G u x.1 → s.rel W.G w x.2.1 → t.rel W.G y x.2.2 → R (((σ.set i (some u)).set j (some w)).set l (some y)) W.H) : gT3 K i j l v σ W.H R := by
  obtain ⟨a, u, w, y, rfl, h1, h2, h3, h4⟩ := h
  exact ⟨a, _, rfl, sqT_of W.gh h1, rfl, u, _, rfl, w, _, rfl, y, _, rfl, rfl, k u w y h2 h3 h4⟩
theorem q_asg2 {i j : Nat} {x : α × β} (h : EvR te σ W (rT2 r s) x) (k : ∀ u w (W1 : Wd F), Le W W1 → r.rel W1.G u x.1 → s.rel W1.G w x.2 → tz D ((σ.set i (some u)).set j (some w)) W1.H) : tSeq (tAsg te (gT2 K i j)) tz D σ W.H :=
  h W (Le.refl _) _ fun v W1 l hv => g_t2 hv fun u w h1 h2 => k u w W1 l h1 h2
theorem q_asg3 {i j m : Nat} {x : α × β × γ} (h : EvR te σ W (rT3 r s t) x) (k : ∀ u w y (W1 : Wd F), Le W W1 → r.rel W1.G u x.1 → s.rel W1.G w x.2.1 → t.rel W1.G y x.2.2 → tz D (((σ.set i (some u)).set j (some w)).set m (some y)) W1.H) : tSeq (tAsg te (gT3 K i j m)) tz D σ W.H :=
  h W (Le.refl _) _ fun v W1 l hv => g_t3 hv fun u w y h1 h2 h3 => k u w y W1 l h1 h2 h3
theorem s_ret {x : α} (h : EvR te σ W r x) (k : ∀ v (W1 : Wd F), r.rel W1.G v x → D.rt v W1.H) : tRet te D σ W.H := h W (Le.refl _) _ fun v W1 _ hv => k v W1 hv
theorem s_retN {P : α → Prop} (h : EvN te σ W r P) (k : ∀ v (W1 : Wd F) x, r.rel W1.G v x → P x → D.rt v W1.H) : tRet te D σ W.H := h W (Le.refl _) _ fun v W1 x _ hv hx => k v W1 x hv hx
theorem s_if {b : Bool} (h : EvB tt σ W b) (h1 : b = true → ∀ W1 : Wd F, Le W W1 → tx D σ W1.H) (h2 : b = false → ∀ W1 : Wd F, Le W W1 → ty D σ W1.H) : tIfS tt tx ty D σ W.H := h W (Le.refl _) _ fun W1 l => by
  cases b with
  | true => exact iteT (h1 rfl W1 l)
  | false => exact iteF (h2 rfl W1 l)
theorem q_if {b : Bool} (h : EvB tt σ W b) (h1 : b = true → ∀ W1 : Wd F, Le W W1 → tx { D with nx := tz D } σ W1.H) (h2 : b = false → ∀ W1 : Wd F, Le W W1 → ty { D with nx := tz D } σ W1.H) : tSeq (tIfS tt tx ty) tz D σ W.H := s_if (D := { D with nx := tz D }) h h1 h2
/-- an if without else -/
theorem q_when {b : Bool} (h : EvB tt σ W b) (h1 : b = true → ∀ W1 : Wd F, Le W W1 → tx { D with nx := tz D } σ W1.H) (h2 : b = false → ∀ W1 : Wd F, Le W W1 → tz D σ W1.H) : tSeq (tIfS tt tx tNext) tz D σ W.H := s_if (D := { D with nx := tz D }) h h1 h2
theorem s_when {b : Bool} (h : EvB tt σ W b) (h1 : b = true → ∀ W1 : Wd F, Le W W1 → tx D σ W1.H) (h2 : b = false → ∀ W1 : Wd F, Le W W1 → D.nx σ W1.H) : tIfS tt tx tNext D σ W.H := s_if h h1 h2
theorem q_ifN {P : Bool → Prop} (h : EvBN tt σ W P) (h1 : P true → ∀ W1 : Wd F, Le W W1 → tx { D with nx := tz D } σ W1.H) (h2 : P false → ∀ W1 : Wd F, Le W W1 → ty { D with nx := tz D } σ W1.H) : tSeq (tIfS tt tx ty) tz D σ W.H := h W (Le.refl _) _ fun W1 b l hb => by
  cases b with
  | true => exact iteT (h1 hb W1 l)
  | false => exact iteF (h2 hb W1 l)
theorem q_drop {x : α} (h : EvR te σ W r x) (k : ∀ (W1 : Wd F), Le W W1 → tz D σ W1.H) : tSeq (tDrop te) tz D σ W.H := h W (Le.refl _) _ fun v W1 l hv => k W1 l
theorem s_app {i : Nat} {p : Addr} {xs : List α} {x : α} (hi : σ[i]? = some (some (.ref p))) (o : OwnL W p r xs) (h : EvR te σ W r x) (hz : xs.length < 100000)
    (k : ∀ (W1 : Wd F), Kp p W W1 → OwnL W1 p r (xs ++ [x]) → D.nx σ W1.H) : tDrop (tBM K "list" rAppend (tVar i) (tCons te tNil)) D σ W.H := by
  obtain ⟨vs, h1, h2⟩ := o.ex
  refine ⟨_, hi, .inl ⟨rfl, _, sqL_of (Ex.refl _) h1.h⟩, h W (Le.refl _) _ fun v W1 l hv => ⟨p, vs, v, rfl, rfl, (h1.up l).h, by rw [h2.1]; exact Nat.lt_of_lt_of_le hz (by decide), ?_⟩⟩
  have o1 := h1.up l
  exact k (W1.put p (.lst (vs ++ [v])) o1.z o1.g) ⟨l.ex, fun q u ne x => (x.up l).put ne _ _⟩ ⟨_, W1.put_at o1.z o1.g, (h2.imp fun _ _ => r.mono l.ex).snoc hv⟩
theorem q_app {i : Nat} {p : Addr} {xs : List α} {x : α} (hi : σ[i]? = some (some (.ref p))) (o : OwnL W p r xs) (h : EvR te σ W r x) (hz : xs.length < 100000)
    (k : ∀ (W1 : Wd F), Kp p W W1 → OwnL W1 p r (xs ++ [x]) → tz D σ W1.H) : tSeq (tDrop (tBM K "list" rAppend (tVar i) (tCons te tNil))) tz D σ W.H := s_app (D := { D with nx := tz D }) hi o h hz k
/-- a plain int += -/
theorem q_augI {i : Nat} {f : Int → Int → Int} {a b : Int} (hx : σ[i]? = some (some (.int a))) (h : EvR te σ W rInt b) (k : ∀ W1 : Wd F, Le W W1 → tz D (σ.set i (some (.int (f a b)))) W1.H) : tSeq (tAug i te (ipI f)) tz D σ W.H :=
  ⟨_, hx, h W (Le.refl _) _ fun v W1 l hv => ⟨a, b, rfl, hv, k W1 l⟩⟩
theorem s_augI {i : Nat} {f : Int → Int → Int} {a b : Int} (hx : σ[i]? = some (some (.int a))) (h : EvR te σ W rInt b) (k : ∀ W1 : Wd F, Le W W1 → D.nx (σ.set i (some (.int (f a b)))) W1.H) : tAug i te (ipI f) D σ W.H :=
  ⟨_, hx, h W (Le.refl _) _ fun v W1 l hv => ⟨a, b, rfl, hv, k W1 l⟩⟩

/-! ### loops -/
/-- what a turn must reach: a world later than W -/
def Nx (W : Wd F) (P : L2.St → Wd F → Prop) : L2.St → Hp → Prop := fun σ H => ∃ W1 : Wd F, W1.H = H ∧ Wk W W1 ∧ P σ W1
theorem Nx.mk {P : L2.St → Wd F → Prop} (l : Wk W W1) (h : P σ W1) : Nx W P σ W1.H := ⟨W1, rfl, l, h⟩
/-- the shape of a loop from W on: its word, the turn, the end -/
def LoopL (W : Wd F) (r : Rp α) (xs : List α) (g : TG) (tx : TS) (D : Ends) (nx : L2.St → Hp → Prop) (σ : L2.St) : Prop := ∃ P : Nat → L2.St → Wd F → Prop, P 0 σ W ∧
    (∀ i x v σ' (W1 : Wd F), Wk W W1 → xs[i]? = some x → r.rel W1.G v x → P i σ' W1 → g v σ' W1.H fun σ2 H2 => tx { D with nx := Nx W (P (i + 1)), ct := Nx W (P (i + 1)), bk := nx } σ2 H2) ∧
    (∀ σ' (W1 : Wd F), Wk W W1 → P xs.length σ' W1 → nx σ' W1.H)
theorem s_forL {xs : List α} {g : TG} (h : EvR tl σ W (rList r) xs) (k : ∀ W1 : Wd F, Le W W1 → LoopL W1 r xs g tx D D.nx σ) : tFor (iList K tl) g tx D σ W.H := by
  refine h W (Le.refl _) _ fun v W1 l hv => ?_
  obtain ⟨a, vs, rfl, h1, h2⟩ := hv
  obtain ⟨P, h0, hs, hd⟩ := k W1 l
  refine ⟨a, rfl, ⟨vs, sqL_of W1.gh h1⟩, for_list (K := K) (a := a) (xs := vs) (fun i => Nx W1 (P i)) ⟨W1, rfl, Wk.refl _, h0⟩ ?_ ?_ ?_⟩
  · rintro i σ' _ _ ⟨W2, rfl, l2, _⟩
    exact sqL_of W2.gh (l2.ex _ _ h1)
  · rintro i y σ' _ hi ⟨W2, rfl, l2, p⟩
    obtain ⟨x, hx, hr⟩ := h2.getv hi
    exact hs i x y σ' W2 l2 hx (r.mono l2.ex hr) p
  · rintro σ' _ ⟨W2, rfl, l2, p⟩
    rw [h2.1] at p
    exact hd σ' W2 l2 p
theorem q_forL {xs : List α} {g : TG} (h : EvR tl σ W (rList r) xs) (k : ∀ W1 : Wd F, Le W W1 → LoopL W1 r xs g tx D (tz D) σ) : tSeq (tFor (iList K tl) g tx) tz D σ W.H := s_forL (D := { D with nx := tz D }) h k
theorem s_forT {xs : List α} {g : TG} (h : EvR tl σ W (rTup r) xs) (k : ∀ W1 : Wd F, Le W W1 → LoopL W1 r xs g tx D D.nx σ) : tFor (iTup K tl) g tx D σ W.H := by
  refine h W (Le.refl _) _ fun v W1 l hv => ?_
  obtain ⟨a, vs, rfl, h1, h2⟩ := hv
  obtain ⟨P, h0, hs, hd⟩ := k W1 l
  refine ⟨a, rfl, ⟨vs, sqT_of W1.gh h1⟩, for_tup (K := K) (a := a) (xs := vs) (fun i => Nx W1 (P i)) ⟨W1, rfl, Wk.refl _, h0⟩ ?_ ?_ ?_⟩
  · rintro i σ' _ _ ⟨W2, rfl, l2, _⟩
    exact sqT_of W2.gh (l2.ex _ _ h1)
  · rintro i y σ' _ hi ⟨W2, rfl, l2, p⟩
    obtain ⟨x, hx, hr⟩ := h2.getv hi
    exact hs i x y σ' W2 l2 hx (r.mono l2.ex hr) p
  · rintro σ' _ ⟨W2, rfl, l2, p⟩
    rw [h2.1] at p
    exact hd σ' W2 l2 p
/-- over range(n) -/
def LoopR (W : Wd F) (n : Int) (g : TG) (tx : TS) (D : Ends) (nx : L2.St → Hp → Prop) (σ : L2.St) : Prop := ∃ P : Nat → L2.St → Wd F → Prop, P 0 σ W ∧
    (∀ (i : Nat) σ' (W1 : Wd F), Wk W W1 → (i : Int) < n → P i σ' W1 → g (.int (i : Int)) σ' W1.H fun σ2 H2 => tx { D with nx := Nx W (P (i + 1)), ct := Nx W (P (i + 1)), bk := nx } σ2 H2) ∧
    (∀ σ' (W1 : Wd F), Wk W W1 → P n.toNat σ' W1 → nx σ' W1.H)
theorem s_forRN {g : TG} {B : Int → Prop} (h : EvN ta σ W rInt B) (hb : ∀ n, B n → -1000000 ≤ n ∧ n ≤ 1000000) (k : ∀ (W1 : Wd F) n, Le W W1 → B n → LoopR W1 n g tx D D.nx σ) : tFor (iRng1 (tCons ta tNil)) g tx D σ W.H := by
  refine h W (Le.refl _) _ fun v W1 n l hv hn => ?_
  have hv : v = .int n := hv
  subst hv
  obtain ⟨P, h0, hs, hd⟩ := k W1 n l hn
  have := hb n hn
  refine ⟨n, rfl, by omega, by omega, for_range (lo := 0) (n := n.toNat) (fun i => Nx W1 (P i)) ⟨W1, rfl, Wk.refl _, h0⟩ ?_ ?_⟩
  · rintro i σ' _ hi ⟨W2, rfl, l2, p⟩
    rw [Int.zero_add]
    exact hs i σ' W2 l2 (by omega) p
  · rintro σ' _ ⟨W2, rfl, l2, p⟩
    exact hd σ' W2 l2 p
theorem s_forR {g : TG} {n : Int} (h : EvR ta σ W rInt n) (hb : -1000000 ≤ n ∧ n ≤ 1000000) (k : ∀ W1 : Wd F, Le W W1 → LoopR W1 n g tx D D.nx σ) : tFor (iRng1 (tCons ta tNil)) g tx D σ W.H :=
  s_forRN h.n (fun m e => by subst e; exact hb) fun W1 m l e => by subst e; exact k W1 l
theorem q_forRN {g : TG} {B : Int → Prop} (h : EvN ta σ W rInt B) (hb : ∀ n, B n → -1000000 ≤ n ∧ n ≤ 1000000) (k : ∀ (W1 : Wd F) n, Le W W1 → B n → LoopR W1 n g tx D (tz D) σ) : tSeq (tFor (iRng1 (tCons ta tNil)) g tx) tz D σ W.H := s_forRN (D := { D with nx := tz D }) h hb k
theorem q_forR {g : TG} {n : Int} (h : EvR ta σ W rInt n) (hb : -1000000 ≤ n ∧ n ≤ 1000000) (k : ∀ W1 : Wd F, Le W W1 → LoopR W1 n g tx D (tz D) σ) : tSeq (tFor (iRng1 (tCons ta tNil)) g tx) tz D σ W.H := s_forR (D := { D with nx := tz D }) h hb k
/-- for i, target in enumerate(xs) -/
def LoopE (W : Wd F) (r : Rp α) (xs : List α) (j : Nat) (g : TG) (tx : TS) (D : Ends) (nx : L2.St → Hp → Prop) (σ : L2.St) : Prop := ∃ P : Nat → L2.St → Wd F → Prop, P 0 σ W ∧
    (∀ (m : Nat) x v σ' (W1 W2 : Wd F), Wk W W1 → Le W1 W2 → xs[m]? = some x → r.rel W2.G v x → P m σ' W1 → g v (σ'.set j (some (.int (m : Int)))) W2.H fun σ2 H2 => tx { D with nx := Nx W (P (m + 1)), ct := Nx W (P (m + 1)), bk := nx } σ2 H2) ∧
    (∀ σ' (W1 : Wd F), Wk W W1 → P xs.length σ' W1 → nx σ' W1.H)
theorem s_forE {xs : List α} {j : Nat} {g : TG} (h : EvR ta σ W (rList r) xs) (k : ∀ W1 : Wd F, Le W W1 → LoopE W1 r xs j g tx D D.nx σ) : tFor (iEnum K (tCons ta tNil)) (gTup K 2 (gCons (gName j) (gCons g gNil))) tx D σ W.H := by
  refine h W (Le.refl _) _ fun v W1 l hv => ?_
  obtain ⟨a, vs, rfl, h1, h2⟩ := hv
  obtain ⟨P, h0, hs, hd⟩ := k W1 l
  refine ⟨a, vs, rfl, sqL_of W1.gh h1, fun m c σ' H' => c = vs.length - m ∧ m ≤ vs.length ∧ Nx W1 (P m) σ' H', ⟨_, rfl, Nat.zero_le _, W1, rfl, Wk.refl _, h0⟩, ?_⟩
  rintro m c σ' _ ⟨rfl, hm, W2, rfl, l2, p⟩
  by_cases hlt : m < vs.length
  · obtain ⟨x, hx, hr⟩ := h2.getv (List.getElem?_eq_getElem hlt)
    refine .inr ⟨⟨vs, vs[m], sqL_of W2.gh (l2.ex _ _ h1), by simp [hlt]⟩, Nx W1 (P (m + 1)), fun σ3 H3 p3 => ⟨vs.length - (m + 1), by omega, rfl, hlt, p3⟩, fun y H3 hy => ?_⟩
    obtain ⟨T, y', rfl, hN, rfl, q⟩ := hy
    have e := q vs (sqL_of W2.gh (l2.ex _ _ h1))
    have e2 : y' = vs[m] := by
      rw [List.getElem?_eq_getElem hlt] at e
      exact (Option.some.inj e).symm
    subst e2
    refine ⟨T, _, rfl, sqT_of (W2.add T _ hN).gh (W2.add_at hN), rfl, _, _, rfl, _, _, rfl, ?_⟩
    have z := hs m x _ σ' W2 (W2.add T (.tup [.int ((m : Nat) : Int), vs[m]]) hN) l2 (W2.add_le hN) hx (r.mono (W2.add_le hN).ex (r.mono l2.ex hr)) p
    have gg : ∀ {g : TG} {v : V} {σ : L2.St} {H : Hp} {A B : L2.St → Hp → Prop}, A = B → g v σ H A → g v σ H B := fun e h => e ▸ h
    exact gg (by funext σ2 H2; exact propext ⟨fun y => ⟨rfl, y⟩, fun y => y.2⟩) z
  · have e : m = vs.length := by omega
    subst e
    rw [h2.1] at p
    exact .inl ⟨⟨vs, sqL_of W2.gh (l2.ex _ _ h1), Nat.le_refl _⟩, hd σ' W2 l2 p⟩
theorem q_forE {xs : List α} {j : Nat} {g : TG} (h : EvR ta σ W (rList r) xs) (k : ∀ W1 : Wd F, Le W W1 → LoopE W1 r xs j g tx D (tz D) σ) : tSeq (tFor (iEnum K (tCons ta tNil)) (gTup K 2 (gCons (gName j) (gCons g gNil))) tx) tz D σ W.H := s_forE (D := { D with nx := tz D }) h k
/-- while -/
theorem s_while (P : Nat → L2.St → Wd F → Prop) {m0 : Nat} (h0 : P m0 σ W)
    (hs : ∀ m σ' (W1 : Wd F), Wk W W1 → P m σ' W1 → ∃ b, EvB tt σ' W1 b ∧ (b = true → ∀ W2 : Wd F, Le W1 W2 → tx { D with nx := Nx W (fun σ3 W3 => ∃ m', m' < m ∧ P m' σ3 W3), ct := Nx W (fun σ3 W3 => ∃ m', m' < m ∧ P m' σ3 W3), bk := D.nx } σ' W2.H) ∧ (b = false → ∀ W2 : Wd F, Le W1 W2 → D.nx σ' W2.H)) : tWhile tt tx D σ W.H := by
  refine ⟨fun m => Nx W (P m), ⟨m0, W, rfl, Wk.refl _, h0⟩, ?_⟩
  rintro m σ' _ ⟨W1, rfl, l, p⟩
  obtain ⟨b, hb, h1, h2⟩ := hs m σ' W1 l p
  refine hb W1 (Le.refl _) _ fun W2 l2 => ?_
  cases b with
  | true => exact ⟨_, fun σ3 H3 ⟨W3, e, l3, m', hm, p3⟩ => ⟨m', hm, W3, e, l3, p3⟩, h1 rfl W2 l2⟩
  | false => exact h2 rfl W2 l2
theorem q_while (P : Nat → L2.St → Wd F → Prop) {m0 : Nat} (h0 : P m0 σ W)
    (hs : ∀ m σ' (W1 : Wd F), Wk W W1 → P m σ' W1 → ∃ b, EvB tt σ' W1 b ∧ (b = true → ∀ W2 : Wd F, Le W1 W2 → tx { D with nx := Nx W (fun σ3 W3 => ∃ m', m' < m ∧ P m' σ3 W3), ct := Nx W (fun σ3 W3 => ∃ m', m' < m ∧ P m' σ3 W3), bk := tz D } σ' W2.H) ∧ (b = false → ∀ W2 : Wd F, Le W1 W2 → tz D σ' W2.H)) : tSeq (tWhile tt tx) tz D σ W.H := s_while (D := { D with nx := tz D }) P h0 hs

/-! ### comprehensions -/
/-- one turn: nothing, or an item -/
def EvC (tt : TT) (te : TE) (σ : L2.St) (W : Wd F) (s : Rp β) (R : Option β → Prop) : Prop := ∀ W1 : Wd F, Le W W1 → ∀ Q : Option V → Hp → Prop,
  (∀ v (W2 : Wd F) y, Le W1 W2 → s.rel W2.G v y → R (some y) → Q (some v) W2.H) → (∀ W2 : Wd F, Le W1 W2 → R none → Q none W2.H) → tt σ W1.H fun b H3 => if b = true then te σ H3 fun v H4 => Q (some v) H4 else Q none H3
theorem EvC.mk {b : Bool} {y : β} (h1 : EvB tt σ W b) (h2 : b = true → EvR te σ W s y) : EvC tt te σ W s (· = if b then some y else none) := fun W1 l Q q1 q2 => h1 W1 l _ fun W2 l2 => by
  cases b with
  | true => exact iteT (h2 rfl W2 (l.trans l2) _ fun v W3 l3 hv => q1 v W3 y (l2.trans l3) hv rfl)
  | false => exact iteF (q2 W2 l2 rfl)
theorem EvC.all {P : β → Prop} (h2 : EvN te σ W s P) : EvC tYes te σ W s (fun o => ∃ y, o = some y ∧ P y) := fun W1 l Q q1 q2 => by
  show (if true = true then te σ W1.H (fun v H4 => Q (some v) H4) else Q none W1.H)
  exact iteT (h2 W1 l _ fun v W3 y l3 hv hy => q1 v W3 y l3 hv ⟨y, rfl, hy⟩)
theorem EvC.sel {y : β} {P : Bool → Prop} (h1 : EvBN tt σ W P) (h2 : EvR te σ W s y) : EvC tt te σ W s (fun o => (o = some y ∧ P true) ∨ (o = none ∧ P false)) := fun W1 l Q q1 q2 => h1 W1 l _ fun W2 b l2 hb => by
  cases b with
  | true => exact iteT (h2 W2 (l.trans l2) _ fun v W3 l3 hv => q1 v W3 y (l2.trans l3) hv (.inl ⟨rfl, hb⟩))
  | false => exact iteF (q2 W2 l2 (.inr ⟨rfl, hb⟩))
theorem EvC.imp {R R' : Option β → Prop} (h : EvC tt te σ W s R) (k : ∀ o, R o → R' o) : EvC tt te σ W s R' := fun W1 l Q q1 q2 => h W1 l Q (fun v W2 y l2 hv hy => q1 v W2 y l2 hv (k _ hy)) (fun W2 l2 hy => q2 W2 l2 (k _ hy))
/-- what a comprehension over xs may give -/
def LcR (R : α → Option β → Prop) (xs : List α) (zs : List β) : Prop := ∃ os : List (Option β), os.length = xs.length ∧ (∀ (i : Nat) x o, xs[i]? = some x → os[i]? = some o → R x o) ∧ zs = os.filterMap id
/-- behind i turns -/
def Acc (W : Wd F) (p : Addr) (s : Rp β) (R : α → Option β → Prop) (xs : List α) (i : Nat) (H : Hp) : Prop :=
  ∃ (W1 : Wd F) (zs : List β), W1.H = H ∧ Le W W1 ∧ OwnL W1 p s zs ∧ zs.length ≤ i ∧ LcR R (xs.take i) zs
theorem lcr_len {R : α → Option β → Prop} {xs : List α} {zs : List β} (h : LcR R xs zs) : zs.length ≤ xs.length := by
  obtain ⟨os, h1, _, rfl⟩ := h
  rw [← h1]; exact List.length_filterMap_le _ _
theorem lcr_snoc {R : α → Option β → Prop} {xs : List α} {zs : List β} {i : Nat} {x : α} {o : Option β} (h : LcR R (xs.take i) zs) (hx : xs[i]? = some x) (ho : R x o) : LcR R (xs.take (i + 1)) (zs ++ o.toList) := by
  obtain ⟨os, h1, h2, rfl⟩ := h
  have hi : i < xs.length := (List.getElem?_eq_some_iff.mp hx).1
  have e : xs.take (i + 1) = xs.take i ++ [x] := by rw [List.take_add_one, hx]; rfl
  have l1 : (xs.take i).length = i := by rw [List.length_take]; omega
  refine ⟨os ++ [o], by rw [e, List.length_append, List.length_append, h1]; rfl, fun j y o' hy ho' => ?_, by cases o <;> simp⟩
  rw [e] at hy
  by_cases hj : j < i
  · rw [List.getElem?_append_left (by omega)] at hy
    rw [List.getElem?_append_left (by omega)] at ho'
    exact h2 j y o' hy ho'
  · rw [List.getElem?_append_right (by omega), l1] at hy
    rw [List.getElem?_append_right (by omega), h1, l1] at ho'
    have hz : j - i = 0 := by
      have := (List.getElem?_eq_some_iff.mp hy).1
      simp at this; omega
    rw [hz] at hy ho'
    cases hy; cases ho'
    exact ho
theorem acc_turn {p : Addr} {R : α → Option β → Prop} {xs : List α} {i : Nat} {x : α} {σ2 : L2.St} {W1 : Wd F} {zs : List β} (hf : W.H p = none) (l : Le W W1) (o : OwnL W1 p s zs) (hz : zs.length ≤ i) (hi : i < 15000001) (hl : LcR R (xs.take i) zs) (hx : xs[i]? = some x)
    (c : EvC tt te σ2 W s (R x)) : tt σ2 W1.H fun b H3 => if b = true then te σ2 H3 fun y H4 => ∃ acc, H4 p = some (.lst acc) ∧ acc.length < sizeLine ∧ Acc W p s R xs (i + 1) (upd H4 p (.lst (acc ++ [y]))) else Acc W p s R xs (i + 1) H3 := by
  refine c W1 l (fun o H => match o with | some y => ∃ acc, H p = some (.lst acc) ∧ acc.length < sizeLine ∧ Acc W p s R xs (i + 1) (upd H p (.lst (acc ++ [y]))) | none => Acc W p s R xs (i + 1) H) (fun v W2 y l2 hv hR => ?_) (fun W2 l2 hR => ?_)
  · obtain ⟨vs, h1, h2⟩ := (o.up l2).ex
    refine ⟨vs, h1.h, by rw [h2.1]; exact Nat.lt_of_lt_of_le (show zs.length < 16000000 by omega) (by decide), W2.put p (.lst (vs ++ [v])) h1.z h1.g, zs ++ [y], rfl, le_put (l.trans l2) hf _ _, ⟨_, W2.put_at h1.z h1.g, h2.snoc hv⟩, by simp; omega, ?_⟩
    exact lcr_snoc hl hx hR
  · refine ⟨W2, zs, rfl, l.trans l2, o.up l2, by omega, ?_⟩
    have z := lcr_snoc hl hx hR
    simpa using z
theorem eon_lcL {xs : List α} {j : Nat} {ws : List Nat} {R : α → Option β → Prop} (h : EvR tl σ W (rList r) xs) (hz : xs.length ≤ 15000000) (hw : ∀ x, wipe ((wipe σ ws).set j (some x)) ws = wipe σ ws)
    (c : ∀ (i : Nat) x v (W1 : Wd F), Le W W1 → xs[i]? = some x → r.rel W1.G v x → EvC tt te ((wipe σ ws).set j (some v)) W1 s (R x)) : EvON (tLc (iList K tl) (gName j) tt te ws) σ W s (LcR R xs) := fun W1 l Q q => by
  refine h W1 l _ fun v W2 l2 hv => ?_
  obtain ⟨a, vs, rfl, h1, h2⟩ := hv
  refine ⟨a, rfl, ⟨vs, sqL_of W2.gh h1⟩, fun p hp => lc_list (K := K) (a := a) (xs := vs) (Acc W2 p s R xs) ⟨W2.own p _ hp, [], rfl, W2.own_le hp, ⟨[], W2.own_at hp, All2.nil⟩, Nat.le_refl _, [], by simp, fun i x o hx => by simp at hx, rfl⟩ ?_ ?_ ?_⟩
  · rintro i _ _ ⟨W3, zs, rfl, l3, _⟩
    exact sqL_of W3.gh (l3.ex _ _ h1)
  · rintro i y _ hi ⟨W3, zs, rfl, l3, o, hzs, hl⟩
    obtain ⟨x, hx, hr⟩ := h2.getv hi
    have hi' := (List.getElem?_eq_some_iff.mp hx).1
    exact ⟨hw y, acc_turn hp l3 o hzs (by omega) hl hx (c i x y W2 (l.trans l2) hx hr)⟩
  · rintro _ ⟨W3, zs, rfl, l3, o, hzs, hl⟩
    rw [h2.1, List.take_length] at hl
    obtain ⟨ys, o1, o2⟩ := o.ex
    exact q p ys W3 zs (l2.trans l3) (le_fresh l2 hp) o1 o2 hl
theorem eon_lcR {n : Int} {j : Nat} {ws : List Nat} {R : Int → Option β → Prop} (h : EvR ta σ W rInt n) (hb : n ≤ 40000 ∧ -100000 ≤ n) (hw : ∀ x, wipe ((wipe σ ws).set j (some x)) ws = wipe σ ws)
    (c : ∀ (x : Int) (W1 : Wd F), Le W W1 → 0 ≤ x → x < n → EvC tt te ((wipe σ ws).set j (some (.int x))) W1 s (R x)) : EvON (tLc (iRng1 (tCons ta tNil)) (gName j) tt te ws) σ W s (LcR R (rg n)) := fun W1 l Q q => by
  refine h W1 l _ fun v W2 l2 hv => ?_
  refine ⟨n, by rw [show v = .int n from hv], by omega, by omega, fun p hp => lc_range (lo := 0) (n := n.toNat) (Acc W2 p s R (rg n)) ⟨W2.own p _ hp, [], rfl, W2.own_le hp, ⟨[], W2.own_at hp, All2.nil⟩, Nat.le_refl _, [], by simp, fun i x o hx => by simp at hx, rfl⟩ ?_ ?_⟩
  · rintro i _ hi ⟨W3, zs, rfl, l3, o, hzs, hl⟩
    rw [Int.zero_add]
    exact ⟨hw _, acc_turn hp l3 o hzs (by omega) hl (rg_get.mpr ⟨hi, rfl⟩) (c i W2 (l.trans l2) (by omega) (by omega))⟩
  · rintro _ ⟨W3, zs, rfl, l3, o, hzs, hl⟩
    have e : (rg n).take n.toNat = rg n := by rw [List.take_of_length_le (by rw [rg_len]; exact Nat.le_refl _)]
    rw [e] at hl
    obtain ⟨ys, o1, o2⟩ := o.ex
    exact q p ys W3 zs (l2.trans l3) (le_fresh l2 hp) o1 o2 hl
theorem lcr_fm {f : α → Bool} {g : α → β} {xs : List α} {zs : List β} (h : LcR (fun x o => o = if f x then some (g x) else none) xs zs) : zs = (xs.filter f).map g := by
  obtain ⟨os, h1, h2, rfl⟩ := h
  have e : os = xs.map fun x => if f x then some (g x) else none := by
    apply List.ext_getElem?
    intro i
    rw [List.getElem?_map]
    cases hx : xs[i]? with
    | none =>
      have : xs.length ≤ i := List.getElem?_eq_none_iff.mp hx
      exact List.getElem?_eq_none (by omega)
    | some x =>
      have hi := (List.getElem?_eq_some_iff.mp hx).1
      have hi' : i < os.length := by omega
      have := h2 i x os[i] hx (List.getElem?_eq_getElem hi')
      rw [List.getElem?_eq_getElem hi', this]; rfl
  subst e
  clear h1 h2
  induction xs with
  | nil => rfl
  | cons x xs ih =>
    rw [List.map_cons, List.filterMap_cons, List.filter_cons]
    by_cases hf : f x = true
    · simp [hf] at ih ⊢; exact ih
    · simp [hf] at ih ⊢; exact ih
theorem eo_lcL {xs : List α} {j : Nat} {ws : List Nat} (f : α → Bool) (g : α → β) (h : EvR tl σ W (rList r) xs) (hz : xs.length ≤ 15000000) (hw : ∀ x, wipe ((wipe σ ws).set j (some x)) ws = wipe σ ws)
    (c1 : ∀ (i : Nat) x v (W1 : Wd F), Le W W1 → xs[i]? = some x → r.rel W1.G v x → EvB tt ((wipe σ ws).set j (some v)) W1 (f x))
    (c2 : ∀ (i : Nat) x v (W1 : Wd F), Le W W1 → xs[i]? = some x → r.rel W1.G v x → f x = true → EvR te ((wipe σ ws).set j (some v)) W1 s (g x)) : EvO (tLc (iList K tl) (gName j) tt te ws) σ W s ((xs.filter f).map g) := fun W1 l Q q =>
  eon_lcL (R := fun x o => o = if f x then some (g x) else none) h hz hw (fun i x v W1 l hx hr => EvC.mk (c1 i x v W1 l hx hr) (c2 i x v W1 l hx hr)) W1 l Q fun p vs W2 zs l2 hp o a hl => q p vs W2 l2 hp o (lcr_fm hl ▸ a)
theorem eo_lcR {n : Int} {j : Nat} {ws : List Nat} (f : Int → Bool) (g : Int → β) (h : EvR ta σ W rInt n) (hb : n ≤ 40000 ∧ -100000 ≤ n) (hw : ∀ x, wipe ((wipe σ ws).set j (some x)) ws = wipe σ ws)
    (c1 : ∀ (x : Int) (W1 : Wd F), Le W W1 → 0 ≤ x → x < n → EvB tt ((wipe σ ws).set j (some (.int x))) W1 (f x))
    (c2 : ∀ (x : Int) (W1 : Wd F), Le W W1 → 0 ≤ x → x < n → f x = true → EvR te ((wipe σ ws).set j (some (.int x))) W1 s (g x)) : EvO (tLc (iRng1 (tCons ta tNil)) (gName j) tt te ws) σ W s (((rg n).filter f).map g) := fun W1 l Q q =>
  eon_lcR (R := fun x o => o = if f x then some (g x) else none) h hb hw (fun x W1 l h1 h2 => EvC.mk (c1 x W1 l h1 h2) (c2 x W1 l h1 h2)) W1 l Q fun p vs W2 zs l2 hp o a hl => q p vs W2 l2 hp o (lcr_fm hl ▸ a)

/-! ### calls -/
def Fn1 (r : Rp α) (s : Rp β) (pre : α → Prop) (f : α → β) : Sp := fun vs H Q _ => ∃ G v x, vs = [v] ∧ Ex G H ∧ r.rel G v x ∧ pre x ∧ ∀ u (W : Wd (pF G H)), s.rel W.G u (f x) → Q u W.H
def Fn2 (r : Rp α) (s : Rp β) (t : Rp γ) (pre : α → β → Prop) (f : α → β → γ) : Sp := fun vs H Q _ => ∃ G v w x y, vs = [v, w] ∧ Ex G H ∧ r.rel G v x ∧ s.rel G w y ∧ pre x y ∧ ∀ u (W : Wd (pF G H)), t.rel W.G u (f x y) → Q u W.H
def Fn3 (r : Rp α) (s : Rp β) (t : Rp γ) (q : Rp δ) (pre : α → β → γ → Prop) (f : α → β → γ → δ) : Sp := fun vs H Q _ => ∃ G v w y a b c, vs = [v, w, y] ∧ Ex G H ∧ r.rel G v a ∧ s.rel G w b ∧ t.rel G y c ∧ pre a b c ∧ ∀ u (W : Wd (pF G H)), q.rel W.G u (f a b c) → Q u W.H
theorem ev_call1 {pre : α → Prop} {f : α → β} {E : XK} {x : α} (ha : EvR ta σ W r x) (hp : pre x) : EvR (tCall (Fn1 r s pre f) [] E (tCons ta tNil)) σ W s (f x) := fun W1 l Q q =>
  ha W1 l _ fun v W2 l2 hv => ⟨W2.G, v, x, rfl, W2.gh, hv, hp, fun u W3 hu => q u (W2.back W3) (l2.trans (W2.back_le W3)) hu⟩
theorem ev_call2 {pre : α → β → Prop} {f : α → β → γ} {E : XK} {x : α} {y : β} (ha : EvR ta σ W r x) (hb : EvR tb σ W s y) (hp : pre x y) : EvR (tCall (Fn2 r s t pre f) [] E (tCons ta (tCons tb tNil))) σ W t (f x y) := fun W1 l Q q =>
  ha W1 l _ fun v W2 l2 hv => hb W2 (l.trans l2) _ fun w W3 l3 hw => ⟨W3.G, v, w, x, y, rfl, W3.gh, r.mono l3.ex hv, hw, hp, fun u W4 hu => q u (W3.back W4) ((l2.trans l3).trans (W3.back_le W4)) hu⟩
theorem ev_call3 {q : Rp δ} {pre : α → β → γ → Prop} {f : α → β → γ → δ} {E : XK} {x : α} {y : β} {z : γ} (ha : EvR ta σ W r x) (hb : EvR tb σ W s y) (hc : EvR tc σ W t z) (hp : pre x y z) : EvR (tCall (Fn3 r s t q pre f) [] E (tCons ta (tCons tb (tCons tc tNil)))) σ W q (f x y z) := fun W1 l Q k =>
  ha W1 l _ fun v W2 l2 hv => hb W2 (l.trans l2) _ fun w W3 l3 hw => hc W3 ((l.trans l2).trans l3) _ fun u W4 l4 hu => ⟨W4.G, v, w, u, x, y, z, rfl, W4.gh, r.mono (l3.ex.trans l4.ex) hv, s.mono l4.ex hw, hu, hp, fun u W5 h5 => k u (W4.back W5) (((l2.trans l3).trans l4).trans (W4.back_le W5)) h5⟩
end
end Q

namespace Q
open PySem L2
/-! ### operators that look at what they get -/
section
variable {X : Cx}
abbrev oStrs : R2 := fun x y H Q => ∃ i j, x = .str i ∧ y = .str j ∧ i.length + j.length ≤ sizeLine ∧ Q (.str (i ++ j)) H
def oAddA : R2 := fun x y H Q => oAdd x y H Q ∨ (rCat x y H Q ∨ oStrs x y H Q)
theorem op_addA : OpR X (binaryOp .Add) oAddA := op_add.or (op_cat.or op_add_str)
def oMulA : R2 := fun x y H Q => oMul x y H Q ∨ rRep x y H Q
theorem op_mulA : OpR X (binaryOp .Mult) oMulA := op_mul.or op_rep
def oEqA (K : PySem.W.Frag) : R2 := fun x y H Q => rEq x y H Q ∨ rEqD K x y H Q
theorem op_eqA (hu : X.A.units + 64 < cLine) : OpR X (compareOp .Eq) (oEqA X.K) := op_eq.or (op_eqD hu)
def oNeA (K : PySem.W.Frag) : R2 := fun x y H Q => rNe x y H Q ∨ rNeD K x y H Q
theorem op_neA (hu : X.A.units + 64 < cLine) : OpR X (compareOp .NotEq) (oNeA X.K) := op_ne.or (op_neD hu)
def oLenA (K : PySem.W.Frag) : List V → Hp → VK → Prop := fun xs H Q => oLen K xs H Q ∨ ∃ a kvs, xs = [V.ref a] ∧ H a = some (.dK kvs) ∧ Q (.int kvs.length) H
theorem call_lenA : CallR X (.builtin "len") (oLenA X.K) := call_len_seq.or call_lenD
end
section
variable {F : Fr} {K : PySem.W.Frag} {σ : L2.St} {W W1 : Wd F} {ta tb te tc tl : TE} {tt tu : TT} {α β γ δ : Type} {r : Rp α} {s : Rp β} {t : Rp γ} {D : Ends} {tz tx ty : TS}
theorem ev_addA {x y : Int} (ha : EvR ta σ W rInt x) (hb : EvR tb σ W rInt y) : EvR (tOp oAddA ta tb) σ W rInt (x + y) :=
  ev_op ha hb fun W1 v w Q l hv hw q => .inl ⟨x, y, hv, hw, q _ W1 (Le.refl _) rfl⟩
theorem ev_addN {P P' R : Int → Prop} (ha : EvN ta σ W rInt P) (hb : EvN tb σ W rInt P') (hR : ∀ x y, P x → P' y → R (x + y)) : EvN (tOp oAddA ta tb) σ W rInt R :=
  ev_opN ha hb fun W1 v w x y Q l hv hw hx hy q => .inl ⟨x, y, hv, hw, q _ W1 (x + y) (Le.refl _) rfl (hR x y hx hy)⟩
theorem ev_modN {P P' R : Int → Prop} (ha : EvN ta σ W rInt P) (hb : EvN tb σ W rInt P') (hC : ∀ x y, P x → P' y → 0 < y) (hR : ∀ x y, P x → P' y → R (x % y)) : EvN (tOp oMod ta tb) σ W rInt R := ev_IN (f := fun i j => i % j) ha hb hC hR fun _ _ => rfl
theorem ev_mulA {x y : Int} (ha : EvR ta σ W rInt x) (hb : EvR tb σ W rInt y) (hc : CMul x y) : EvR (tOp oMulA ta tb) σ W rInt (x * y) :=
  ev_op ha hb fun W1 v w Q l hv hw q => .inl ⟨x, y, hv, hw, hc, q _ W1 (Le.refl _) rfl⟩
theorem eo_catA {xs ys : List α} (ha : EvR ta σ W (rList r) xs) (hb : EvR tb σ W (rList r) ys) (hz : xs.length + ys.length ≤ 100000) : EvO (tOp oAddA ta tb) σ W r (xs ++ ys) := fun W1 l Q q =>
  ha W1 l _ fun v W2 l2 hv => hb W2 (l.trans l2) _ fun w W3 l3 hw => by
    obtain ⟨a, vs, rfl, h1, h2⟩ := hv
    obtain ⟨b, ws, rfl, h3, h4⟩ := hw
    have h2' := h2.imp fun _ _ => r.mono l3.ex
    exact .inr (.inl ⟨a, b, vs, ws, rfl, rfl, W3.gh _ _ (l3.ex _ _ h1), W3.gh _ _ h3, by rw [h2.1, h4.1]; exact Nat.le_trans hz (by decide), fun p hp =>
      q p _ (W3.own p _ hp) ((l2.trans l3).trans (W3.own_le hp)) (le_fresh (l2.trans l3) hp) (W3.own_at hp) (h2'.append h4)⟩)
theorem eon_catA {P P' : List α → Prop} (ha : EvN ta σ W (rList r) P) (hb : EvN tb σ W (rList r) P') (hz : ∀ xs ys, P xs → P' ys → xs.length + ys.length ≤ 100000) : EvON (tOp oAddA ta tb) σ W r (fun zs => ∃ xs ys, P xs ∧ P' ys ∧ zs = xs ++ ys) := fun W1 l Q q =>
  ha W1 l _ fun v W2 xs l2 hv hx => hb W2 (l.trans l2) _ fun w W3 ys l3 hw hy => by
    obtain ⟨a, vs, rfl, h1, h2⟩ := hv
    obtain ⟨b, ws, rfl, h3, h4⟩ := hw
    have h2' := h2.imp fun _ _ => r.mono l3.ex
    exact .inr (.inl ⟨a, b, vs, ws, rfl, rfl, W3.gh _ _ (l3.ex _ _ h1), W3.gh _ _ h3, by rw [h2.1, h4.1]; exact Nat.le_trans (hz xs ys hx hy) (by decide), fun p hp =>
      q p _ (W3.own p _ hp) (xs ++ ys) ((l2.trans l3).trans (W3.own_le hp)) (le_fresh (l2.trans l3) hp) (W3.own_at hp) (h2'.append h4) ⟨xs, ys, hx, hy, rfl⟩⟩)
theorem ev_eqA [DecidableEq α] {x y : α} (f : Fl r) (ha : EvR ta σ W r x) (hb : EvR tb σ W r y) : EvR (tOp (oEqA K) ta tb) σ W rBool (decide (x = y)) :=
  ev_op ha hb fun W1 v w Q l hv hw q => by
    obtain ⟨h1, h2⟩ := f _ _ _ _ _ _ hv hw
    refine .inl ⟨h1, ?_⟩
    rw [show decide (v = w) = decide (x = y) from decide_eq_decide.mpr h2]
    exact q _ W1 (Le.refl _) rfl
theorem ev_neA [DecidableEq α] {x y : α} (f : Fl r) (ha : EvR ta σ W r x) (hb : EvR tb σ W r y) : EvR (tOp (oNeA K) ta tb) σ W rBool (!decide (x = y)) :=
  ev_op ha hb fun W1 v w Q l hv hw q => by
    obtain ⟨h1, h2⟩ := f _ _ _ _ _ _ hv hw
    refine .inl ⟨h1, ?_⟩
    rw [show decide (v = w) = decide (x = y) from decide_eq_decide.mpr h2]
    exact q _ W1 (Le.refl _) rfl
/-- data, to be compared at any depth -/
structure Dt (r : Rp α) where
  d : α → PyData
  sh : ∀ x, SeqAt.shaped (d x) = true
  dp : ∀ K G H v x, Ex G H → r.rel G v x → Dp K H v (d x)
  eq : ∀ x y, PyData.eqv (d x) (d y) = true ↔ x = y
theorem ev_eqD [DecidableEq α] {x y : α} (f : Dt r) (ha : EvR ta σ W r x) (hb : EvR tb σ W r y) : EvR (tOp (oEqA K) ta tb) σ W rBool (decide (x = y)) :=
  ev_op ha hb fun W1 v w Q l hv hw q => by
    refine .inr ⟨f.d x, f.d y, f.dp K _ _ _ _ W1.gh hv, f.dp K _ _ _ _ W1.gh hw, f.sh _, f.sh _, ?_⟩
    have e : PyData.eqv (f.d x) (f.d y) = decide (x = y) := by
      have := f.eq x y
      by_cases h : x = y
      · simp [h, (f.eq y y).mpr rfl]
      · simp only [h, iff_false, Bool.not_eq_true] at this
        simp [h, this]
    rw [e]
    exact q _ W1 (Le.refl _) rfl
theorem ev_neD [DecidableEq α] {x y : α} (f : Dt r) (ha : EvR ta σ W r x) (hb : EvR tb σ W r y) : EvR (tOp (oNeA K) ta tb) σ W rBool (!decide (x = y)) :=
  ev_op ha hb fun W1 v w Q l hv hw q => by
    refine .inr ⟨f.d x, f.d y, f.dp K _ _ _ _ W1.gh hv, f.dp K _ _ _ _ W1.gh hw, f.sh _, f.sh _, ?_⟩
    have e : PyData.eqv (f.d x) (f.d y) = decide (x = y) := by
      have := f.eq x y
      by_cases h : x = y
      · simp [h, (f.eq y y).mpr rfl]
      · simp only [h, iff_false, Bool.not_eq_true] at this
        simp [h, this]
    rw [e]
    exact q _ W1 (Le.refl _) rfl
theorem dpAll {K : PySem.W.Frag} {H : Hp} {R : V → α → Prop} {d : α → PyData} (h : ∀ v x, R v x → Dp K H v (d x)) : ∀ {vs : List V} {xs : List α}, All2 R vs xs → DpAll K H vs (xs.map d)
  | [], [], _ => .nil
  | v :: vs, x :: xs, a => .cons (h v x (a.get (i := 0) rfl rfl)) (dpAll h (a.drop 1))
  | [], x :: xs, a => by have := a.1; simp at this
  | v :: vs, [], a => by have := a.1; simp at this
theorem ev_lenA {xs : List α} (ha : EvR ta σ W (rList r) xs) : EvR (tCB (oLenA K) (tCons ta tNil)) σ W rInt (xs.length : Nat) := fun W1 l Q q => ha W1 l _ fun v W2 l2 hv => by
  obtain ⟨a, vs, rfl, h1, h2⟩ := hv
  exact .inl ⟨a, vs, rfl, .inl (sqL_of W2.gh h1), q _ W2 l2 (by rw [h2.1]; rfl)⟩
theorem ev_lenD {xs : List (Int × α)} (ha : EvR ta σ W (rDict r) xs) : EvR (tCB (oLenA K) (tCons ta tNil)) σ W rInt (xs.length : Nat) := fun W1 l Q q => ha W1 l _ fun v W2 l2 hv => by
  obtain ⟨a, vs, rfl, h1, h2⟩ := hv
  exact .inr ⟨a, vs, rfl, W2.gh _ _ h1, q _ W2 l2 (by rw [h2.1]; rfl)⟩

/-! ### dicts of int keys -/
def dlook (xs : List (Int × α)) (k : Int) : Option α := (xs.find? fun p => decide (p.1 = k)).map (·.2)
def dput (xs : List (Int × α)) (k : Int) (v : α) : List (Int × α) := if (xs.any fun p => decide (p.1 = k)) = true then xs.map (fun p => if p.1 = k then (p.1, v) else p) else xs ++ [(k, v)]
def ddrop (xs : List (Int × α)) (k : Int) : List (Int × α) := xs.filter fun p => decide (p.1 ≠ k)
theorem DictR.nil {G : Hp} : DictR r G [] [] := ⟨rfl, fun i x h => by simp at h⟩
theorem DictR.cons_iff {G : Hp} {k : Key} {v : V} {kvs : List (Key × V)} {x : Int × α} {xs : List (Int × α)} : DictR r G ((k, v) :: kvs) (x :: xs) ↔ (k = Sum.inl x.1 ∧ r.rel G v x.2 ∧ DictR r G kvs xs) := by
  constructor
  · intro h
    obtain ⟨v', h1, h2⟩ := h.2 0 x rfl
    have h1' : (k, v) = (Sum.inl x.1, v') := Option.some.inj h1
    injection h1' with e1 e2
    subst e2
    refine ⟨e1, h2, by have := h.1; simpa using this, fun i y hy => ?_⟩
    obtain ⟨u, h3, h4⟩ := h.2 (i + 1) y hy
    exact ⟨u, h3, h4⟩
  · rintro ⟨rfl, h2, h3⟩
    refine ⟨by simp [h3.1], fun i y hy => ?_⟩
    cases i with
    | zero => cases hy; exact ⟨v, rfl, h2⟩
    | succ i => exact h3.2 i y hy
theorem DictR.ind {G : Hp} {P : List (Key × V) → List (Int × α) → Prop} (h0 : P [] []) (h1 : ∀ v x kvs xs, r.rel G v x.2 → DictR r G kvs xs → P kvs xs → P ((Sum.inl x.1, v) :: kvs) (x :: xs)) : ∀ {kvs : List (Key × V)} {xs : List (Int × α)}, DictR r G kvs xs → P kvs xs
  | [], [], _ => h0
  | (k, v) :: kvs, x :: xs, h => by
    obtain ⟨rfl, h2, h3⟩ := DictR.cons_iff.mp h
    exact h1 v x kvs xs h2 h3 (DictR.ind h0 h1 h3)
  | [], x :: xs, h => by have := h.1; simp at this
  | p :: kvs, [], h => by have := h.1; simp at this
theorem DictR.look {G : Hp} {kvs : List (Key × V)} {xs : List (Int × α)} {k : Int} (h : DictR r G kvs xs) : (dlook xs k = none ∧ valV kvs (Sum.inl k : Key) = none) ∨ ∃ v x, dlook xs k = some x ∧ valV kvs (Sum.inl k : Key) = some v ∧ r.rel G v x := by
  refine DictR.ind (P := fun kvs xs => (dlook xs k = none ∧ valV kvs (Sum.inl k : Key) = none) ∨ ∃ v x, dlook xs k = some x ∧ valV kvs (Sum.inl k : Key) = some v ∧ r.rel G v x) (.inl ⟨rfl, rfl⟩) (fun v x kvs xs hr _ ih => ?_) h
  by_cases e : x.1 = k
  · refine .inr ⟨v, x.2, ?_, valV_pos (by simp [e]), hr⟩
    simp [dlook, List.find?_cons, e]
  · rw [valV_neg (show ¬ (Sum.inl x.1 : Key) = Sum.inl k from fun z => e (Sum.inl.inj z))]
    have : dlook (x :: xs) k = dlook xs k := by simp [dlook, List.find?_cons, e]
    rw [this]; exact ih
theorem DictR.any {G : Hp} {kvs : List (Key × V)} {xs : List (Int × α)} {k : Int} (h : DictR r G kvs xs) : (kvs.any fun kv => decide (kv.1 = (Sum.inl k : Key))) = xs.any fun p => decide (p.1 = k) := by
  refine DictR.ind (P := fun kvs xs => (kvs.any fun kv => decide (kv.1 = (Sum.inl k : Key))) = xs.any fun p => decide (p.1 = k)) rfl (fun v x kvs xs hr _ ih => ?_) h
  rw [List.any_cons, List.any_cons, ih]
  by_cases e : x.1 = k <;> simp [e]
theorem DictR.append {G : Hp} {kvs kvs' : List (Key × V)} {xs xs' : List (Int × α)} (h : DictR r G kvs xs) (h' : DictR r G kvs' xs') : DictR r G (kvs ++ kvs') (xs ++ xs') :=
  DictR.ind (P := fun kvs xs => DictR r G (kvs ++ kvs') (xs ++ xs')) (by simpa using h') (fun v x kvs xs hr _ ih => DictR.cons_iff.mpr ⟨rfl, hr, ih⟩) h
theorem DictR.put {G : Hp} {kvs : List (Key × V)} {xs : List (Int × α)} {k : Int} {v : V} {x : α} (h : DictR r G kvs xs) (hr : r.rel G v x) : DictR r G (putK kvs (Sum.inl k : Key) v) (dput xs k x) := by
  unfold putK dput
  rw [h.any]
  split
  · refine DictR.ind (P := fun kvs xs => DictR r G (kvs.map fun kv => if kv.1 = (Sum.inl k : Key) then (kv.1, v) else kv) (xs.map fun p => if p.1 = k then (p.1, x) else p)) DictR.nil (fun u y kvs xs hu _ ih => ?_) h
    rw [List.map_cons, List.map_cons]
    by_cases e : y.1 = k
    · rw [if_pos (show (Sum.inl y.1 : Key) = Sum.inl k by rw [e]), if_pos e]
      exact DictR.cons_iff.mpr ⟨rfl, hr, ih⟩
    · rw [if_neg (show ¬ (Sum.inl y.1 : Key) = Sum.inl k from fun z => e (Sum.inl.inj z)), if_neg e]
      exact DictR.cons_iff.mpr ⟨rfl, hu, ih⟩
  · exact h.append (DictR.cons_iff.mpr ⟨rfl, hr, DictR.nil⟩)
theorem DictR.drop {G : Hp} {kvs : List (Key × V)} {xs : List (Int × α)} {k : Int} (h : DictR r G kvs xs) : DictR r G (dropK kvs (Sum.inl k : Key)) (ddrop xs k) := by
  refine DictR.ind (P := fun kvs xs => DictR r G (dropK kvs (Sum.inl k : Key)) (ddrop xs k)) DictR.nil (fun u y kvs xs hu _ ih => ?_) h
  unfold dropK ddrop at *
  rw [List.filter_cons, List.filter_cons]
  by_cases e : y.1 = k
  · simpa [e] using ih
  · have e2 : ¬ (Sum.inl y.1 : Key) = Sum.inl k := fun z => e (Sum.inl.inj z)
    simp only [ne_eq, e, e2, not_false_eq_true, decide_true, if_true]
    exact DictR.cons_iff.mpr ⟨rfl, hu, ih⟩
structure OwnD (W : Wd F) (p : Addr) (r : Rp α) (xs : List (Int × α)) : Prop where
  ex : ∃ kvs, Own W p (.dK kvs) ∧ DictR r W.G kvs xs
theorem OwnD.up {p : Addr} {xs : List (Int × α)} (l : Le W W1) (h : OwnD W p r xs) : OwnD W1 p r xs := by
  obtain ⟨vs, h1, h2⟩ := h.ex
  exact ⟨vs, h1.up l, h2.mono l.ex⟩
theorem OwnD.kp {p q : Addr} {xs : List (Int × α)} (l : Kp p W W1) (h : OwnD W q r xs) (ne : q ≠ p) : OwnD W1 q r xs := by
  obtain ⟨vs, h1, h2⟩ := h.ex
  exact ⟨vs, l.kp _ _ ne h1, h2.mono l.ex⟩
theorem OwnD.ne {p q : Addr} {xs : List (Int × α)} (h : OwnD W p r xs) (n : W.H q = none) : p ≠ q := by obtain ⟨vs, h1, h2⟩ := h.ex; exact h1.ne n
theorem OwnD.fz {p : Addr} {xs : List (Int × α)} (h : OwnD W p r xs) : ∃ W1 : Wd F, W1.H = W.H ∧ Kp p W W1 ∧ (rDict r).rel W1.G (.ref p) xs := by
  obtain ⟨vs, h1, h2⟩ := h.ex
  exact ⟨W.frz p _ h1, rfl, ⟨(W.frz_wk h1).ex, fun q u ne x => x.frz ne h1⟩, p, vs, rfl, W.frz_at h1, h2.mono (W.frz_wk h1).ex⟩
/-- d[k], d frozen -/
theorem ev_dget {xs : List (Int × α)} {k : Int} {x : α} (ha : EvR ta σ W (rDict r) xs) (hb : EvR tb σ W rInt k) (hx : dlook xs k = some x) : EvR (tDGet ta tb) σ W r x := fun W1 l Q q =>
  ha W1 l _ fun v W2 l2 hv => hb W2 (l.trans l2) _ fun w W3 l3 hw => by
    obtain ⟨a, kvs, rfl, h1, h2⟩ := hv
    have hw : w = .int k := hw
    subst hw
    rcases h2.look (k := k) with ⟨e, _⟩ | ⟨u, y, e, e2, hr⟩
    · rw [hx] at e; cases e
    · rw [hx] at e; cases e
      refine ⟨a, u, rfl, ?_, q u W3 (l2.trans l3) (r.mono l3.ex hr)⟩
      have := DGet.k (H := W3.H) (k := (Sum.inl k : Key)) (W3.gh _ _ (l3.ex _ _ h1))
      rw [e2] at this
      exact this
/-- k in d, d frozen; d of one's own, by its name -/
theorem ev_din {xs : List (Int × α)} {k : Int} (hb : EvR tb σ W rInt k) (ha : EvR ta σ W (rDict r) xs) : EvR (tDIn tb ta) σ W rBool (dlook xs k).isSome := fun W1 l Q q =>
  hb W1 l _ fun w W2 l2 hw => ha W2 (l.trans l2) _ fun v W3 l3 hv => by
    obtain ⟨a, kvs, rfl, h1, h2⟩ := hv
    have hw : w = .int k := hw
    subst hw
    refine ⟨a, _, rfl, DGet.k (H := W3.H) (k := (Sum.inl k : Key)) (W3.gh _ _ h1), ?_⟩
    rcases h2.look (k := k) with ⟨e, e2⟩ | ⟨u, y, e, e2, hr⟩
    · rw [e2]; exact q _ W3 (l2.trans l3) (by rw [e]; rfl)
    · rw [e2]; exact q _ W3 (l2.trans l3) (by rw [e]; rfl)
theorem ev_dnin {xs : List (Int × α)} {k : Int} (hb : EvR tb σ W rInt k) (ha : EvR ta σ W (rDict r) xs) : EvR (tDNotIn tb ta) σ W rBool (!(dlook xs k).isSome) := fun W1 l Q q =>
  hb W1 l _ fun w W2 l2 hw => ha W2 (l.trans l2) _ fun v W3 l3 hv => by
    obtain ⟨a, kvs, rfl, h1, h2⟩ := hv
    have hw : w = .int k := hw
    subst hw
    refine ⟨a, _, rfl, DGet.k (H := W3.H) (k := (Sum.inl k : Key)) (W3.gh _ _ h1), ?_⟩
    rcases h2.look (k := k) with ⟨e, e2⟩ | ⟨u, y, e, e2, hr⟩
    · rw [e2]; exact q _ W3 (l2.trans l3) (by rw [e]; rfl)
    · rw [e2]; exact q _ W3 (l2.trans l3) (by rw [e]; rfl)
theorem ev_ndnin {xs : List (Int × α)} {k : Int} {i : Nat} {p : Addr} (hb : EvR tb σ W rInt k) (hi : σ[i]? = some (some (.ref p))) (o : OwnD W p r xs) : EvR (tDNotIn tb (tVar i)) σ W rBool (!(dlook xs k).isSome) := fun W1 l Q q =>
  hb W1 l _ fun w W2 l2 hw => by
    obtain ⟨kvs, h1, h2⟩ := o.ex
    have hw : w = .int k := hw
    subst hw
    refine ⟨_, hi, p, _, rfl, DGet.k (H := W2.H) (k := (Sum.inl k : Key)) ((h1.up l).up l2).h, ?_⟩
    rcases h2.look (k := k) with ⟨e, e2⟩ | ⟨u, y, e, e2, hr⟩
    · rw [e2]; exact q _ W2 l2 (by rw [e]; rfl)
    · rw [e2]; exact q _ W2 l2 (by rw [e]; rfl)
theorem ev_odin {xs : List (Int × α)} {k : Int} {i : Nat} {p : Addr} (hb : EvR tb σ W rInt k) (hi : σ[i]? = some (some (.ref p))) (o : OwnD W p r xs) : EvR (tDIn tb (tVar i)) σ W rBool (dlook xs k).isSome := fun W1 l Q q =>
  hb W1 l _ fun w W2 l2 hw => by
    obtain ⟨kvs, h1, h2⟩ := o.ex
    have hw : w = .int k := hw
    subst hw
    refine ⟨_, hi, p, _, rfl, DGet.k (H := W2.H) (k := (Sum.inl k : Key)) ((h1.up l).up l2).h, ?_⟩
    rcases h2.look (k := k) with ⟨e, e2⟩ | ⟨u, y, e, e2, hr⟩
    · rw [e2]; exact q _ W2 l2 (by rw [e]; rfl)
    · rw [e2]; exact q _ W2 l2 (by rw [e]; rfl)
theorem ev_odget {xs : List (Int × α)} {k : Int} {x : α} {i : Nat} {p : Addr} (hi : σ[i]? = some (some (.ref p))) (o : OwnD W p r xs) (hb : EvR tb σ W rInt k) (hx : dlook xs k = some x) : EvR (tDGet (tVar i) tb) σ W r x := fun W1 l Q q =>
  ⟨_, hi, hb W1 l _ fun w W3 l3 hw => by
    obtain ⟨kvs, h1, h2⟩ := o.ex
    have hw : w = .int k := hw
    subst hw
    rcases h2.look (k := k) with ⟨e, _⟩ | ⟨u, y, e, e2, hr⟩
    · rw [hx] at e; cases e
    · rw [hx] at e; cases e
      refine ⟨p, u, rfl, ?_, q u W3 l3 (r.mono (l.ex.trans l3.ex) hr)⟩
      have := DGet.k (H := W3.H) (k := (Sum.inl k : Key)) ((h1.up l).up l3).h
      rw [e2] at this
      exact this⟩
/-- d[k] = e, d of one's own -/
theorem s_dput {i : Nat} {p : Addr} {xs : List (Int × α)} {k : Int} {x : α} (hi : σ[i]? = some (some (.ref p))) (o : OwnD W p r xs) (hb : EvR tb σ W rInt k) (h : EvR te σ W r x) (hz : xs.length < 100000)
    (c : ∀ W1 : Wd F, Kp p W W1 → OwnD W1 p r (dput xs k x) → D.nx σ W1.H) : sDPut (tVar i) tb te D σ W.H := by
  refine h W (Le.refl _) _ fun v W1 l hv => ⟨_, hi, hb W1 l _ fun w W2 l2 hw => ?_⟩
  obtain ⟨kvs, h1, h2⟩ := o.ex
  have hw : w = .int k := hw
  subst hw
  have o2 := (h1.up l).up l2
  refine ⟨p, _, rfl, DPut.k (k := (Sum.inl k : Key)) o2.h (by rw [h2.1]; exact Nat.lt_of_lt_of_le hz (by decide)), ?_⟩
  exact c (W2.put p _ o2.z o2.g) ⟨l.ex.trans l2.ex, fun q u ne x => ((x.up l).up l2).put ne _ _⟩ ⟨_, W2.put_at o2.z o2.g, (h2.mono (l.ex.trans l2.ex)).put (r.mono l2.ex hv)⟩
theorem q_dput {i : Nat} {p : Addr} {xs : List (Int × α)} {k : Int} {x : α} (hi : σ[i]? = some (some (.ref p))) (o : OwnD W p r xs) (hb : EvR tb σ W rInt k) (h : EvR te σ W r x) (hz : xs.length < 100000)
    (c : ∀ W1 : Wd F, Kp p W W1 → OwnD W1 p r (dput xs k x) → tz D σ W1.H) : tSeq (sDPut (tVar i) tb te) tz D σ W.H := s_dput (D := { D with nx := tz D }) hi o hb h hz c
/-- list(d) -/
theorem eo_keys {xs : List (Int × α)} (ha : EvR ta σ W (rDict r) xs) : EvO (tCB rListD (tCons ta tNil)) σ W rInt (xs.map (·.1)) := fun W1 l Q q => ha W1 l _ fun v W2 l2 hv => by
  obtain ⟨a, kvs, rfl, h1, h2⟩ := hv
  refine ⟨a, kvs, rfl, W2.gh _ _ h1, fun p hp => q p _ (W2.own p _ hp) (l2.trans (W2.own_le hp)) (le_fresh l2 hp) (W2.own_at hp) ?_⟩
  refine DictR.ind (P := fun kvs xs => All2 (rInt.rel W2.G) (kvs.map fun kv => kV kv.1) (xs.map (·.1))) All2.nil (fun v x kvs xs hr _ ih => ?_) h2
  exact ih.cons rfl
end
end Q

namespace Q
open PySem L2
/-! ### the net -/
structure NetD where
  needs : List Int
  sources : List Int
  lines : List (Int × Int × Int)
abbrev rLine : Rp (Int × Int × Int) := rT3 rInt rInt rInt
abbrev rRows : Rp (List Int × List Int × List (Int × Int × Int)) := rT3 (rList rInt) (rList rInt) (rList rLine)
def netFs (p q u : Addr) : List (Str × V) := [("_needs", .ref p), ("_sources", .ref q), ("_lines", .ref u)]
theorem look_put (f g : Str) (y : V) (fs : List (Str × V)) : ((f, y) :: fs).lookup g = if g = f then some y else fs.lookup g := by
  by_cases h : g = f
  · subst h; simp [List.lookup]
  · have e : (g == f) = false := by simpa using h
    rw [if_neg h]; simp [List.lookup, e]
theorem ne1 : ¬ (("_needs" : Str) = "_sources") := by decide +kernel
theorem ne2 : ¬ (("_needs" : Str) = "_lines") := by decide +kernel
theorem ne3 : ¬ (("_sources" : Str) = "_lines") := by decide +kernel
theorem nf_needs (p q u : Addr) : (netFs p q u).lookup ("_needs" : Str) = some (.ref p) := by unfold netFs; rw [look_put, if_pos rfl]
theorem nf_sources (p q u : Addr) : (netFs p q u).lookup ("_sources" : Str) = some (.ref q) := by unfold netFs; rw [look_put, if_neg (fun z => ne1 z.symm), look_put, if_pos rfl]
theorem nf_lines (p q u : Addr) : (netFs p q u).lookup ("_lines" : Str) = some (.ref u) := by unfold netFs; rw [look_put, if_neg (fun z => ne2 z.symm), look_put, if_neg (fun z => ne3 z.symm), look_put, if_pos rfl]
theorem nf_none (p q u : Addr) {m : Str} (h1 : ¬ m = "_needs") (h2 : ¬ m = "_sources") (h3 : ¬ m = "_lines") : (netFs p q u).lookup m = none := by
  unfold netFs; rw [look_put, if_neg h1, look_put, if_neg h2, look_put, if_neg h3]; rfl
def rNet (C : Addr) : Rp NetD := ⟨fun G v n => ∃ a dx p q u, v = .ref a ∧ G a = some (.ins C dx (netFs p q u)) ∧ (rList rInt).rel G (.ref p) n.needs ∧ (rList rInt).rel G (.ref q) n.sources ∧ (rList rLine).rel G (.ref u) n.lines,
  fun e ⟨a, dx, p, q, u, h1, h2, h3, h4, h5⟩ => ⟨a, dx, p, q, u, h1, e _ _ h2, (rList rInt).mono e h3, (rList rInt).mono e h4, (rList rLine).mono e h5⟩⟩
section
variable {F : Fr} {K : PySem.W.Frag} {σ : L2.St} {W W1 : Wd F} {ta tb te tc tl : TE} {tt tu : TT} {α β γ δ : Type} {r : Rp α} {s : Rp β} {t : Rp γ} {D : Ends} {tz tx ty : TS} {C : Addr} {n : NetD}
theorem ev_needs (cl : Cls K C) (na : NoAttr K C "_needs") (h : EvR ta σ W (rNet C) n) : EvR (tFld K ta "_needs") σ W (rList rInt) n.needs := fun W1 l Q q => h W1 l _ fun v W2 l2 hv => by
  obtain ⟨a, dx, p, p2, u, rfl, h2, h3, h4, h5⟩ := hv
  exact ⟨a, C, dx, _, _, rfl, W2.gh _ _ h2, cl, na, nf_needs _ _ _, q _ W2 l2 h3⟩
theorem ev_sources (cl : Cls K C) (na : NoAttr K C "_sources") (h : EvR ta σ W (rNet C) n) : EvR (tFld K ta "_sources") σ W (rList rInt) n.sources := fun W1 l Q q => h W1 l _ fun v W2 l2 hv => by
  obtain ⟨a, dx, p, p2, u, rfl, h2, h3, h4, h5⟩ := hv
  exact ⟨a, C, dx, _, _, rfl, W2.gh _ _ h2, cl, na, nf_sources _ _ _, q _ W2 l2 h4⟩
theorem ev_lines (cl : Cls K C) (na : NoAttr K C "_lines") (h : EvR ta σ W (rNet C) n) : EvR (tFld K ta "_lines") σ W (rList rLine) n.lines := fun W1 l Q q => h W1 l _ fun v W2 l2 hv => by
  obtain ⟨a, dx, p, p2, u, rfl, h2, h3, h4, h5⟩ := hv
  exact ⟨a, C, dx, _, _, rfl, W2.gh _ _ h2, cl, na, nf_lines _ _ _, q _ W2 l2 h5⟩
/-- a method without arguments -/
theorem ev_meth0 {m : Str} {pre : NetD → Prop} {f : NetD → β} {E : XK} (h1 : ¬ m = "_needs") (h2 : ¬ m = "_sources") (h3 : ¬ m = "_lines") (h : EvR ta σ W (rNet C) n) (hp : pre n) : EvR (tMeth C m (Fn1 (rNet C) s pre f) [] E ta tNil) σ W s (f n) := fun W1 l Q q =>
  h W1 l _ fun v W2 l2 hv => by
    obtain ⟨a, dx, p, p2, u, rfl, g2, g3, g4, g5⟩ := id hv
    exact ⟨a, dx, _, rfl, W2.gh _ _ g2, nf_none _ _ _ h1 h2 h3, W2.G, _, n, rfl, W2.gh, hv, hp, fun u W3 hu => q u (W2.back W3) (l2.trans (W2.back_le W3)) hu⟩
end

/-! ### the dice -/
def DiceAt (d s : Addr) (H : Hp) : Prop := ∃ p m c : Int, H d = some (.lst [.ref s, .int p, .int m, .int c]) ∧ 0 ≤ p ∧ 0 ≤ m ∧ m < 2147483647 ∧ 0 ≤ c
def dF (G H : Hp) (d s : Addr) (h : DiceAt d s H) : Fr where
  G0 := G
  H0 := H
  M := fun a => a = d
  I := DiceAt d s
  st := fun A B e z => by
    obtain ⟨p, m, c, h1, h2⟩ := z
    exact ⟨p, m, c, (e d rfl).trans h1, h2⟩
  has := fun A a z e => by
    subst e
    obtain ⟨p, m, c, h1, h2⟩ := z
    rw [h1]; exact fun z => nomatch z
  i0 := h
def Wd.inD (G H : Hp) (d s : Addr) (h : DiceAt d s H) (gh : Ex G H) (gn : G d = none) : Wd (dF G H d s h) where
  G := G
  H := H
  gh := gh
  gg := Ex.refl _
  kp := fun a _ g _ => ⟨g, rfl⟩
  mg := fun a e => by
    have e : a = d := e
    rw [e]; exact gn
  iv := h
section
variable {G0 H0 : Hp} {d sc : Addr} {h0 : DiceAt d sc H0}
def Wd.backD (W : Wd (dF G0 H0 d sc h0)) (W' : Wd (dF W.G W.H d sc W.iv)) : Wd (dF G0 H0 d sc h0) where
  G := W'.G
  H := W'.H
  gh := W'.gh
  gg := W.gg.trans W'.gg
  kp := fun a m g n => by
    obtain ⟨h1, h2⟩ := W.kp a m g n
    obtain ⟨h3, h4⟩ := W'.kp a m h1 (by rw [show (dF W.G W.H d sc W.iv).H0 a = W.H a from rfl, h2]; exact n)
    exact ⟨h3, h4.trans h2⟩
  mg := W'.mg
  iv := W'.iv
theorem Wd.backD_le (W : Wd (dF G0 H0 d sc h0)) (W' : Wd (dF W.G W.H d sc W.iv)) : Le W (W.backD W') := ⟨W'.gg, fun a m g n => W'.kp a m g n⟩
end
/-- a draw: some number from 0 on below the one that is handed in -/
def SpNext (K : PySem.W.Frag) : Sp := fun vs H Q _ => ∃ (G : Hp) (d s : Addr) (ns : List Int) (m : Int) (hd : DiceAt d s H), vs = [.ref d, .int m] ∧ Ex G H ∧ G d = none ∧ SqL K G s (ns.map V.int) ∧ 0 < m ∧ m < 1073741824 ∧
  ∀ (x : Int) (W : Wd (dF G H d s hd)), 0 ≤ x → x < m → Q (.int x) W.H
theorem sqL_mono {K : PySem.W.Frag} {G H : Hp} {a : Addr} {vs : List V} (e : Ex G H) (h : SqL K G a vs) : SqL K H a vs := by
  rcases h with (h | ⟨o, h⟩) | h
  · exact .inl (.inl (e _ _ h))
  · exact .inl (.inr ⟨o, e _ _ h⟩)
  · exact .inr h
section
variable {G0 H0 : Hp} {d sc : Addr} {h0 : DiceAt d sc H0} {K : PySem.W.Frag} {σ : L2.St} {W : Wd (dF G0 H0 d sc h0)} {tb : TE} {ns : List Int} {E : XK}
theorem ev_nextN {i : Nat} {P : Int → Prop} {R : Int → Prop} (hi : σ[i]? = some (some (.ref d))) (hs : SqL K G0 sc (ns.map V.int)) (hb : EvN tb σ W rInt P) (hP : ∀ m, P m → 0 < m ∧ m < 1073741824) (hR : ∀ m x, P m → 0 ≤ x → x < m → R x) : EvN (tCall (SpNext K) [] E (tCons (tVar i) (tCons tb tNil))) σ W rInt R := fun W1 l Q q =>
  ⟨_, hi, hb W1 l _ fun v W2 m l2 hv hm => ⟨W2.G, d, sc, ns, m, W2.iv, by rw [show v = .int m from hv]; rfl, W2.gh, W2.mg d rfl, sqL_mono W2.gg hs, (hP m hm).1, (hP m hm).2, fun x W3 h1 h2 =>
    q (.int x) (W2.backD W3) x (l2.trans (W2.backD_le W3)) rfl (hR m x hm h1 h2)⟩⟩
theorem ev_next {i : Nat} {m : Int} (hi : σ[i]? = some (some (.ref d))) (hs : SqL K G0 sc (ns.map V.int)) (hb : EvR tb σ W rInt m) (h1 : 0 < m) (h2 : m < 1073741824) : EvN (tCall (SpNext K) [] E (tCons (tVar i) (tCons tb tNil))) σ W rInt (fun x => 0 ≤ x ∧ x < m) :=
  ev_nextN hi hs hb.n (fun m' e => by subst e; exact ⟨h1, h2⟩) fun m' x e h3 h4 => by subst e; exact ⟨h3, h4⟩
end
/-- the state of a net's rows that a law draws -/
structure RowsOk (places lines : Int) (n : List Int × List Int × List (Int × Int × Int)) : Prop where
  n1 : 1 ≤ n.1.length ∧ (n.1.length : Int) ≤ places
  n2 : ∀ x ∈ n.1, 0 ≤ x ∧ x ≤ 1000000
  s1 : n.2.1.Nodup
  s2 : ∀ x ∈ n.2.1, 0 ≤ x ∧ x < (n.1.length : Int)
  l1 : (n.2.2.length : Int) ≤ lines
  l2 : ∀ x ∈ n.2.2, (0 ≤ x.1 ∧ x.1 < (n.1.length : Int)) ∧ (0 ≤ x.2.1 ∧ x.2.1 < (n.1.length : Int)) ∧ x.1 ≠ x.2.1 ∧ 0 ≤ x.2.2 ∧ x.2.2 ≤ 1000000
/-- the law's net: rows within the bounds -/
def SpNet (K : PySem.W.Frag) : Sp := fun vs H Q _ => ∃ (G : Hp) (d s : Addr) (ns : List Int) (a b : Int) (hd : DiceAt d s H), vs = [.ref d, .int a, .int b] ∧ Ex G H ∧ G d = none ∧ SqL K G s (ns.map V.int) ∧ 0 < a ∧ a ≤ 10 ∧ 0 ≤ b ∧ b ≤ 10 ∧
  ∀ v (W : Wd (dF G H d s hd)) n, rRows.rel W.G v n → RowsOk a b n → Q v W.H
section
variable {G0 H0 : Hp} {d sc : Addr} {h0 : DiceAt d sc H0} {K : PySem.W.Frag} {σ : L2.St} {W : Wd (dF G0 H0 d sc h0)} {ta tb : TE} {ns : List Int} {E : XK}
theorem ev_net {i : Nat} {a b : Int} (hi : σ[i]? = some (some (.ref d))) (hs : SqL K G0 sc (ns.map V.int)) (ha : EvR ta σ W rInt a) (hb : EvR tb σ W rInt b) (h1 : 0 < a) (h2 : a ≤ 10) (h3 : 0 ≤ b) (h4 : b ≤ 10) : EvN (tCall (SpNet K) [] E (tCons (tVar i) (tCons ta (tCons tb tNil)))) σ W rRows (RowsOk a b) := fun W1 l Q q =>
  ⟨_, hi, ha W1 l _ fun v W2 l2 hv => hb W2 (l.trans l2) _ fun w W3 l3 hw => ⟨W3.G, d, sc, ns, a, b, W3.iv, by rw [show v = .int a from hv, show w = .int b from hw]; rfl, W3.gh, W3.mg d rfl, sqL_mono W3.gg hs, h1, h2, h3, h4, fun u W4 n hu hn =>
    q u (W3.backD W4) n ((l2.trans l3).trans (W3.backD_le W4)) hu hn⟩⟩
end
/-- the dice are made: a list of one's own -/
def SpDice (K : PySem.W.Frag) : Sp := fun vs H Q _ => ∃ (s : Addr) (ns : List Int), vs = [.ref s] ∧ SqL K H s (ns.map V.int) ∧ ns.length ≤ 63 ∧ ∀ (d : Addr) (H' : Hp), H d = none → Ex H H' → DiceAt d s H' → Q (.ref d) H'
end Q
namespace Q
open PySem L2
/-! ### defs and methods of the text, as they stand behind the top -/
structure Df (K : PySem.W.Frag) (mg : Str → Option Value) (x : Str) (st : Stmt) (ps : List Str) where
  f : Addr
  fd : FuncData
  F : Fun K x x st f fd
  m : mg x = some (.ref f)
  b : Binds K fd ps []
structure Dm (K : PySem.W.Frag) (C : Addr) (x qual : Str) (st : Stmt) (ps : List Str) where
  f : Addr
  fd : FuncData
  F : Fun K x qual st f fd
  M : Meth K C x f
  b : Binds K fd ps []
end Q

namespace Q
open PySem L2
section
variable {F : Fr} {K : PySem.W.Frag} {σ : L2.St} {W W1 : Wd F} {ta tb te tc tl ti : TE} {tt tu : TT} {α β γ δ : Type} {r : Rp α} {s : Rp β} {t : Rp γ} {D : Ends} {tz tx ty : TS}
/-! ### one's own list, lent to be read -/
def Flat (r : Rp α) : Prop := ∀ (G G' : Hp) v x, r.rel G v x → r.rel G' v x
theorem flat_int : Flat rInt := fun _ _ _ _ h => h
theorem flat_bool : Flat rBool := fun _ _ _ _ h => h
theorem flat_str : Flat rStr := fun _ _ _ _ h => h
def Wd.thaw (W : Wd F) (p : Addr) (g : F.G0 p = none) : Wd F where
  G := fun a => if a = p then none else W.G a
  H := W.H
  gh := fun a o e => by
    by_cases h : a = p
    · simp [h] at e
    · simp [h] at e; exact W.gh a o e
  gg := fun a o e => by
    have h : a ≠ p := ne_of_none e g
    simp [h]; exact W.gg a o e
  kp := fun a m q n => by
    obtain ⟨h1, h2⟩ := W.kp a m q n
    refine ⟨?_, h2⟩
    by_cases h : a = p <;> simp [h]
    exact h1
  mg := fun a m => by
    by_cases h : a = p <;> simp [h]
    exact W.mg a m
  iv := W.iv
theorem thaw_le {W1 W2 : Wd F} {p : Addr} {o : HO} (x : Own W1 p o) (g : F.G0 p = none) (l : Le (W1.frz p o x) W2) : Le W1 (W2.thaw p g) := by
  refine ⟨fun a u e => ?_, fun a m q n => ?_⟩
  · have h : a ≠ p := ne_of_none e x.g
    show (if a = p then none else W2.G a) = some u
    rw [if_neg h]
    exact l.ex a u ((upd_ne h).trans e)
  · by_cases h : a = p
    · subst h
      refine ⟨if_pos rfl, ?_⟩
      have := W2.gh _ _ (l.ex _ _ (W1.frz_at x))
      exact this.trans x.h.symm
    · obtain ⟨h1, h2⟩ := l.kp a m ((upd_ne h).trans q) n
      exact ⟨(if_neg h).trans h1, h2⟩
theorem own_g0 {p : Addr} {o : HO} (x : Own W p o) : F.G0 p = none := W.gg.back x.g
theorem thaw_own {p q : Addr} {o : HO} {W2 : Wd F} (g : F.G0 p = none) (x : Own W2 q o) : Own (W2.thaw p g) q o := ⟨by
  show (if q = p then none else W2.G q) = none
  by_cases h : q = p <;> simp [h, x.g], x.h, x.z⟩
theorem lentB {p : Addr} {xs : List α} {b : Bool} (o : OwnL W p r xs) (h : ∀ W' : Wd F, Kp p W W' → (rList r).rel W'.G (.ref p) xs → EvB tt σ W' b) : EvB tt σ W b := fun W1 l Q q => by
  obtain ⟨vs, h1, h2⟩ := (o.up l).ex
  have z := h (W1.frz p _ h1) ⟨l.ex.trans (Ex.new h1.g), fun q u ne x => (x.up l).frz ne h1⟩ ⟨p, vs, rfl, W1.frz_at h1, h2.imp fun _ _ => r.mono (Ex.new h1.g)⟩
  exact z (W1.frz p _ h1) (Le.refl _) Q fun W2 l2 => q (W2.thaw p (own_g0 h1)) (thaw_le h1 _ l2)
theorem lentBN {p : Addr} {xs : List α} {P : Bool → Prop} (o : OwnL W p r xs) (h : ∀ W' : Wd F, Kp p W W' → (rList r).rel W'.G (.ref p) xs → EvBN tt σ W' P) : EvBN tt σ W P := fun W1 l Q q => by
  obtain ⟨vs, h1, h2⟩ := (o.up l).ex
  have z := h (W1.frz p _ h1) ⟨l.ex.trans (Ex.new h1.g), fun q u ne x => (x.up l).frz ne h1⟩ ⟨p, vs, rfl, W1.frz_at h1, h2.imp fun _ _ => r.mono (Ex.new h1.g)⟩
  exact z (W1.frz p _ h1) (Le.refl _) Q fun W2 b l2 hb => q (W2.thaw p (own_g0 h1)) b (thaw_le h1 _ l2) hb
theorem lentR {p : Addr} {xs : List α} {x : β} (f : Flat s) (o : OwnL W p r xs) (h : ∀ W' : Wd F, Kp p W W' → (rList r).rel W'.G (.ref p) xs → EvR te σ W' s x) : EvR te σ W s x := fun W1 l Q q => by
  obtain ⟨vs, h1, h2⟩ := (o.up l).ex
  have z := h (W1.frz p _ h1) ⟨l.ex.trans (Ex.new h1.g), fun q u ne x => (x.up l).frz ne h1⟩ ⟨p, vs, rfl, W1.frz_at h1, h2.imp fun _ _ => r.mono (Ex.new h1.g)⟩
  exact z (W1.frz p _ h1) (Le.refl _) Q fun v W2 l2 hv => q v (W2.thaw p (own_g0 h1)) (thaw_le h1 _ l2) (f _ _ _ _ hv)
theorem lentN {p : Addr} {xs : List α} {P : β → Prop} (f : Flat s) (o : OwnL W p r xs) (h : ∀ W' : Wd F, Kp p W W' → (rList r).rel W'.G (.ref p) xs → EvN te σ W' s P) : EvN te σ W s P := fun W1 l Q q => by
  obtain ⟨vs, h1, h2⟩ := (o.up l).ex
  have z := h (W1.frz p _ h1) ⟨l.ex.trans (Ex.new h1.g), fun q u ne x => (x.up l).frz ne h1⟩ ⟨p, vs, rfl, W1.frz_at h1, h2.imp fun _ _ => r.mono (Ex.new h1.g)⟩
  exact z (W1.frz p _ h1) (Le.refl _) Q fun v W2 x l2 hv hx => q v (W2.thaw p (own_g0 h1)) x (thaw_le h1 _ l2) (f _ _ _ _ hv) hx
theorem lentON {p : Addr} {xs : List α} {P : List β → Prop} (f : Flat s) (o : OwnL W p r xs) (h : ∀ W' : Wd F, Kp p W W' → (rList r).rel W'.G (.ref p) xs → EvON te σ W' s P) : EvON te σ W s P := fun W1 l Q q => by
  obtain ⟨vs, h1, h2⟩ := (o.up l).ex
  have z := h (W1.frz p _ h1) ⟨l.ex.trans (Ex.new h1.g), fun q u ne x => (x.up l).frz ne h1⟩ ⟨p, vs, rfl, W1.frz_at h1, h2.imp fun _ _ => r.mono (Ex.new h1.g)⟩
  exact z (W1.frz p _ h1) (Le.refl _) Q fun u ws W2 ys l2 hu x a hP => q u ws (W2.thaw p (own_g0 h1)) ys (thaw_le h1 _ l2) hu (thaw_own _ x) (a.imp fun _ _ => f _ _ _ _) hP
/-! ### draws in tests -/
theorem et_rN {P : Bool → Prop} (h : EvN te σ W rBool P) : EvBN (tTest te) σ W P := fun W1 l Q q => h W1 l _ fun v W2 b l2 hv hb => ⟨b, hv, q W2 b l2 hb⟩
theorem ev_eqN {P P' : Int → Prop} {R : Bool → Prop} (ha : EvN ta σ W rInt P) (hb : EvN tb σ W rInt P') (hR : ∀ x y, P x → P' y → R (decide (x = y))) : EvN (tOp (oEqA K) ta tb) σ W rBool R :=
  ev_opN ha hb fun W1 v w x y Q l hv hw hx hy q => by
    have hv : v = .int x := hv
    have hw : w = .int y := hw
    subst hv; subst hw
    refine .inl ⟨rfl, ?_⟩
    have e : decide (V.int x = V.int y) = decide (x = y) := by simp
    rw [e]
    exact q _ W1 _ (Le.refl _) rfl (hR x y hx hy)
theorem et_andN {a : Bool} {P : Bool → Prop} (h1 : EvB tt σ W a) (h2 : a = true → EvBN tu σ W P) : EvBN (tAnd tt tu) σ W (fun b => (a = true ∧ P b) ∨ (a = false ∧ b = false)) := fun W1 l Q q => h1 W1 l _ fun W2 l2 => by
  cases a with
  | true => exact iteT (h2 rfl W2 (l.trans l2) Q fun W3 b l3 hb => q W3 b (l2.trans l3) (.inl ⟨rfl, hb⟩))
  | false => exact iteF (q W2 false l2 (.inr ⟨rfl, rfl⟩))
theorem EvON.imp {P P' : List α → Prop} (h : EvON te σ W r P) (k : ∀ x, P x → P' x) : EvON te σ W r P' := fun W1 l Q q => h W1 l Q fun p vs W2 xs l2 hp x a hx => q p vs W2 xs l2 hp x a (k xs hx)
theorem EvBN.imp {P P' : Bool → Prop} (h : EvBN tt σ W P) (k : ∀ b, P b → P' b) : EvBN tt σ W P' := fun W1 l Q q => h W1 l Q fun W2 b l2 hb => q W2 b l2 (k b hb)
/-- an if without else whose ways meet -/
theorem q_whenCut {P : Bool → Prop} (Mid : L2.St → Wd F → Prop) (h : EvBN tt σ W P) (h1 : P true → ∀ W1 : Wd F, Le W W1 → (∀ σ' (W' : Wd F), Mid σ' W' → tz D σ' W'.H) → tx { D with nx := tz D } σ W1.H) (h2 : P false → ∀ W1 : Wd F, Le W W1 → Mid σ W1)
    (k : ∀ σ' (W' : Wd F), Mid σ' W' → tz D σ' W'.H) : tSeq (tIfS tt tx tNext) tz D σ W.H := h W (Le.refl _) _ fun W1 b l hb => by
  cases b with
  | true => exact iteT (h1 hb W1 l k)
  | false => exact iteF (k σ W1 (h2 hb W1 l))
/-! ### displays with draws -/
def EvLN (ta : TA) (σ : L2.St) (W : Wd F) (r : Rp α) (P : List α → Prop) : Prop := ∀ W1 : Wd F, Le W W1 → ∀ Q : List V → Hp → Prop, (∀ vs (W2 : Wd F) xs, Le W1 W2 → All2 (r.rel W2.G) vs xs → P xs → Q vs W2.H) → ta σ W1.H Q
theorem el_nilN : EvLN tNil σ W r (· = []) := fun W1 l Q q => q [] W1 [] (Le.refl _) All2.nil rfl
theorem el_consN {ts : TA} {P : α → Prop} {P' : List α → Prop} (h : EvN ta σ W r P) (hs : EvLN ts σ W r P') : EvLN (tCons ta ts) σ W r (fun xs => ∃ y ys, xs = y :: ys ∧ P y ∧ P' ys) := fun W1 l Q q =>
  h W1 l _ fun v W2 x l2 hv hx => hs W2 (l.trans l2) _ fun vs W3 xs l3 hvs hxs => q (v :: vs) W3 (x :: xs) (l2.trans l3) ((hvs).cons (r.mono l3.ex hv)) ⟨x, xs, rfl, hx, hxs⟩
theorem eo_lstN {ts : TA} {P : List α → Prop} (h : EvLN ts σ W r P) (hz : ∀ xs, P xs → xs.length ≤ 100000) : EvON (tLst ts) σ W r P := fun W1 l Q q =>
  h W1 l _ fun vs W2 xs l2 a hx => ⟨by rw [a.1]; exact Nat.le_trans (hz xs hx) (by decide), fun p hp => q p vs (W2.own p _ hp) xs (l2.trans (W2.own_le hp)) (le_fresh l2 hp) (W2.own_at hp) a hx⟩
theorem ev_ixLN {P : List α → Prop} {P' : Int → Prop} {R : α → Prop} (ha : EvN ta σ W (rList r) P) (hb : EvN tb σ W rInt P') (hx : ∀ xs i, P xs → P' i → 0 ≤ i ∧ ∃ x, xs[i.toNat]? = some x ∧ R x) : EvN (tOp (rIx K) ta tb) σ W r R :=
  ev_opN ha hb fun W1 v w xs i Q l hv hw h1 h2 q => by
    obtain ⟨a, vs, rfl, g1, g2⟩ := hv
    have hw : w = .int i := hw
    subst hw
    obtain ⟨h0, x, e1, hr⟩ := hx xs i h1 h2
    obtain ⟨u, h3, h4⟩ := g2.2 _ _ e1
    refine .inl ⟨a, vs, i, u, rfl, rfl, sqL_of W1.gh g1, ?_, q u W1 x (Le.refl _) h4 hr⟩
    have e : i = ((i.toNat : Nat) : Int) := by omega
    rw [e]; exact atI_nat h3
theorem eon_slN {P : List α → Prop} {P' : Int → Prop} (ha : EvN ta σ W (rList r) P) (hb : EvN tb σ W rInt P') (hj : ∀ j, P' j → 0 ≤ j) : EvON (tSl (rSlL K) ta tNoPart (tPart tb)) σ W r (fun zs => ∃ xs j, P xs ∧ P' j ∧ zs = xs.take j.toNat) := fun W1 l Q q => by
  refine ha W1 l _ fun v W2 xs l2 hv hx => ?_
  refine hb W2 (l.trans l2) _ fun w W3 j l3 hw hj' => ?_
  obtain ⟨a, vs, rfl, h1, h2⟩ := hv
  have hj0 := hj j hj'
  refine ⟨j, hw, ⟨a, vs, rfl, sqL_of W3.gh (l3.ex _ _ h1), fun p hp => ?_⟩⟩
  have e : cutV vs none (some j) = vs.take j.toNat := by
    unfold cutV HT.sIx
    simp only [if_neg (show ¬ j < 0 by omega), Nat.sub_zero, List.drop_zero]
    rw [Nat.min_def]
    split
    · rfl
    · rename_i hh
      rw [List.take_of_length_le (Nat.le_refl _), List.take_of_length_le (by omega)]
  rw [e]
  exact q p _ (W3.own p _ hp) (xs.take j.toNat) ((l2.trans l3).trans (W3.own_le hp)) (le_fresh (l2.trans l3) hp) (W3.own_at hp) ((h2.imp fun _ _ => r.mono l3.ex).take _) ⟨xs, j, hx, hj', rfl⟩
theorem eon_revN {P : List α → Prop} (ha : EvN ta σ W (rList r) P) : EvON (tRevL K ta) σ W r (fun zs => ∃ xs, P xs ∧ zs = xs.reverse) := fun W1 l Q q => by
  refine ha W1 l _ fun v W2 xs l2 hv hx => ?_
  obtain ⟨a, vs, rfl, h1, h2⟩ := hv
  exact ⟨a, vs, rfl, sqL_of W2.gh h1, fun p hp => q p _ (W2.own p _ hp) xs.reverse (l2.trans (W2.own_le hp)) (le_fresh l2 hp) (W2.own_at hp) h2.reverse ⟨xs, hx, rfl⟩⟩
theorem ev_t3N {P : α → Prop} {P' : β → Prop} {P'' : γ → Prop} (ha : EvN ta σ W r P) (hb : EvN tb σ W s P') (hc : EvN tc σ W t P'') : EvN (tTup (tCons ta (tCons tb (tCons tc tNil)))) σ W (rT3 r s t) (fun z => P z.1 ∧ P' z.2.1 ∧ P'' z.2.2) := fun W1 l Q q =>
  ha W1 l _ fun v W2 x l2 hv hx => hb W2 (l.trans l2) _ fun w W3 y l3 hw hy => hc W3 ((l.trans l2).trans l3) _ fun u W4 z l4 hu hz => ⟨by show 3 ≤ sizeLine; decide, fun p hp => q (.ref p) (W4.add p _ hp) (x, y, z) (((l2.trans l3).trans l4).trans (W4.add_le hp))
    ⟨p, v, w, u, rfl, W4.add_at hp, r.mono ((l3.ex.trans l4.ex).trans (W4.add_le hp).ex) hv, s.mono (l4.ex.trans (W4.add_le hp).ex) hw, t.mono (W4.add_le hp).ex hu⟩ ⟨hx, hy, hz⟩⟩
theorem s_appN {i : Nat} {p : Addr} {xs : List α} {P : α → Prop} (hi : σ[i]? = some (some (.ref p))) (o : OwnL W p r xs) (h : EvN te σ W r P) (hz : xs.length < 100000)
    (k : ∀ (W1 : Wd F) x, Kp p W W1 → P x → OwnL W1 p r (xs ++ [x]) → D.nx σ W1.H) : tDrop (tBM K "list" rAppend (tVar i) (tCons te tNil)) D σ W.H := by
  obtain ⟨vs, h1, h2⟩ := o.ex
  refine ⟨_, hi, .inl ⟨rfl, _, sqL_of (Ex.refl _) h1.h⟩, h W (Le.refl _) _ fun v W1 x l hv hx => ⟨p, vs, v, rfl, rfl, (h1.up l).h, by rw [h2.1]; exact Nat.lt_of_lt_of_le hz (by decide), ?_⟩⟩
  have o1 := h1.up l
  exact k (W1.put p (.lst (vs ++ [v])) o1.z o1.g) x ⟨l.ex, fun q u ne x => (x.up l).put ne _ _⟩ hx ⟨_, W1.put_at o1.z o1.g, (h2.imp fun _ _ => r.mono l.ex).snoc hv⟩
theorem s_asgON {i : Nat} {P : List α → Prop} (h : EvON te σ W r P) (k : ∀ p (W1 : Wd F) xs, Le W W1 → W.H p = none → OwnL W1 p r xs → P xs → D.nx (σ.set i (some (.ref p))) W1.H) : tAsg te (gName i) D σ W.H :=
  h W (Le.refl _) _ fun p vs W1 xs l hp x a hP => k p W1 xs l hp ⟨vs, x, a⟩ hP
theorem ev_emp : EvR (tLst tNil) σ W (rList r) [] := EvO.fz (eo_lst el_nil (Nat.zero_le _))
abbrev oInt1 : List V → Hp → VK → Prop := fun xs H Q => (∃ i, xs = [.int i] ∧ Q (.int i) H) ∨ ∃ k, xs = [.bl k] ∧ Q (.int (if k then 1 else 0)) H
theorem ev_intB {b : Bool} (h : EvR ta σ W rBool b) : EvR (tCB oInt1 (tCons ta tNil)) σ W rInt (if b then 1 else 0) := fun W1 l Q q => h W1 l _ fun v W2 l2 hv => .inr ⟨b, by rw [show v = .bl b from hv], q _ W2 l2 rfl⟩
theorem ev_intI {x : Int} (h : EvR ta σ W rInt x) : EvR (tCB oInt1 (tCons ta tNil)) σ W rInt x := fun W1 l Q q => h W1 l _ fun v W2 l2 hv => .inl ⟨x, by rw [show v = .int x from hv], q _ W2 l2 rfl⟩
/-- [x, y][int(test)] -/
theorem ev_pick2 {x y : α} {b : Bool} (ha : EvR ta σ W r x) (hb : EvR tb σ W r y) (hc : EvR tc σ W rBool b) : EvR (tOp (rIx K) (tLst (tCons ta (tCons tb tNil))) (tCB oInt1 (tCons tc tNil))) σ W r (if b then y else x) :=
  ev_ixL (EvO.fz (eo_lst (el_cons ha (el_cons hb el_nil)) (by simp))) (ev_intB hc) (by cases b <;> exact ⟨by decide, rfl⟩)
/-- an item by its place, with a default that is never told -/
theorem ev_ixD {xs : List Int} {i : Int} (ha : EvR ta σ W (rList rInt) xs) (hb : EvR tb σ W rInt i) (hi : 0 ≤ i ∧ i < (xs.length : Int)) : EvR (tOp (rIx K) ta tb) σ W rInt (xs.getD i.toNat 0) :=
  ev_ixL ha hb ⟨hi.1, by
    have : i.toNat < xs.length := by omega
    simp [List.getD, List.getElem?_eq_getElem this]⟩
theorem foldl_take {f : β → α → β} {b : β} {xs : List α} {i : Nat} {x : α} (h : xs[i]? = some x) : (xs.take (i + 1)).foldl f b = f ((xs.take i).foldl f b) x := by
  rw [List.take_add_one, h, List.foldl_append]; rfl
/-! ### what comprehensions with draws give -/
theorem lcr_all {P : β → Prop} {xs : List α} {zs : List β} (h : LcR (fun _ o => ∃ y, o = some y ∧ P y) xs zs) : zs.length = xs.length ∧ ∀ z ∈ zs, P z := by
  obtain ⟨os, h1, h2, rfl⟩ := h
  have key : ∀ (os : List (Option β)), (∀ o ∈ os, ∃ y, o = some y ∧ P y) → (os.filterMap id).length = os.length ∧ ∀ z ∈ os.filterMap id, P z := by
    intro os
    induction os with
    | nil => intro _; simp
    | cons o os ih =>
      intro h
      obtain ⟨y, rfl, hy⟩ := h o (by simp)
      obtain ⟨i1, i2⟩ := ih fun o' ho' => h o' (by simp [ho'])
      refine ⟨by simp [i1], fun z hz => ?_⟩
      simp at hz
      rcases hz with rfl | hz
      · exact hy
      · exact i2 z (by simpa using hz)
  rw [← h1]
  refine key os fun o ho => ?_
  obtain ⟨i, hi, e⟩ := List.getElem_of_mem ho
  have hi' : i < xs.length := by omega
  exact h2 i xs[i] o (List.getElem?_eq_getElem hi') (by rw [List.getElem?_eq_getElem hi, e])
theorem lcr_sub {P : α → Prop} {xs zs : List α} (h : LcR (fun x o => o = none ∨ (o = some x ∧ P x)) xs zs) : zs.Sublist xs ∧ ∀ z ∈ zs, P z := by
  obtain ⟨os, h1, h2, rfl⟩ := h
  induction xs generalizing os with
  | nil =>
    cases os with
    | nil => simp
    | cons o os => simp at h1
  | cons x xs ih =>
    cases os with
    | nil => simp at h1
    | cons o os =>
      obtain ⟨i1, i2⟩ := ih os (by simpa using h1) fun i y o' hy ho' => h2 (i + 1) y o' hy ho'
      rcases h2 0 x o rfl rfl with rfl | ⟨rfl, hx⟩
      · rw [List.filterMap_cons]
        exact ⟨i1.cons _, i2⟩
      · rw [List.filterMap_cons]
        exact ⟨i1.cons₂ _, fun z hz => by
          simp at hz
          rcases hz with rfl | hz
          · exact hx
          · exact i2 z (by simpa using hz)⟩
theorem LcR.imp {R R' : α → Option β → Prop} {xs : List α} {zs : List β} (h : LcR R xs zs) (k : ∀ x o, R x o → R' x o) : LcR R' xs zs := let ⟨os, h1, h2, h3⟩ := h; ⟨os, h1, fun i x o e1 e2 => k _ _ (h2 i x o e1 e2), h3⟩
theorem rg_nodup (n : Int) : (rg n).Nodup := by
  unfold rg List.Nodup
  refine List.pairwise_map.mpr ((List.nodup_range (n := n.toNat)).imp ?_)
  intro a b h e
  exact h (by omega)
theorem et_draw {G0 H0 : Hp} {d sc : Addr} {h0 : DiceAt d sc H0} {K : PySem.W.Frag} {σ : L2.St} {W : Wd (dF G0 H0 d sc h0)} {tb : TE} {ns : List Int} {E : XK} {i : Nat} {m c : Int} (hi : σ[i]? = some (some (.ref d))) (hs : SqL K G0 sc (ns.map V.int)) (hb : EvR tb σ W rInt m) (h1 : 0 < m) (h2 : m < 1073741824) :
    EvBN (tTest (tOp (oEqA K) (tCall (SpNext K) [] E (tCons (tVar i) (tCons tb tNil))) (tC (.int c)))) σ W (fun _ => True) := et_rN (ev_eqN (ev_next hi hs hb h1 h2) ev_int.n fun _ _ _ _ => trivial)
/-! ### data to be compared -/
structure Dc (r : Rp α) where
  d : α → PyData
  c : ∀ x, (d x).canLay0 = true
  n : Nat
  b : ∀ x, (d x).depth ≤ n
  dp : ∀ K G H v x, Ex G H → r.rel G v x → Dp K H v (d x)
  eq : ∀ x y, PyData.eqv (d x) (d y) = true ↔ x = y
def Dc.dt (f : Dc r) (h : f.n ≤ 64) : Dt r := ⟨f.d, fun x => by
  unfold SeqAt.shaped
  rw [f.c x, Bool.true_and, decide_eq_true_eq]
  exact Nat.le_trans (f.b x) h, f.dp, f.eq⟩
def dcInt : Dc rInt := ⟨.int, fun x => by simp [PyData.canLay0], 0, fun x => by simp [PyData.depth], fun K G H v x e h => by
  have h : v = .int x := h
  subst h; exact .int _, fun x y => by simp [PyData.eqv]⟩
def dcBool : Dc rBool := ⟨.bool, fun x => by simp [PyData.canLay0], 0, fun x => by simp [PyData.depth], fun K G H v x e h => by
  have h : v = .bl x := h
  subst h; exact .bl _, fun x y => by simp [PyData.eqv]⟩
theorem canAll {d : α → PyData} (h : ∀ x, (d x).canLay0 = true) (xs : List α) : PyData.canLayAll0 (xs.map d) = true := by
  induction xs with
  | nil => simp [PyData.canLayAll0]
  | cons x xs ih => simp [PyData.canLayAll0, h, ih]
theorem depAll {d : α → PyData} {n : Nat} (h : ∀ x, (d x).depth ≤ n) (xs : List α) : PyData.depthAll (xs.map d) ≤ n := by
  induction xs with
  | nil => simp [PyData.depthAll]
  | cons x xs ih => simp only [List.map_cons, PyData.depthAll]; have := h x; omega
theorem eqvAll {d : α → PyData} (h : ∀ x y, PyData.eqv (d x) (d y) = true ↔ x = y) : ∀ (xs ys : List α), PyData.eqvAll (xs.map d) (ys.map d) = true ↔ xs = ys
  | [], [] => by simp [PyData.eqvAll]
  | x :: xs, y :: ys => by simp [PyData.eqvAll, h, eqvAll h xs ys]
  | [], y :: ys => by simp [PyData.eqvAll]
  | x :: xs, [] => by simp [PyData.eqvAll]
def dcList (f : Dc r) : Dc (rList r) := ⟨fun xs => .list (xs.map f.d), fun xs => by simp only [PyData.canLay0]; exact canAll f.c xs, f.n + 1, fun xs => by simp only [PyData.depth]; have := depAll f.b xs; omega,
  fun K G H v xs e h => by
    obtain ⟨a, vs, rfl, h1, h2⟩ := h
    exact .lst (sqL_of e h1) (dpAll (fun v x hv => f.dp K G H v x e hv) h2),
  fun x y => by simp only [PyData.eqv]; exact eqvAll f.eq x y⟩
def dcT2 (f : Dc r) (g : Dc s) : Dc (rT2 r s) := ⟨fun x => .tuple [f.d x.1, g.d x.2], fun x => by simp [PyData.canLay0, PyData.canLayAll0, f.c, g.c], f.n + g.n + 1, fun x => by simp only [PyData.depth, PyData.depthAll]; have := f.b x.1; have := g.b x.2; omega,
  fun K G H v x e h => by
    obtain ⟨a, u, w, rfl, h1, h2, h3⟩ := h
    exact .tup (sqT_of e h1) (.cons (f.dp K G H u _ e h2) (.cons (g.dp K G H w _ e h3) .nil)),
  fun x y => by simp [PyData.eqv, PyData.eqvAll, f.eq, g.eq, Prod.ext_iff]⟩
def dcT3 (f : Dc r) (g : Dc s) (k : Dc t) : Dc (rT3 r s t) := ⟨fun x => .tuple [f.d x.1, g.d x.2.1, k.d x.2.2], fun x => by simp [PyData.canLay0, PyData.canLayAll0, f.c, g.c, k.c], f.n + g.n + k.n + 1, fun x => by simp only [PyData.depth, PyData.depthAll]; have := f.b x.1; have := g.b x.2.1; have := k.b x.2.2; omega,
  fun K G H v x e h => by
    obtain ⟨a, u, w, z, rfl, h1, h2, h3, h4⟩ := h
    exact .tup (sqT_of e h1) (.cons (f.dp K G H u _ e h2) (.cons (g.dp K G H w _ e h3) (.cons (k.dp K G H z _ e h4) .nil))),
  fun x y => by simp [PyData.eqv, PyData.eqvAll, f.eq, g.eq, k.eq, Prod.ext_iff]⟩
def dtInts : Dt (rList rInt) := (dcList dcInt).dt (by decide)
def dtLines : Dt (rList rLine) := (dcList (dcT3 dcInt dcInt dcInt)).dt (by decide)
end
end Q

/-! the rules with the written part named -/
namespace Q
open PySem L2
section
variable {X : Cx} (K : PySem.W.Frag) {a b e o l : Expr} {es : List Expr} {ta tb te to tl : TE} {t : TA} {f : Str} {pos pos' p : Pos}
theorem kEq (hu : X.A.units + 64 < cLine) (hK : X.K = K := by rfl) : OpR X (compareOp .Eq) (oEqA K) := hK ▸ op_eqA hu
theorem kNe (hu : X.A.units + 64 < cLine) (hK : X.K = K := by rfl) : OpR X (compareOp .NotEq) (oNeA K) := hK ▸ op_neA hu
theorem kIx (hK : X.K = K := by rfl) : IxR X (rIx K) := hK ▸ ix_seq
theorem kIn (hK : X.K = K := by rfl) : OpR X (compareOp .In) (rIn K false) := hK ▸ op_in_seq
theorem kNotIn (hK : X.K = K := by rfl) : OpR X (compareOp .NotIn) (rIn K true) := hK ▸ op_notIn_seq
theorem kSl (hK : X.K = K := by rfl) : SlR X (rSlL K) := hK ▸ sl_list
theorem kLen (hK : X.K = K := by rfl) : CallR X (.builtin "len") (oLenA K) := hK ▸ call_lenA
theorem kList (hK : X.K = K := by rfl) : CallR X (.type "list") (oList K) := hK ▸ call_list_of
theorem kSorted (hK : X.K = K := by rfl) : CallR X (.builtin "sorted") (rSortedI K) := hK ▸ cr_sortedI
theorem kSum (hc : X.calm = true) (hK : X.K = K := by rfl) : CallR X (.builtin "sum") (rSum K) := hK ▸ cr_sum hc
theorem kIsi (hK : X.K = K := by rfl) : CallR X (.builtin "isinstance") (rIsi K) := hK ▸ call_isi
theorem kFld (he : PE X e ta) (hb : attributeBase e f X.env (eval e X.env) = eval e X.env) (hK : X.K = K := by rfl) : PE X (.Attribute e f pos) (tFld K ta f) := hK ▸ pe_fld he hb
theorem kSetF (ha : PE X o ta) (hv : PE X e te) (hs : swapsWith e (some (.Attribute o f pos')) pos.line X.env = pure false) (hK : X.K = K := by rfl) : PS X (.Assign [.Attribute o f pos'] e pos) (sFld K ta te f) := hK ▸ ps_fld ha hv hs
theorem kPiList {tg : Expr} (hl : PE X l tl) (hK : X.K = K := by rfl) : PI X tg l (iList K tl) := hK ▸ pi_list hl
theorem kPiTup {tg : Expr} (hl : PE X l tl) (hK : X.K = K := by rfl) : PI X tg l (iTup K tl) := hK ▸ pi_tup hl
theorem kTupT {k : Nat} {g : TGs} {n : Nat} (hc : X.calm = true) (h : PGs X es g) (hn : (assignEach es X.env).length = n := by rfl) (hst : (assignEach es X.env).findIdx? (·.1) = none := by rfl) (hK : X.K = K := by rfl) : PG X (.Tuple es k pos) (gTup K n g) := hK ▸ pg_tup hc h hn hst
theorem kEnum {elts : List Expr} {kk : Nat} {tpos : Pos} (hg : Gl X "enumerate") (hm : X.mg "enumerate" = none) (ha : PA X [e] t) (hs : starEach [e] X.env = [(false, eval e X.env)] := by rfl) (hK : X.K = K := by rfl) :
    PI X (.Tuple elts kk tpos) (.Call (.Name "enumerate" p) [e] [] pos) (iEnum K t) := hK ▸ pi_enum hg hm ha hs
theorem kRev {k : Nat} {p1 p2 p3 : Pos} (he : PE X e te) (hK : X.K = K := by rfl) : PE X (.Subscript e (.Slice none none (some (.UnaryOp .USub (.Constant (.int 1) k p1) p2)) p3) pos) (tRevL K te) := hK ▸ pe_revL he
theorem kBm {name : Str} {apos cpos : Pos} {T id : String} {r : V → List V → Hp → VK → Prop} (pa : PlainAttrs T) (slot : Slot T name id) (hty : typeOf (.builtin id) = pure (.type "method_descriptor")) (hm : MtR X id r) (ho : PE X o to) (ha : PA X (e :: es) t)
    (hbase : attributeBase o name X.env (eval o X.env) = eval o X.env := by rfl)
    (hfew : ((backTo cpos (starEach (e :: es) X.env)).all (fun x => !x.1) && (backToKw cpos (keywordEach [] X.env)).all (fun x => x.1.isSome)
      && decide ((e :: es).length + ([] : List Keyword).length + (if ([] : List Keyword).isEmpty then 0 else 1) < 30)) = true := by rfl)
    (hline : (apos.endLine == cpos.line) = true := by rfl) (hs : starEach (e :: es) X.env = (false, eval e X.env) :: starEach es X.env := by rfl) (hplain : (backTo cpos (starEach es X.env)).any (·.1) = false := by rfl) (hK : X.K = K := by rfl) :
    PE X (.Call (.Attribute o name apos) (e :: es) [] cpos) (tBM K T r to t) := hK ▸ pe_bm pa slot hty hm ho ha hbase hfew hline hs hplain
theorem kBm0 {name : Str} {apos cpos : Pos} {T id : String} {r : V → List V → Hp → VK → Prop} (pa : PlainAttrs T) (slot : Slot T name id) (hty : typeOf (.builtin id) = pure (.type "method_descriptor")) (hm : MtR X id r) (ho : PE X o to)
    (hbase : attributeBase o name X.env (eval o X.env) = eval o X.env := by rfl) (hline : (apos.endLine == cpos.line) = true := by rfl) (hK : X.K = K := by rfl) : PE X (.Call (.Attribute o name apos) [] [] cpos) (tBM0 K T r to) := hK ▸ pe_bm0 pa slot hty hm ho hbase hline
end
end Q

namespace Q
open PySem L2
/-- one object may turn, and stays of one kind -/
def oF (G H : Hp) (x : Addr) (S : HO → Prop) (h : ∃ o, H x = some o ∧ S o) : Fr where
  G0 := G
  H0 := H
  M := fun a => a = x
  I := fun A => ∃ o, A x = some o ∧ S o
  st := fun A B e z => by
    obtain ⟨o, h1, h2⟩ := z
    exact ⟨o, (e x rfl).trans h1, h2⟩
  has := fun A a z e => by
    subst e
    obtain ⟨o, h1, h2⟩ := z
    rw [h1]; exact fun z => nomatch z
  i0 := h
def Wd.inO (G H : Hp) (x : Addr) (S : HO → Prop) (h : ∃ o, H x = some o ∧ S o) (gh : Ex G H) (gn : G x = none) : Wd (oF G H x S h) where
  G := G
  H := H
  gh := gh
  gg := Ex.refl _
  kp := fun a _ g _ => ⟨g, rfl⟩
  mg := fun a e => by
    have e : a = x := e
    rw [e]; exact gn
  iv := h
section
variable {F : Fr} {K : PySem.W.Frag} {σ : L2.St} {W W1 : Wd F} {ta tb te tc tl ti : TE} {tt tu : TT} {α β γ δ : Type} {r : Rp α} {s : Rp β} {t : Rp γ} {D : Ends} {tz tx ty : TS}
/-- the object that may turn, turned -/
def Wd.turn (W : Wd F) (p : Addr) (o : HO) (m : F.M p) (i : F.I (upd W.H p o)) : Wd F where
  G := W.G
  H := upd W.H p o
  gh := fun a u e => by rw [upd_ne (ne_of_none e (W.mg p m))]; exact W.gh a u e
  gg := W.gg
  kp := fun a n q z => by
    have ha : a ≠ p := fun y => n (y ▸ m)
    rw [upd_ne ha]; exact W.kp a n q z
  mg := W.mg
  iv := i
theorem Wd.turn_wk (W : Wd F) {p : Addr} {o : HO} (m : F.M p) (i : F.I (upd W.H p o)) : Wk W (W.turn p o m i) := ⟨Ex.refl _⟩
theorem Wd.turn_le (W : Wd F) {p : Addr} {o : HO} (m : F.M p) (i : F.I (upd W.H p o)) : Le W (W.turn p o m i) := ⟨Ex.refl _, fun a n g z => ⟨g, upd_ne fun y => n (y ▸ m)⟩⟩
/-- all but x, which is not frozen, is as it was -/
structure Off (x : Addr) (G H G' H' : Hp) : Prop where
  ex : Ex G G'
  gh : Ex G' H'
  kp : ∀ a, a ≠ x → G a = none → H a ≠ none → G' a = none ∧ H' a = H a
  gx : G' x = none
theorem Off.wd {G H : Hp} {x : Addr} (W : Wd (pF G H)) (g : G x = none) (h : H x ≠ none) : Off x G H W.G W.H ∧ W.H x = H x := by
  obtain ⟨h1, h2⟩ := W.kp x (fun z => z) g h
  exact ⟨⟨W.gg, W.gh, fun a _ q n => W.kp a (fun z => z) q n, h1⟩, h2⟩
theorem Off.store {G H G' H' : Hp} {x : Addr} {o : HO} (f : Off x G H G' H') : Off x G H G' (upd H' x o) :=
  ⟨f.ex, fun a u e => by rw [upd_ne (ne_of_none e f.gx)]; exact f.gh a u e, fun a n q z => by rw [upd_ne n]; exact f.kp a n q z, f.gx⟩
theorem Off.trans {G H G' H' G2 H2 : Hp} {x : Addr} (f : Off x G H G' H') (g : Off x G' H' G2 H2) : Off x G H G2 H2 :=
  ⟨f.ex.trans g.ex, g.gh, fun a n q z => by
    obtain ⟨h1, h2⟩ := f.kp a n q z
    obtain ⟨h3, h4⟩ := g.kp a n h1 (by rw [h2]; exact z)
    exact ⟨h3, h4.trans h2⟩, g.gx⟩
/-- self.f = e -/
theorem q_setF {K : PySem.W.Frag} {σ : L2.St} {G H : Hp} {gh : Ex G H} {te : TE} {α : Type} {r : Rp α} {D : Ends} {tz : TS} {i : Nat} {x C dx : Addr} {fs : List (Str × V)} {f : Str} {P : α → Prop} (hi : σ[i]? = some (some (.ref x))) (gx : G x = none) (hx : H x = some (.ins C dx fs)) (cl : Cls K C) (na : NoAttr K C f) (hl : fs.length < 1000)
    (h : EvN te σ (Wd.in G H gh) r P) (k : ∀ v (G' H' : Hp) y, Off x G H G' H' → H' x = some (.ins C dx (putF f v fs)) → r.rel G' v y → P y → tz D σ H') : tSeq (sFld K (tVar i) te f) tz D σ H :=
  h _ (Le.refl _) _ fun v W y l hv hy => by
    obtain ⟨o, e⟩ := Off.wd W gx (by rw [hx]; exact fun z => nomatch z)
    exact ⟨_, hi, x, C, dx, fs, rfl, e.trans hx, cl, na, hl, k v W.G _ y o.store upd_same hv hy⟩
theorem s_setF {K : PySem.W.Frag} {σ : L2.St} {G H : Hp} {gh : Ex G H} {te : TE} {α : Type} {r : Rp α} {D : Ends} {i : Nat} {x C dx : Addr} {fs : List (Str × V)} {f : Str} {P : α → Prop} (hi : σ[i]? = some (some (.ref x))) (gx : G x = none) (hx : H x = some (.ins C dx fs)) (cl : Cls K C) (na : NoAttr K C f) (hl : fs.length < 1000)
    (h : EvN te σ (Wd.in G H gh) r P) (k : ∀ v (G' H' : Hp) y, Off x G H G' H' → H' x = some (.ins C dx (putF f v fs)) → r.rel G' v y → P y → D.nx σ H') : sFld K (tVar i) te f D σ H :=
  h _ (Le.refl _) _ fun v W y l hv hy => by
    obtain ⟨o, e⟩ := Off.wd W gx (by rw [hx]; exact fun z => nomatch z)
    exact ⟨_, hi, x, C, dx, fs, rfl, e.trans hx, cl, na, hl, k v W.G _ y o.store upd_same hv hy⟩
/-- Net(..), of a net that can be -/
structure NetOk (ns ss : List Int) (ls : List (Int × Int × Int)) : Prop where
  n1 : 1 ≤ ns.length ∧ ns.length ≤ 10
  n2 : ∀ x ∈ ns, 0 ≤ x ∧ x ≤ 1000000
  s1 : ss.Nodup
  s2 : ∀ x ∈ ss, 0 ≤ x ∧ x < (ns.length : Int)
  l1 : ls.length ≤ 10
  l2 : ∀ x ∈ ls, (0 ≤ x.1 ∧ x.1 < (ns.length : Int)) ∧ (0 ≤ x.2.1 ∧ x.2.1 < (ns.length : Int)) ∧ x.1 ≠ x.2.1 ∧ 0 ≤ x.2.2 ∧ x.2.2 ≤ 1000000
def SpInit (C : Addr) : Sp := fun vs H Q _ => ∃ (G : Hp) (x dx : Addr) (v1 v2 v3 : V) (ns ss : List Int) (ls : List (Int × Int × Int)), vs = [.ref x, v1, v2, v3] ∧ Ex G H ∧ G x = none ∧ H x = some (.ins C dx []) ∧
  (rList rInt).rel G v1 ns ∧ (rList rInt).rel G v2 ss ∧ (rList rLine).rel G v3 ls ∧ NetOk ns ss ls ∧
  ∀ (G' H' : Hp) (p q u : Addr) (ss' : List Int), Ex G G' → Ex G' H' → (∀ a, a ≠ x → G a = none → H a ≠ none → G' a = none ∧ H' a = H a) → G' x = none → H' x = some (.ins C dx (netFs p q u)) →
    (rList rInt).rel G' (.ref p) ns → (rList rInt).rel G' (.ref q) ss' → (rList rLine).rel G' (.ref u) ls → ss'.Perm ss → ss'.Pairwise (· ≤ ·) → Q .non H'
theorem ev_make {C : Addr} {E : XK} {ns ss : List Int} {ls : List (Int × Int × Int)} (ha : EvR ta σ W (rList rInt) ns) (hb : EvR tb σ W (rList rInt) ss) (hc : EvR tc σ W (rList rLine) ls) (ok : NetOk ns ss ls) :
    EvN (tMake C (SpInit C) [] E (tCons ta (tCons tb (tCons tc tNil)))) σ W (rNet C) (fun n => n.needs = ns ∧ n.lines = ls ∧ n.sources.Perm ss ∧ n.sources.Pairwise (· ≤ ·)) := fun W1 l Q q =>
  ha W1 l _ fun v1 W2 l2 h1 => hb W2 (l.trans l2) _ fun v2 W3 l3 h2 => hc W3 ((l.trans l2).trans l3) _ fun v3 W4 l4 h3 => fun x dx hx hd ne => by
    have nx : ∀ {a : Addr} {o : HO}, W4.H a = some o → a ≠ x := fun e => ne_of_none e hx
    have nd : ∀ {a : Addr} {o : HO}, W4.H a = some o → a ≠ dx := fun e => ne_of_none e hd
    have up : ∀ {a : Addr} {o : HO}, W4.H a = some o → (upd (upd W4.H dx (.own x)) x (.ins C dx [])) a = some o := fun e => by rw [upd_ne (nx e), upd_ne (nd e)]; exact e
    refine ⟨W4.G, x, dx, v1, v2, v3, ns, ss, ls, rfl, fun a o e => up (W4.gh a o e), W4.g hx, upd_same, (rList rInt).mono (l3.ex.trans l4.ex) h1, (rList rInt).mono l4.ex h2, h3, ok, fun G' H' p p2 u ss' g1 g2 kp gx ex r1 r2 r3 pm so => ⟨rfl, ?_⟩⟩
    -- the world behind: the instance frozen
    have k2 : ∀ a, W4.G a = none → W4.H a ≠ none → G' a = none ∧ H' a = W4.H a := fun a e n => by
      cases o : W4.H a with
      | none => exact absurd o n
      | some u =>
        obtain ⟨z1, z2⟩ := kp a (nx o) e (by rw [up o]; exact fun z => nomatch z)
        exact ⟨z1, z2.trans (up o)⟩
    have gG : Ex G' (upd G' x (.ins C dx (netFs p p2 u))) := Ex.new gx
    have gH : Ex (upd G' x (.ins C dx (netFs p p2 u))) H' := fun a o e => by
      by_cases h : a = x
      · subst h; rw [upd_same] at e; rw [ex]; exact e
      · rw [upd_ne h] at e; exact g2 a o e
    have nxG : ∀ a, W4.H a ≠ none → a ≠ x := fun a n z => n (by rw [z]; exact hx)
    have W5 : ∃ W5 : Wd F, W5.G = upd G' x (.ins C dx (netFs p p2 u)) ∧ W5.H = H' ∧ Le W4 W5 := by
      refine ⟨⟨_, H', gH, W4.gg.trans (g1.trans gG), fun a m g n => ?_, fun a m => ?_, F.st _ _ (fun a m => (k2 a (W4.mg a m) (F.has _ _ W4.iv m)).2) W4.iv⟩, rfl, rfl, g1.trans gG, fun a m g n => ?_⟩
      · obtain ⟨h1, h2⟩ := W4.kp a m g n
        obtain ⟨h3, h4⟩ := k2 a h1 (by rw [h2]; exact n)
        exact ⟨(upd_ne (nxG a (by rw [h2]; exact n))).trans h3, h4.trans h2⟩
      · have n := F.has _ _ W4.iv m
        exact (upd_ne (nxG a n)).trans (k2 a (W4.mg a m) n).1
      · obtain ⟨h3, h4⟩ := k2 a g n
        exact ⟨(upd_ne (nxG a n)).trans h3, h4⟩
    obtain ⟨W5, e1, e2, l5⟩ := W5
    subst e2
    refine q (.ref x) W5 ⟨ns, ss', ls⟩ ((l2.trans l3).trans (l4.trans l5)) ⟨x, dx, p, p2, u, rfl, ?_, ?_, ?_, ?_⟩ ⟨rfl, rfl, pm, so⟩
    · rw [e1]; exact upd_same
    · rw [e1]; exact (rList rInt).mono gG r1
    · rw [e1]; exact (rList rInt).mono gG r2
    · rw [e1]; exact (rList rLine).mono gG r3
end
end Q

namespace Q
open PySem L2
section
variable {F : Fr} {K : PySem.W.Frag} {σ : L2.St} {W W1 : Wd F} {ta tb te tc tl ti tk tv : TE} {tt tu : TT} {α β γ δ : Type} {r : Rp α} {s : Rp β} {t : Rp γ} {D : Ends} {tz tx ty : TS}
/-! ### promises that leave something open -/
def FnN1 (r : Rp α) (s : Rp β) (pre : α → Prop) (post : α → β → Prop) : Sp := fun vs H Q _ => ∃ G v x, vs = [v] ∧ Ex G H ∧ r.rel G v x ∧ pre x ∧ ∀ u (W : Wd (pF G H)) z, s.rel W.G u z → post x z → Q u W.H
def FnN2 (r : Rp α) (s : Rp β) (t : Rp γ) (pre : α → β → Prop) (post : α → β → γ → Prop) : Sp := fun vs H Q _ => ∃ G v w x y, vs = [v, w] ∧ Ex G H ∧ r.rel G v x ∧ s.rel G w y ∧ pre x y ∧ ∀ u (W : Wd (pF G H)) z, t.rel W.G u z → post x y z → Q u W.H
def FnN3 (r : Rp α) (s : Rp β) (t : Rp γ) (q : Rp δ) (pre : α → β → γ → Prop) (post : α → β → γ → δ → Prop) : Sp := fun vs H Q _ => ∃ G v w y a b c, vs = [v, w, y] ∧ Ex G H ∧ r.rel G v a ∧ s.rel G w b ∧ t.rel G y c ∧ pre a b c ∧ ∀ u (W : Wd (pF G H)) z, q.rel W.G u z → post a b c z → Q u W.H
theorem ev_callN1 {pre : α → Prop} {post : α → β → Prop} {E : XK} {x : α} (ha : EvR ta σ W r x) (hp : pre x) : EvN (tCall (FnN1 r s pre post) [] E (tCons ta tNil)) σ W s (post x) := fun W1 l Q q =>
  ha W1 l _ fun v W2 l2 hv => ⟨W2.G, v, x, rfl, W2.gh, hv, hp, fun u W3 z hu hz => q u (W2.back W3) z (l2.trans (W2.back_le W3)) hu hz⟩
theorem ev_callN2 {pre : α → β → Prop} {post : α → β → γ → Prop} {E : XK} {x : α} {y : β} (ha : EvR ta σ W r x) (hb : EvR tb σ W s y) (hp : pre x y) : EvN (tCall (FnN2 r s t pre post) [] E (tCons ta (tCons tb tNil))) σ W t (post x y) := fun W1 l Q q =>
  ha W1 l _ fun v W2 l2 hv => hb W2 (l.trans l2) _ fun w W3 l3 hw => ⟨W3.G, v, w, x, y, rfl, W3.gh, r.mono l3.ex hv, hw, hp, fun u W4 z hu hz => q u (W3.back W4) z ((l2.trans l3).trans (W3.back_le W4)) hu hz⟩
theorem ev_callN3 {q : Rp δ} {pre : α → β → γ → Prop} {post : α → β → γ → δ → Prop} {E : XK} {x : α} {y : β} {z : γ} (ha : EvR ta σ W r x) (hb : EvR tb σ W s y) (hc : EvR tc σ W t z) (hp : pre x y z) : EvN (tCall (FnN3 r s t q pre post) [] E (tCons ta (tCons tb (tCons tc tNil)))) σ W q (post x y z) := fun W1 l Q k =>
  ha W1 l _ fun v W2 l2 hv => hb W2 (l.trans l2) _ fun w W3 l3 hw => hc W3 ((l.trans l2).trans l3) _ fun u W4 l4 hu => ⟨W4.G, v, w, u, x, y, z, rfl, W4.gh, r.mono (l3.ex.trans l4.ex) hv, s.mono l4.ex hw, hu, hp, fun u W5 o h5 ho => k u (W4.back W5) o (((l2.trans l3).trans l4).trans (W4.back_le W5)) h5 ho⟩
theorem ev_callN2' {pre : α → β → Prop} {post : α → β → γ → Prop} {P : α → Prop} {P' : β → Prop} {R : γ → Prop} {E : XK} (ha : EvN ta σ W r P) (hb : EvN tb σ W s P') (hp : ∀ x y, P x → P' y → pre x y) (hR : ∀ x y z, P x → P' y → post x y z → R z) : EvN (tCall (FnN2 r s t pre post) [] E (tCons ta (tCons tb tNil))) σ W t R := fun W1 l Q q =>
  ha W1 l _ fun v W2 x l2 hv hx => hb W2 (l.trans l2) _ fun w W3 y l3 hw hy => ⟨W3.G, v, w, x, y, rfl, W3.gh, r.mono l3.ex hv, hw, hp x y hx hy, fun u W4 z hu hz => q u (W3.back W4) z ((l2.trans l3).trans (W3.back_le W4)) hu (hR x y z hx hy hz)⟩
theorem ev_meth0N {C : Addr} {n : NetD} {m : Str} {pre : NetD → Prop} {post : NetD → β → Prop} {E : XK} (h1 : ¬ m = "_needs") (h2 : ¬ m = "_sources") (h3 : ¬ m = "_lines") (h : EvR ta σ W (rNet C) n) (hp : pre n) : EvN (tMeth C m (FnN1 (rNet C) s pre post) [] E ta tNil) σ W s (post n) := fun W1 l Q q =>
  h W1 l _ fun v W2 l2 hv => by
    obtain ⟨a, dx, p, p2, u, rfl, g2, g3, g4, g5⟩ := id hv
    exact ⟨a, dx, _, rfl, W2.gh _ _ g2, nf_none _ _ _ h1 h2 h3, W2.G, _, n, rfl, W2.gh, hv, hp, fun u W3 z hu hz => q u (W2.back W3) z (l2.trans (W2.back_le W3)) hu hz⟩
theorem ev_lenAN {P : List α → Prop} {R : Int → Prop} (ha : EvN ta σ W (rList r) P) (hR : ∀ xs, P xs → R (xs.length : Nat)) : EvN (tCB (oLenA K) (tCons ta tNil)) σ W rInt R := fun W1 l Q q => ha W1 l _ fun v W2 xs l2 hv hx => by
  obtain ⟨a, vs, rfl, h1, h2⟩ := hv
  exact .inl ⟨a, vs, rfl, .inl (sqL_of W2.gh h1), q _ W2 _ l2 (by rw [h2.1]; rfl) (hR xs hx)⟩
theorem eon_keys {P : List (Int × α) → Prop} (ha : EvN ta σ W (rDict r) P) : EvON (tCB rListD (tCons ta tNil)) σ W rInt (fun zs => ∃ xs, P xs ∧ zs = xs.map (·.1)) := fun W1 l Q q => ha W1 l _ fun v W2 xs l2 hv hx => by
  obtain ⟨a, kvs, rfl, h1, h2⟩ := hv
  refine ⟨a, kvs, rfl, W2.gh _ _ h1, fun p hp => q p _ (W2.own p _ hp) _ (l2.trans (W2.own_le hp)) (le_fresh l2 hp) (W2.own_at hp) ?_ ⟨xs, hx, rfl⟩⟩
  refine DictR.ind (P := fun kvs xs => All2 (rInt.rel W2.G) (kvs.map fun kv => kV kv.1) (xs.map (·.1))) All2.nil (fun v x kvs xs hr _ ih => ?_) h2
  exact ih.cons rfl
/-! ### dict comprehensions over a list -/
/-- what is gone over turn by turn, n turns: S the end, R that there is a turn, T the turn with what it must reach -/
theorem by_count {n : Nat} {S R : Nat → Hp → Prop} {Z : Hp → Prop} {T : Nat → Hp → (Hp → Prop) → Prop} {H0 : Hp} (Pv : Nat → Hp → Prop) (h0 : Pv 0 H0) (he : ∀ H, Pv n H → S n H ∧ Z H) (ht : ∀ i H, i < n → Pv i H → R i H ∧ T i H (Pv (i + 1))) :
    ∃ W : Nat → Nat → Hp → Prop, (∃ m, W 0 m H0) ∧ ∀ i m H, W i m H → (S i H ∧ Z H) ∨ (R i H ∧ ∃ Nx : Hp → Prop, (∀ H', Nx H' → ∃ m', m' < m ∧ W (i + 1) m' H') ∧ T i H Nx) :=
  ⟨fun i m H => i + m = n ∧ Pv i H, ⟨n, Nat.zero_add n, h0⟩, fun i m H w => by
    obtain ⟨e, q⟩ := w
    cases m with
    | zero =>
      obtain rfl : i = n := e
      exact .inl (he H q)
    | succ m =>
      obtain ⟨r, t⟩ := ht i H (by omega) q
      exact .inr ⟨r, Pv (i + 1), fun H' p' => ⟨m, Nat.lt_succ_self m, by omega, p'⟩, t⟩⟩
/-- a comprehension's reading of a list's turn: k what is done with the turn's answer -/
abbrev TurnL (K : PySem.W.Frag) (a : Addr) (g : TG) (tt : TT) (vs : List Nat) (σ : L2.St) (k : L2.St → Hp → (Hp → Prop) → Prop) (i : Nat) (H : Hp) (Nx : Hp → Prop) : Prop :=
  ∀ x H', (Itl K a).yld i H x H' → g x (wipe σ vs) H' fun σ2 H2 => wipe σ2 vs = wipe σ vs ∧ tt σ2 H2 fun b H3 => if b = true then k σ2 H3 Nx else Nx H3
theorem over_list {a : Addr} {xs : List V} {g : TG} {tt : TT} {vs : List Nat} {σ : L2.St} {k : L2.St → Hp → (Hp → Prop) → Prop} {H0 : Hp} {Z : Hp → Prop} (Pv : Nat → Hp → Prop) (h0 : Pv 0 H0) (hl : ∀ i H, i ≤ xs.length → Pv i H → SqL K H a xs) 
    (hs : ∀ (i : Nat) x H, xs[i]? = some x → Pv i H → g x (wipe σ vs) H fun σ2 H2 => wipe σ2 vs = wipe σ vs ∧ tt σ2 H2 fun b H3 => if b = true then k σ2 H3 (Pv (i + 1)) else Pv (i + 1) H3) (hd : ∀ H, Pv xs.length H → Z H) :
    ∃ W : Nat → Nat → Hp → Prop, (∃ m, W 0 m H0) ∧ ∀ i m H, W i m H → ((Itl K a).stop i H ∧ Z H) ∨ ((Itl K a).go i H ∧ ∃ Nx : Hp → Prop, (∀ H', Nx H' → ∃ m', m' < m ∧ W (i + 1) m' H') ∧ TurnL K a g tt vs σ k i H Nx) :=
  by_count (n := xs.length) Pv h0 (fun H p => ⟨⟨xs, hl _ H (Nat.le_refl _) p, Nat.le_refl _⟩, hd H p⟩) fun i H lt p =>
    have at' := hl i H (Nat.le_of_lt lt) p
    have e := List.getElem?_eq_getElem lt
    ⟨⟨xs, xs[i], at', e⟩, fun x H' y => by
      have ex : xs[i]? = some x := y.2 xs at'
      have eH : H' = H := y.1
      rw [eH]
      exact hs i x H ex p⟩
/-- a new dict of one's own -/
def EvOD (te : TE) (σ : L2.St) (W : Wd F) (r : Rp α) (xs : List (Int × α)) : Prop := ∀ W1 : Wd F, Le W W1 → ∀ Q : VK, (∀ p (W2 : Wd F), Le W1 W2 → W1.H p = none → OwnD W2 p r xs → Q (.ref p) W2.H) → te σ W1.H Q
theorem dput_new {xs : List (Int × α)} {k : Int} {v : α} (h : dlook xs k = none) : dput xs k v = xs ++ [(k, v)] := by
  unfold dput
  rw [if_neg]
  intro z
  rw [List.any_eq_true] at z
  obtain ⟨p, hp, e⟩ := z
  unfold dlook at h
  rw [Option.map_eq_none_iff, List.find?_eq_none] at h
  exact h p hp e
theorem dlook_none {xs : List (Int × α)} {k : Int} : dlook xs k = none ↔ k ∉ xs.map (·.1) := by
  unfold dlook
  rw [Option.map_eq_none_iff, List.find?_eq_none]
  constructor
  · intro h hm
    obtain ⟨p, hp, e⟩ := List.mem_map.mp hm
    exact h p hp (by simp [e])
  · intro h p hp e
    exact h (List.mem_map.mpr ⟨p, hp, by simpa using e⟩)
theorem dlook_some {xs : List (Int × α)} {k : Int} : (dlook xs k).isSome = decide (k ∈ xs.map (·.1)) := by
  by_cases h : k ∈ xs.map (·.1)
  · rw [decide_eq_true h]
    cases e : dlook xs k with
    | some x => rfl
    | none => exact absurd h (dlook_none.mp e)
  · rw [decide_eq_false h, dlook_none.mpr h]; rfl
theorem le_putD {W W1 : Wd F} {p : Addr} {o : HO} (l : Le W W1) (h : W.H p = none) (h0 : F.H0 p = none) (g : W1.G p = none) : Le W (W1.put p o h0 g) := le_put l h h0 g
/-- {k: v for x in xs}, the keys of xs's items unlike -/
theorem eod_dc {xs : List α} {j : Nat} {ws : List Nat} (kf : α → Int) (g : α → β) (h : EvR tl σ W (rList r) xs) (hz : xs.length ≤ 40000) (nd : (xs.map kf).Nodup) (hw : ∀ x, wipe ((wipe σ ws).set j (some x)) ws = wipe σ ws)
    (c1 : ∀ (i : Nat) x v (W1 : Wd F), Le W W1 → xs[i]? = some x → r.rel W1.G v x → EvR tk ((wipe σ ws).set j (some v)) W1 rInt (kf x))
    (c2 : ∀ (i : Nat) x v (W1 : Wd F), Le W W1 → xs[i]? = some x → r.rel W1.G v x → EvR tv ((wipe σ ws).set j (some v)) W1 s (g x)) : EvOD (tDc (iList K tl) (gName j) tYes tk tv ws) σ W s (xs.map fun x => (kf x, g x)) := fun W1 l Q q => by
  refine h W1 l _ fun v W2 l2 hv => ?_
  obtain ⟨a, vs, rfl, h1, h2⟩ := hv
  refine ⟨a, rfl, ⟨vs, sqL_of W2.gh h1⟩, fun p hp => over_list (K := K) (a := a) (xs := vs) (fun i H => ∃ W3 : Wd F, W3.H = H ∧ Le W2 W3 ∧ OwnD W3 p s ((xs.take i).map fun x => (kf x, g x))) ⟨W2.own p _ hp, rfl, W2.own_le hp, ⟨[], W2.own_at hp, DictR.nil⟩⟩ ?_ ?_ ?_⟩
  · rintro i _ _ ⟨W3, rfl, l3, _⟩
    exact sqL_of W3.gh (l3.ex _ _ h1)
  · rintro i y _ hi ⟨W3, rfl, l3, o⟩
    obtain ⟨x, hx, hr⟩ := h2.getv hi
    have hi' := (List.getElem?_eq_some_iff.mp hx).1
    refine ⟨hw y, ?_⟩
    refine c1 i x y W2 (l.trans l2) hx hr W3 l3 _ fun yk W4 l4 hk => c2 i x y W2 (l.trans l2) hx hr W4 (l3.trans l4) _ fun yv W5 l5 hv => ?_
    obtain ⟨kvs, o1, o2⟩ := ((o.up l4).up l5).ex
    have hk : yk = .int (kf x) := hk
    subst hk
    refine ⟨kvs, Sum.inl (kf x), rfl, o1.h, by rw [o2.1]; exact Nat.lt_of_le_of_lt (show ((xs.take i).map fun x => (kf x, g x)).length ≤ 40000 by rw [List.length_map, List.length_take]; omega) (by decide), W5.put p _ o1.z o1.g, rfl, le_put ((l3.trans l4).trans l5) hp _ _, ⟨_, W5.put_at o1.z o1.g, ?_⟩⟩
    have e : (xs.take (i + 1)).map (fun x => (kf x, g x)) = dput ((xs.take i).map fun x => (kf x, g x)) (kf x) (g x) := by
      rw [dput_new, List.take_add_one, hx, List.map_append]
      · rfl
      · rw [dlook_none, List.map_map]
        intro hm
        obtain ⟨x', hx', e⟩ := List.mem_map.mp hm
        have e : kf x' = kf x := e
        obtain ⟨j, hj, ej⟩ := List.getElem_of_mem hx'
        rw [List.getElem_take] at ej
        have hj' : j < i := by rw [List.length_take] at hj; omega
        have := (List.getElem_inj nd (h₀ := by simp; omega) (h₁ := by simpa using hi')).mp (show (xs.map kf)[j]'(by simp; omega) = (xs.map kf)[i]'(by simpa using hi') by
          rw [List.getElem_map, List.getElem_map, ej, e]
          have := (List.getElem?_eq_some_iff.mp hx).2
          rw [this])
        omega
    rw [e]
    exact o2.put hv
  · rintro _ ⟨W3, rfl, l3, o⟩
    rw [h2.1, List.take_length] at o
    exact q p W3 (l2.trans l3) (le_fresh l2 hp) o
theorem s_asgOD {i : Nat} {xs : List (Int × α)} (h : EvOD te σ W r xs) (k : ∀ p (W1 : Wd F), Le W W1 → W.H p = none → OwnD W1 p r xs → D.nx (σ.set i (some (.ref p))) W1.H) : tAsg te (gName i) D σ W.H :=
  h W (Le.refl _) _ fun p W1 l hp o => k p W1 l hp o
theorem q_asgOD {i : Nat} {xs : List (Int × α)} (h : EvOD te σ W r xs) (k : ∀ p (W1 : Wd F), Le W W1 → W.H p = none → OwnD W1 p r xs → tz D (σ.set i (some (.ref p))) W1.H) : tSeq (tAsg te (gName i)) tz D σ W.H := s_asgOD (D := { D with nx := tz D }) h k
/-! ### a dict of lists, all of one's own: keys 0 .. n - 1 -/
def keysOf (n : Nat) (as : Nat → Addr) : List (Key × V) := (List.range n).map fun (i : Nat) => ((Sum.inl (i : Int) : Key), V.ref (as i))
theorem keysOf_look {n : Nat} {as : Nat → Addr} {k : Int} (h : 0 ≤ k ∧ k < (n : Int)) : valV (keysOf n as) (Sum.inl k : Key) = some (.ref (as k.toNat)) := by
  have e : ∀ l : List Nat, k.toNat ∈ l → valV (l.map fun (i : Nat) => ((Sum.inl (i : Int) : Key), V.ref (as i))) (Sum.inl k : Key) = some (.ref (as k.toNat)) := by
    intro l
    induction l with
    | nil => intro hm; cases hm
    | cons i l ih =>
      intro hm
      rw [List.map_cons]
      by_cases hi : (i : Int) = k
      · rw [valV_pos (by simp [hi])]
        have : i = k.toNat := by omega
        rw [this]
      · rw [valV_neg (show ¬ (Sum.inl (i : Int) : Key) = Sum.inl k from fun z => hi (Sum.inl.inj z))]
        refine ih ?_
        rcases List.mem_cons.mp hm with z | z
        · omega
        · exact z
  exact e _ (List.mem_range.mpr (by omega))
structure OwnDL (W : Wd F) (p : Addr) (n : Nat) (as : Nat → Addr) (r : Rp α) (f : Nat → List α) : Prop where
  d : Own W p (.dK (keysOf n as))
  l : ∀ i, i < n → OwnL W (as i) r (f i)
  inj : ∀ i j, i < n → j < n → as i = as j → i = j
  ne : ∀ i, i < n → as i ≠ p
theorem OwnDL.up {p : Addr} {n : Nat} {as : Nat → Addr} {f : Nat → List α} (l : Le W W1) (o : OwnDL W p n as r f) : OwnDL W1 p n as r f := ⟨o.d.up l, fun i hi => (o.l i hi).up l, o.inj, o.ne⟩
/-- {x: [] for x in range's list} -/
theorem eo_dcN {n : Nat} {j : Nat} {ws : List Nat} (h : EvR tl σ W (rList rInt) (rg (n : Int))) (hz : n ≤ 40000) (hw : ∀ x, wipe ((wipe σ ws).set j (some x)) ws = wipe σ ws) (hj : ∀ x : V, ((wipe σ ws).set j (some x))[j]? = some (some x)) (W1 : Wd F) (l : Le W W1) (Q : VK)
    (q : ∀ p as (W2 : Wd F), Le W1 W2 → W1.H p = none → OwnDL W2 p n as r (fun _ => []) → Q (.ref p) W2.H) : tDc (iList K tl) (gName j) tYes (tVar j) (tLst tNil) ws σ W1.H Q := by
  refine h W1 l _ fun v W2 l2 hv => ?_
  obtain ⟨a, vs, rfl, h1, h2⟩ := hv
  have ln : (rg (n : Int)).length = n := by rw [rg_len]; simp
  refine ⟨a, rfl, ⟨vs, sqL_of W2.gh h1⟩, fun p hp => over_list (K := K) (a := a) (xs := vs) (fun i H => ∃ (W3 : Wd F) (as : Nat → Addr), W3.H = H ∧ Le W2 W3 ∧ OwnDL W3 p i as r (fun _ => [])) ⟨W2.own p _ hp, fun _ => 0, rfl, W2.own_le hp, W2.own_at hp, fun i hi => absurd hi (Nat.not_lt_zero _), fun i j hi => absurd hi (Nat.not_lt_zero _), fun i hi => absurd hi (Nat.not_lt_zero _)⟩ ?_ ?_ ?_⟩
  · rintro i _ _ ⟨W3, as, rfl, l3, _⟩
    exact sqL_of W3.gh (l3.ex _ _ h1)
  · rintro i y _ hi ⟨W3, as, rfl, l3, o⟩
    obtain ⟨x, hx, hr⟩ := h2.getv hi
    have hr : y = .int x := hr
    subst hr
    obtain ⟨hin, rfl⟩ := rg_get.mp hx
    have hin : i < n := by simpa using hin
    refine ⟨hw _, ?_⟩
    refine ⟨_, hj _, by show 0 ≤ sizeLine; exact Nat.zero_le _, fun b hb => ?_⟩
    -- the new list at b
    have o2 := o.up (W3.own_le (o := .lst []) hb)
    have ob : OwnL (W3.own b (.lst []) hb) b r [] := ⟨[], W3.own_at hb, All2.nil⟩
    have nb : ∀ i', i' < i → as i' ≠ b := fun i' hi' => (o.l i' hi').ne hb
    have npb : p ≠ b := o.d.ne hb
    refine ⟨keysOf i as, Sum.inl ((i : Nat) : Int), rfl, o2.d.h, by unfold keysOf; rw [List.length_map, List.length_range]; exact Nat.lt_of_lt_of_le (show i < 100000 by omega) (by decide), (W3.own b (.lst []) hb).put p _ o2.d.z o2.d.g, fun m => if m = i then b else as m, rfl, le_put (l3.trans (W3.own_le hb)) hp _ _, ?_⟩
    have e : putK (keysOf i as) (Sum.inl ((i : Nat) : Int) : Key) (.ref b) = keysOf (i + 1) (fun m => if m = i then b else as m) := by
      rw [putK_new]
      · unfold keysOf
        rw [List.range_succ, List.map_append]
        congr 1
        · apply List.map_congr_left
          intro m hm
          have := List.mem_range.mp hm
          dsimp only
          rw [if_neg (by omega)]
        · simp
      · unfold keysOf
        have : ∀ l : List Nat, (∀ m ∈ l, m ≠ i) → valV (l.map fun (i : Nat) => ((Sum.inl (i : Int) : Key), V.ref (as i))) (Sum.inl (i : Int) : Key) = none := by
          intro l
          induction l with
          | nil => intro _; rfl
          | cons m l ih =>
            intro hm
            rw [List.map_cons, valV_neg (show ¬ (Sum.inl (m : Int) : Key) = Sum.inl (i : Int) from fun z => hm m (by simp) (by have := Sum.inl.inj z; omega))]
            exact ih fun m' hm' => hm m' (by simp [hm'])
        exact this _ fun m hm => by have := List.mem_range.mp hm; omega
    have kp : Kp p (W3.own b (.lst []) hb) ((W3.own b (.lst []) hb).put p (.dK (putK (keysOf i as) (Sum.inl ((i : Nat) : Int) : Key) (.ref b))) o2.d.z o2.d.g) := ⟨Ex.refl _, fun q u ne x => x.put ne _ _⟩
    refine ⟨?_, fun m hm => ?_, fun m m' hm hm' em => ?_, fun m hm => ?_⟩ <;> try dsimp only at *
    · have z := (W3.own b (.lst []) hb).put_at (o := .dK (putK (keysOf i as) (Sum.inl ((i : Nat) : Int) : Key) (.ref b))) o2.d.z o2.d.g
      rw [e] at z ⊢
      exact z
    · by_cases hmi : m = i
      · rw [if_pos hmi]; exact ob.kp kp npb.symm
      · rw [if_neg hmi]; exact (o2.l m (by omega)).kp kp (o.ne m (by omega))
    · by_cases hmi : m = i <;> by_cases hmi' : m' = i
      · omega
      · rw [if_pos hmi, if_neg hmi'] at em
        exact absurd em.symm (nb m' (by omega))
      · rw [if_neg hmi, if_pos hmi'] at em
        exact absurd em (nb m (by omega))
      · rw [if_neg hmi, if_neg hmi'] at em
        exact o.inj m m' (by omega) (by omega) em
    · by_cases hmi : m = i
      · rw [if_pos hmi]; exact npb.symm
      · rw [if_neg hmi]; exact o.ne m (by omega)
  · rintro _ ⟨W3, as, rfl, l3, o⟩
    rw [h2.1, ln] at o
    exact q p as W3 (l2.trans l3) (le_fresh l2 hp) o
/-- d[k].append(e) -/
theorem s_appD {i : Nat} {p : Addr} {n : Nat} {as : Nat → Addr} {f : Nat → List α} {k : Int} {x : α} (hi : σ[i]? = some (some (.ref p))) (o : OwnDL W p n as r f) (hk : EvR tk σ W rInt k) (hk2 : 0 ≤ k ∧ k < (n : Int)) (h : EvR te σ W r x) (hz : (f k.toNat).length < 100000)
    (c : ∀ W1 : Wd F, Wk W W1 → OwnDL W1 p n as r (fun m => if m = k.toNat then f m ++ [x] else f m) → (∀ q u, q ≠ as k.toNat → Own W q u → Own W1 q u) → D.nx σ W1.H) : tDrop (tBM K "list" rAppend (tDGet (tVar i) tk) (tCons te tNil)) D σ W.H := by
  refine ⟨_, hi, hk W (Le.refl _) _ fun w W1 l hw => ?_⟩
  have hw : w = .int k := hw
  subst hw
  have o1 := o.up l
  have kn : k.toNat < n := by omega
  refine ⟨p, .ref (as k.toNat), rfl, ?_, ?_⟩
  · have z := DGet.k (H := W1.H) (k := (Sum.inl k : Key)) o1.d.h
    rw [keysOf_look hk2] at z
    exact z
  · obtain ⟨vs, g1, g2⟩ := (o1.l _ kn).ex
    refine ⟨.inl ⟨rfl, _, sqL_of (Ex.refl _) g1.h⟩, h W1 l _ fun v W2 l2 hv => ?_⟩
    have g3 := g1.up l2
    have o2 := o1.up l2
    refine ⟨as k.toNat, vs, v, rfl, rfl, g3.h, by rw [g2.1]; exact Nat.lt_of_lt_of_le hz (by decide), ?_⟩
    have kp : Kp (as k.toNat) W2 (W2.put (as k.toNat) (.lst (vs ++ [v])) g3.z g3.g) := ⟨Ex.refl _, fun q u ne x => x.put ne _ _⟩
    refine c (W2.put (as k.toNat) (.lst (vs ++ [v])) g3.z g3.g) ⟨l.ex.trans l2.ex⟩ ⟨kp.kp _ _ (o.ne _ kn).symm o2.d, fun m hm => ?_, o.inj, o.ne⟩ fun q u ne x => ((x.up l).up l2).put ne _ _
    by_cases e : m = k.toNat
    · rw [if_pos e, e]
      exact ⟨_, W2.put_at g3.z g3.g, (g2.imp fun _ _ => r.mono l2.ex).snoc hv⟩
    · rw [if_neg e]
      exact (o2.l m hm).kp kp fun z => e (o.inj _ _ hm kn z)
theorem q_appD {i : Nat} {p : Addr} {n : Nat} {as : Nat → Addr} {f : Nat → List α} {k : Int} {x : α} (hi : σ[i]? = some (some (.ref p))) (o : OwnDL W p n as r f) (hk : EvR tk σ W rInt k) (hk2 : 0 ≤ k ∧ k < (n : Int)) (h : EvR te σ W r x) (hz : (f k.toNat).length < 100000)
    (c : ∀ W1 : Wd F, Wk W W1 → OwnDL W1 p n as r (fun m => if m = k.toNat then f m ++ [x] else f m) → (∀ q u, q ≠ as k.toNat → Own W q u → Own W1 q u) → tz D σ W1.H) : tSeq (tDrop (tBM K "list" rAppend (tDGet (tVar i) tk) (tCons te tNil))) tz D σ W.H := s_appD (D := { D with nx := tz D }) hi o hk hk2 h hz c
/-- all of it frozen -/
theorem OwnDL.fz {p : Addr} {n : Nat} {as : Nat → Addr} {f : Nat → List α} (o : OwnDL W p n as r f) : ∃ W1 : Wd F, W1.H = W.H ∧ Wk W W1 ∧ (rDict (rList r)).rel W1.G (.ref p) ((List.range n).map fun (i : Nat) => ((i : Int), f i)) := by
  have step : ∀ m, m ≤ n → ∃ W1 : Wd F, W1.H = W.H ∧ Wk W W1 ∧ (∀ i, i < m → (rList r).rel W1.G (.ref (as i)) (f i)) ∧ (∀ i, m ≤ i → i < n → OwnL W1 (as i) r (f i)) ∧ Own W1 p (.dK (keysOf n as)) := by
    intro m
    induction m with
    | zero => intro _; exact ⟨W, rfl, Wk.refl _, fun i hi => absurd hi (Nat.not_lt_zero _), fun i _ hi => o.l i hi, o.d⟩
    | succ m ih =>
      intro hm
      obtain ⟨W1, e1, k1, a1, b1, c1⟩ := ih (by omega)
      obtain ⟨W2, e2, kp, r2⟩ := (b1 m (Nat.le_refl _) (by omega)).fz
      refine ⟨W2, e2.trans e1, k1.trans ⟨kp.ex⟩, fun i hi => ?_, fun i hi hn => ?_, kp.kp _ _ (o.ne m (by omega)).symm c1⟩
      · by_cases h : i = m
        · rw [h]; exact r2
        · exact (rList r).mono kp.ex (a1 i (by omega))
      · exact (b1 i (by omega) hn).kp kp fun z => by have := o.inj _ _ hn (by omega) z; omega
  obtain ⟨W1, e1, k1, a1, _, c1⟩ := step n (Nat.le_refl _)
  refine ⟨W1.frz p _ c1, e1, k1.trans (W1.frz_wk c1), p, keysOf n as, rfl, W1.frz_at c1, ?_⟩
  refine ⟨by unfold keysOf; simp, fun i x hx => ?_⟩
  rw [List.getElem?_map] at hx
  cases e : (List.range n)[i]? with
  | none => rw [e] at hx; cases hx
  | some j =>
    rw [e] at hx
    cases hx
    have hj : j < n := List.mem_range.mp (List.mem_of_getElem? e)
    exact ⟨.ref (as j), by unfold keysOf; rw [List.getElem?_map, e]; rfl, (rList r).mono (W1.frz_wk c1).ex (a1 j hj)⟩
end
end Q

namespace Q
/-- lines (one, other, limit); the law's groups -/
abbrev Ln := Int × Int × Int
abbrev Rows := List Int × List Int × List Ln
def mergeG (g : List Int) (a b : Int) : List Int := g.map fun x => if decide (x = g.getD b.toNat 0) then g.getD a.toNat 0 else x
def lineAt (ls : List Ln) (l : Int) : Ln := ls.getD l.toNat (0, 0, 0)
def groupsM (n : Nat) (ls : List Ln) (some : List Int) : List Int := some.foldl (fun g l => mergeG g (lineAt ls l).1 (lineAt ls l).2.1) (rg n)
def ledM (n : Nat) (ls : List Ln) (some begin_ : List Int) : List Int := (rg n).filter fun p => decide ((groupsM n ls some).getD p.toNat 0 ∈ begin_.map fun b => (groupsM n ls some).getD b.toNat 0)
theorem mergeG_len (g : List Int) (a b : Int) : (mergeG g a b).length = g.length := by simp [mergeG]
theorem foldl_len {f : List Int → Int → List Int} (hf : ∀ g l, (f g l).length = g.length) : ∀ (ls : List Int) (g : List Int), (ls.foldl f g).length = g.length
  | [], _ => rfl
  | l :: ls, g => by rw [List.foldl_cons, foldl_len hf ls, hf]
theorem groupsM_len (n : Nat) (ls : List Ln) (some : List Int) : (groupsM n ls some).length = n := by
  unfold groupsM
  rw [foldl_len (fun g l => mergeG_len _ _ _), rg_len]; simp
/-- bounds that the defs need -/
structure LinesOk (n : Nat) (ls : List Ln) : Prop where
  n1 : 1 ≤ n
  n2 : n ≤ 10
  l1 : ls.length ≤ 10
  l2 : ∀ x ∈ ls, (0 ≤ x.1 ∧ x.1 < (n : Int)) ∧ (0 ≤ x.2.1 ∧ x.2.1 < (n : Int)) ∧ x.1 ≠ x.2.1
def Nums (k : Nat) (xs : List Int) : Prop := ∀ x ∈ xs, 0 ≤ x ∧ x < (k : Int)
theorem lineAt_get {ls : List Ln} {l : Int} (h : 0 ≤ l ∧ l < (ls.length : Int)) : ls[l.toNat]? = some (lineAt ls l) := by
  have : l.toNat < ls.length := by omega
  simp [lineAt, List.getD, List.getElem?_eq_getElem this]
theorem lineAt_mem {ls : List Ln} {l : Int} (h : 0 ≤ l ∧ l < (ls.length : Int)) : lineAt ls l ∈ ls := List.mem_of_getElem? (lineAt_get h)
end Q
namespace Q
theorem nodup_sub : ∀ (xs ys : List Int), xs.Nodup → (∀ x ∈ xs, x ∈ ys) → xs.length ≤ ys.length
  | [], ys, _, _ => Nat.zero_le _
  | x :: xs, ys, nd, h => by
    have hx := h x (by simp)
    have nd' := List.nodup_cons.mp nd
    have ih := nodup_sub xs (ys.erase x) nd'.2 fun y hy => (List.mem_erase_of_ne (fun (e : y = x) => nd'.1 (e ▸ hy))).mpr (h y (by simp [hy]))
    rw [List.length_erase_of_mem hx] at ih
    have : 0 < ys.length := List.length_pos_of_mem hx
    rw [List.length_cons]; omega
theorem nodup_len {xs : List Int} {n : Nat} (nd : xs.Nodup) (h : ∀ x ∈ xs, 0 ≤ x ∧ x < (n : Int)) : xs.length ≤ n := by
  have := nodup_sub xs (rg n) nd fun x hx => mem_rg.mpr (h x hx)
  rw [rg_len] at this
  omega
end Q

namespace Q
open PySem L2
def adjM (ls : List Ln) (nums : List Int) (p : Int) : List (Int × Int) := nums.filterMap fun l => if (lineAt ls l).1 = p then some (l, (lineAt ls l).2.1) else if (lineAt ls l).2.1 = p then some (l, (lineAt ls l).1) else none
def stepsM (n : Nat) (ls : List Ln) (nums : List Int) : List (Int × List (Int × Int)) := (List.range n).map fun (i : Nat) => ((i : Int), adjM ls nums i)
theorem adjM_snoc {ls : List Ln} {nums : List Int} {l p : Int} : adjM ls (nums ++ [l]) p = adjM ls nums p ++ (if (lineAt ls l).1 = p then [(l, (lineAt ls l).2.1)] else if (lineAt ls l).2.1 = p then [(l, (lineAt ls l).1)] else []) := by
  unfold adjM
  rw [List.filterMap_append]
  congr 1
  rw [List.filterMap_cons]
  by_cases h1 : (lineAt ls l).1 = p
  · simp [h1]
  · by_cases h2 : (lineAt ls l).2.1 = p <;> simp [h1, h2]
theorem adjM_len {ls : List Ln} {nums : List Int} {p : Int} : (adjM ls nums p).length ≤ nums.length := List.length_filterMap_le _ _
theorem mem_adjM {ls : List Ln} {nums : List Int} {p l q : Int} : (l, q) ∈ adjM ls nums p ↔ l ∈ nums ∧ (((lineAt ls l).1 = p ∧ (lineAt ls l).2.1 = q) ∨ ((lineAt ls l).1 ≠ p ∧ (lineAt ls l).2.1 = p ∧ (lineAt ls l).1 = q)) := by
  unfold adjM
  rw [List.mem_filterMap]
  constructor
  · rintro ⟨a, ha, e⟩
    by_cases h1 : (lineAt ls a).1 = p
    · rw [if_pos h1] at e
      cases e
      exact ⟨ha, .inl ⟨h1, rfl⟩⟩
    · rw [if_neg h1] at e
      by_cases h2 : (lineAt ls a).2.1 = p
      · rw [if_pos h2] at e
        cases e
        exact ⟨ha, .inr ⟨h1, h2, rfl⟩⟩
      · rw [if_neg h2] at e; cases e
  · rintro ⟨ha, ⟨h1, rfl⟩ | ⟨h1, h2, rfl⟩⟩
    · exact ⟨l, ha, by rw [if_pos h1]⟩
    · exact ⟨l, ha, by rw [if_neg h1, if_pos h2]⟩
abbrev rPr : Rp (Int × Int) := rT2 rInt rInt
theorem stepsM_look {n : Nat} {ls : List Ln} {nums : List Int} {p : Int} (h : 0 ≤ p ∧ p < (n : Int)) : dlook (stepsM n ls nums) p = some (adjM ls nums p) := by
  unfold stepsM dlook
  have : ∀ l : List Nat, p.toNat ∈ l → ((l.map fun (i : Nat) => ((i : Int), adjM ls nums i)).find? fun x => decide (x.1 = p)).map (·.2) = some (adjM ls nums p) := by
    intro l
    induction l with
    | nil => intro hm; cases hm
    | cons i l ih =>
      intro hm
      rw [List.map_cons, List.find?_cons]
      by_cases hi : (i : Int) = p
      · simp [hi]
      · simp only [hi, decide_false]
        refine ih ?_
        rcases List.mem_cons.mp hm with z | z
        · omega
        · exact z
  exact this _ (List.mem_range.mpr (by omega))
def SpSteps (C : Addr) : Sp := fun vs H Q _ => ∃ G v w n nums, vs = [v, w] ∧ Ex G H ∧ (rNet C).rel G v n ∧ (rList rInt).rel G w nums ∧ LinesOk n.needs.length n.lines ∧ Nums n.lines.length nums ∧ nums.length ≤ 1000 ∧
  ∀ p as (W : Wd (pF G H)), OwnDL W p n.needs.length as rPr (fun (i : Nat) => adjM n.lines nums (i : Int)) → Q (.ref p) W.H
section
variable {F : Fr} {K : PySem.W.Frag} {σ : L2.St} {W W1 : Wd F} {ta tb te tc tl ti tk tv : TE} {α β γ δ : Type} {r : Rp α} {s : Rp β} {t : Rp γ} {D : Ends} {tz tx ty : TS}
theorem Own.back {W : Wd F} {W' : Wd (pF W.G W.H)} {p : Addr} {o : HO} (x : Own W' p o) : Own (W.back W') p o := ⟨x.g, x.h, W.h0 x.z⟩
theorem OwnL.back {W : Wd F} {W' : Wd (pF W.G W.H)} {p : Addr} {xs : List α} (x : OwnL W' p r xs) : OwnL (W.back W') p r xs := let ⟨vs, h1, h2⟩ := x.ex; ⟨vs, h1.back, h2⟩
theorem OwnDL.back {W : Wd F} {W' : Wd (pF W.G W.H)} {p : Addr} {n : Nat} {as : Nat → Addr} {f : Nat → List α} (x : OwnDL W' p n as r f) : OwnDL (W.back W') p n as r f := ⟨x.d.back, fun i hi => (x.l i hi).back, x.inj, x.ne⟩
theorem own_z {G H : Hp} {W' : Wd (pF G H)} {p : Addr} {o : HO} (x : Own W' p o) : H p = none := x.z
theorem ev_steps {C : Addr} {E : XK} {n : NetD} {nums : List Int} (ha : EvR ta σ W (rNet C) n) (hb : EvR tb σ W (rList rInt) nums) (ok : LinesOk n.needs.length n.lines) (hn : Nums n.lines.length nums) (hl : nums.length ≤ 1000) :
    EvR (tCall (SpSteps C) [] E (tCons ta (tCons tb tNil))) σ W (rDict (rList rPr)) (stepsM n.needs.length n.lines nums) := fun W1 l Q q =>
  ha W1 l _ fun v W2 l2 hv => hb W2 (l.trans l2) _ fun w W3 l3 hw => ⟨W3.G, v, w, n, nums, rfl, W3.gh, (rNet C).mono l3.ex hv, hw, ok, hn, hl, fun p as W4 o => by
    have hp : ∀ {a : Addr} {ob : HO}, Own W4 a ob → W3.H a = none := fun x => x.z
    obtain ⟨W5, e5, k5, h5⟩ := o.fz
    -- the frozen world comes behind W3 as a call's end does
    have l5 : Le W3 (W3.back W5) := W3.back_le W5
    have z := q (.ref p) (W3.back W5) ((l2.trans l3).trans l5) h5
    have e6 : (W3.back W5).H = W4.H := e5
    rw [e6] at z
    exact z⟩
end
end Q

namespace Q
open PySem PySem.Spec PyProof.Rows L2
section
variable {X : Cx}
theorem swD {kx vx : Expr} {gs : List Comprehension} {sco : Scope} {pos py : Pos} {y : Str} {l : Nat} {env : Env} (hk : env.scope.kind = .function) (hy : env.scope.names.lookup y = some .local) (hl : (py.line == pos.line) = true)
    (ha : (sco.names.any fun (n, k) => n == y && (k == .local || k == .cell)) = false) : swapsWith (.DictComp kx vx gs sco pos) (some (.Name y py)) l env = pure true := by
  have k1 : env.kindOf y = some .local := hy
  have k2 : env.blockKind = .function := by
    unfold Env.blockKind
    rw [hk]; rfl
  unfold swapsWith
  simp only [k2, k1, ha, Expr.pos, hl]
  rfl
/-- the name is stored while the comprehension's frame still stands: L what was made, C the frame's names -/
theorem store_behind {pins : List (Addr × Obj)} {σ : L2.St} {H' : Hp} {s' : Shared} {D : Ends} {i : Nat} {y : Str} {py : Pos} {L C : Addr} {m : Str → Option Value} (names : X.N.Nodup) (place : X.N[i]? = some y) (own : X.env.scope.names.lookup y = some .local)
    (J : Inv X pins σ H' s') (ns : s'.heap.Ns C m) (far : FpOk X pins H' C) (q : D.nx (σ.set i (some (.ref L))) H') :
    compPost (model X.prog X.w) X.A X.xe (some (assign (.Name y py) X.env)) (fun _ t => SP X pins D .next t) (.ref L) C (.ok .next) s' := by
  refine (wpAny_assign_Name (store_ok2 (v := V.ref L) J names place (.inl own) rfl (fun t J2 chg => ?_) (.inr own)) : wpAny _ _ (assign (.Name y py) X.env (.ref L)) _ _ _)
  obtain ⟨c, same, hc⟩ := chg
  have apart : C ≠ c := hc.elim (fun e => e ▸ far.2.1) fun e z => far.2.2.2.2.1 y c e z.symm
  exact ⟨m, ns.sameBut same apart, fun h3 gone => ⟨_, H', J2.turned (t' := t.toks) (fun b o hb e => (gone.2 b hb).trans e) far.1 far.2.1 far.2.2.2.1 far.2.2.2.2.1 far.2.2.2.2.2, q⟩⟩
/-- y = {..: .. for ..} -/
theorem ps_setDc {i : Nat} {y : Str} {py : Pos} {kx vx tg iter : Expr} {ifs : List Expr} {sco : Scope} {own : List (Str × Nat)} {pos spos : Pos} {wi : TI} {g : TG} {tt : TT} {tk tv : TE} (hc : X.calm = true) (hN : X.N.Nodup) (hy : X.N[i]? = some y)
    (hyl : X.env.scope.names.lookup y = some .local) (hsw : swapsWith (.DictComp kx vx [⟨tg, iter, ifs, 0⟩] sco pos) (some (.Name y py)) spos.line X.env = pure true) (hi : PI X tg iter wi) (ok : BlkOk X.N X.env.scope sco own)
    (hg : ∀ (s : Shared) (H : Hp) (C : Addr) (cl : List (Str × Addr)) (fp : List Addr), PG (X.blk s H sco (compEnvC sco cl C X.env) fp) tg g)
    (ht : ∀ (s : Shared) (H : Hp) (C : Addr) (cl : List (Str × Addr)) (fp : List Addr), PTs (X.blk s H sco (compEnvC sco cl C X.env) fp) ifs tt)
    (hk : ∀ (s : Shared) (H : Hp) (C : Addr) (cl : List (Str × Addr)) (fp : List Addr), PE (X.blk s H sco (compEnvC sco cl C X.env) fp) kx tk)
    (he : ∀ (s : Shared) (H : Hp) (C : Addr) (cl : List (Str × Addr)) (fp : List Addr), PE (X.blk s H sco (compEnvC sco cl C X.env) fp) vx tv)
    (hs : ∀ x, foldedSetIterable iter X.env x = pure x := by intro _; rfl) :
    PS X (.Assign [.Name y py] (.DictComp kx vx [⟨tg, iter, ifs, 0⟩] sco pos) spos) (tAsg (tDc wi g tt tk tv (own.map (·.2))) (gName i)) where
  run pins s σ H D I h := by
    have made := dc_core (use := some (assign (.Name y py) X.env)) (Q := fun x H1 => gName i x σ H1 D.nx) (Qf := fun _ t => SP X pins D .next t) (pos := pos) (pos' := firstIterPos [⟨tg, iter, ifs, 0⟩] pos) hc hN I hi ok hg ht hk he hs h fun L C s' m H' I' q ns far => store_behind hN hy hyl I' ns far q
    rw [exec_Assign_Name_used _ _ _ _ hsw]
    exact wpAny_bind (wpAny_standAt (wpAny_bind (wpAny_bind (thn made fun _ _ q => wpAny_pure (wpAny_pure q)))))
end
section
variable {F : Fr} {K : PySem.W.Frag} {σ : L2.St} {W W1 : Wd F} {ta tb te tc tl ti tk tv : TE} {α β γ δ : Type} {r : Rp α} {s : Rp β} {t : Rp γ} {D : Ends} {tz tx ty : TS}
theorem q_asgDL {n i j : Nat} {ws : List Nat} (h : EvR tl σ W (rList rInt) (rg (n : Int))) (hz : n ≤ 40000) (hw : ∀ x, wipe ((wipe σ ws).set j (some x)) ws = wipe σ ws) (hj : ∀ x : V, ((wipe σ ws).set j (some x))[j]? = some (some x))
    (k : ∀ p as (W2 : Wd F), Le W W2 → W.H p = none → OwnDL W2 p n as r (fun _ => []) → tz D (σ.set i (some (.ref p))) W2.H) : tSeq (tAsg (tDc (iList K tl) (gName j) tYes (tVar j) (tLst tNil) ws) (gName i)) tz D σ W.H :=
  eo_dcN (K := K) (r := r) h hz hw hj W (Le.refl _) (fun x H1 => tz D (σ.set i (some x)) H1) k
end
end Q

namespace Q
open PySem L2
/-! ### isinstance, `is None`, a promise that nothing may ask -/
section
variable {P : Program} {w : World} {K : PySem.W.Frag} {mg : Str → Option Value} {base : Heap}
abbrev SpNo : Sp := fun _ _ _ _ => False
theorem fn_none {f : Addr} {fd : FuncData} {ps : List Str} {CX : CXT} : FnOk P w K mg base CX 0 f fd ps SpNo := ⟨fun vs H Q E h => h.elim, fun A outer s H args us vs Q E _ _ _ _ h => h.elim⟩
end
section
variable {F : Fr} {K : PySem.W.Frag} {σ : L2.St} {W W1 : Wd F} {ta tb te tc tl ti tk tv : TE} {α β γ δ : Type} {r : Rp α} {s : Rp β} {t : Rp γ} {D : Ends} {tz tx ty : TS}
theorem ev_ltN {P P' : Int → Prop} {R : Bool → Prop} (ha : EvN ta σ W rInt P) (hb : EvN tb σ W rInt P') (hR : ∀ x y, P x → P' y → R (decide (x < y))) : EvN (tOp oLt ta tb) σ W rBool R :=
  ev_opN ha hb fun W1 v w x y Q l hv hw hx hy q => ⟨x, y, hv, hw, q _ W1 (decide (x < y)) (Le.refl _) rfl (hR x y hx hy)⟩
def TyR (r : Rp α) (T : String) : Prop := ∀ (K : PySem.W.Frag) (G H : Hp) v x, Ex G H → r.rel G v x → TyX K H v (.type T)
theorem ty_int : TyR rInt "int" := fun K G H v x e h => by rw [show v = .int x from h]; exact .base (.int x)
theorem ty_bool : TyR rBool "bool" := fun K G H v x e h => by rw [show v = .bl x from h]; exact .base (.bl x)
theorem ty_list : TyR (rList r) "list" := fun K G H v x e h => by
  obtain ⟨a, vs, rfl, h1, h2⟩ := h
  exact .base (.lst (e _ _ h1))
theorem ev_isi {x : α} {T c : String} {b : Bool} (ht : TyR r T) (hk : kitB T c = some b) (ha : EvR ta σ W r x) : EvR (tCB (rIsi K) (tCons ta (tCons (tC (.ty c)) tNil))) σ W rBool b := fun W1 l Q q =>
  ha W1 l _ fun v W2 l2 hv => ⟨v, .ty c, .type T, .type c, b, rfl, .ty c, ht K W2.G W2.H v x W2.gh hv, kit_ty hk, q _ W2 l2 rfl⟩
theorem ev_isN {x : α} {tn : TE} {op : R2} (he : op = fun x y H Q => y = .non ∧ Q (.bl (decide (x = .non))) H) (hn : tn = tC .non) (hr : ∀ G v x, r.rel G v x → v ≠ .non) (ha : EvR ta σ W r x) : EvR (tOp op ta tn) σ W rBool false := by
  subst he hn
  exact fun W1 l Q q => ha W1 l _ fun v W2 l2 hv => ⟨rfl, by
    rw [decide_eq_false (hr _ _ _ hv)]
    exact q _ W2 l2 rfl⟩
theorem nn_int : ∀ (G : Hp) v (x : Int), rInt.rel G v x → v ≠ .non := fun G v x h => by rw [show v = .int x from h]; exact fun z => nomatch z
theorem nn_list : ∀ (G : Hp) v (x : List α), (rList r).rel G v x → v ≠ .non := fun G v x h => by
  obtain ⟨a, vs, rfl, _⟩ := h
  exact fun z => nomatch z
end
end Q

namespace Q
/-! ### what has been come to -/
abbrev StepsD := List (Int × List (Int × Int))
abbrev CameD := List (Int × Option (Int × Int))
abbrev keysD {α : Type} (zs : List (Int × α)) : List Int := zs.map (·.1)
structure CameI (steps : StepsD) (starts : List Int) (zs : CameD) : Prop where
  nd : (keysD zs).Nodup
  ks : ∀ k ∈ keysD zs, k ∈ keysD steps
  st : ∀ k ∈ starts, dlook zs k = some none
  en : ∀ (i : Nat) k o, zs[i]? = some (k, o) → (o = none ∧ k ∈ starts) ∨ ∃ l b st, o = some (l, b) ∧ (∃ j : Nat, j < i ∧ (keysD zs)[j]? = some b) ∧ dlook steps b = some st ∧ (l, k) ∈ st
def Clo (steps : StepsD) (zs : CameD) (m : Nat) : Prop := ∀ (i : Nat) b st x, i < m → (keysD zs)[i]? = some b → dlook steps b = some st → x ∈ st → x.2 ∈ keysD zs
structure StepsOk (steps : StepsD) : Prop where
  n : steps.length ≤ 1000
  t : ∀ b st x, dlook steps b = some st → x ∈ st → x.2 ∈ keysD steps
theorem dlook_isSome {α : Type} {zs : List (Int × α)} {k : Int} : k ∈ keysD zs ↔ ∃ v, dlook zs k = some v := by
  constructor
  · intro h
    cases e : dlook zs k with
    | some v => exact ⟨v, rfl⟩
    | none => exact absurd h (dlook_none.mp e)
  · rintro ⟨v, e⟩
    by_cases h : k ∈ keysD zs
    · exact h
    · rw [dlook_none.mpr h] at e; cases e
theorem dlook_append {α : Type} {zs ys : List (Int × α)} {k : Int} {v : α} (h : dlook zs k = some v) : dlook (zs ++ ys) k = some v := by
  unfold dlook at *
  rw [List.find?_append]
  cases e : zs.find? fun p => decide (p.1 = k) with
  | none => rw [e] at h; cases h
  | some p => rw [e] at h; exact h
theorem keys_app {α : Type} {zs : List (Int × α)} {k : Int} {v : α} : keysD (zs ++ [(k, v)]) = keysD zs ++ [k] := by simp [keysD]
theorem CameI.len {steps : StepsD} {starts : List Int} {zs : CameD} (h : CameI steps starts zs) : zs.length ≤ steps.length := by
  have := nodup_sub _ _ h.nd h.ks
  simpa [keysD] using this
theorem CameI.add {steps : StepsD} {starts : List Int} {zs : CameD} (h : CameI steps starts zs) {l q b : Int} {st : List (Int × Int)} (hb : b ∈ keysD zs) (hs : dlook steps b = some st) (hm : (l, q) ∈ st) (hq : q ∉ keysD zs) (hk : q ∈ keysD steps) : CameI steps starts (zs ++ [(q, some (l, b))]) := by
  refine ⟨?_, ?_, fun k hk => dlook_append (h.st k hk), ?_⟩
  · rw [keys_app, List.nodup_append]
    refine ⟨h.nd, by simp, fun a ha c hc e => ?_⟩
    rw [List.mem_singleton] at hc
    exact hq (hc ▸ e ▸ ha)
  · intro k hm
    rw [keys_app, List.mem_append, List.mem_singleton] at hm
    rcases hm with hm | hm
    · exact h.ks k hm
    · exact hm ▸ hk
  · intro i k o hi
    have up : ∀ {j : Nat} {b : Int}, (keysD zs)[j]? = some b → (keysD (zs ++ [(q, some (l, b))]))[j]? = some b := by
      intro j b hj
      rw [keys_app, List.getElem?_append_left (List.getElem?_eq_some_iff.mp hj).1]
      exact hj
    have up : ∀ {j : Nat} {c : Int}, (keysD zs)[j]? = some c → (keysD (zs ++ [(q, some (l, b))]))[j]? = some c := by
      intro j c hj
      rw [keys_app, List.getElem?_append_left (List.getElem?_eq_some_iff.mp hj).1]
      exact hj
    by_cases hl : i < zs.length
    · rw [List.getElem?_append_left hl] at hi
      rcases h.en i k o hi with z | ⟨l', b', st', e, ⟨j, hj, hj2⟩, e2, e3⟩
      · exact .inl z
      · exact .inr ⟨l', b', st', e, ⟨j, hj, up hj2⟩, e2, e3⟩
    · rw [List.getElem?_append_right (by omega)] at hi
      have hi0 : i - zs.length = 0 := by
        have := (List.getElem?_eq_some_iff.mp hi).1
        simp at this
        omega
      rw [hi0] at hi
      cases hi
      obtain ⟨j, hj, e⟩ := List.getElem_of_mem hb
      refine .inr ⟨l, b, st, rfl, ⟨j, ?_, up (by rw [List.getElem?_eq_getElem hj, e])⟩, hs, hm⟩
      have : (keysD zs).length = zs.length := by simp [keysD]
      omega
theorem Clo.add {steps : StepsD} {zs : CameD} {m : Nat} (h : Clo steps zs m) (hm : m ≤ zs.length) {x : Int × Option (Int × Int)} : Clo steps (zs ++ [x]) m := by
  intro i b st y hi hb hs hy
  have e : keysD (zs ++ [x]) = keysD zs ++ [x.1] := by simp [keysD]
  rw [e] at hb ⊢
  rw [List.getElem?_append_left (by simp [keysD]; omega)] at hb
  exact List.mem_append_left _ (h i b st y hi hb hs hy)
theorem look_starts {starts : List Int} {k : Int} (h : k ∈ starts) : dlook (starts.map fun x => (x, (none : Option (Int × Int)))) k = some none := by
  induction starts with
  | nil => cases h
  | cons a l ih =>
    unfold dlook at ih ⊢
    rw [List.map_cons, List.find?_cons]
    by_cases e : a = k
    · simp [e]
    · simp only [e, decide_false]
      rcases List.mem_cons.mp h with z | z
      · exact absurd z.symm e
      · exact ih z
theorem keys_starts {starts : List Int} : keysD (starts.map fun x => (x, (none : Option (Int × Int)))) = starts := by
  simp [keysD, Function.comp_def]
theorem CameI.init {steps : StepsD} {starts : List Int} (nd : starts.Nodup) (hs : ∀ k ∈ starts, k ∈ keysD steps) : CameI steps starts (starts.map fun x => (x, none)) := by
  refine ⟨by rw [keys_starts]; exact nd, by rw [keys_starts]; exact hs, fun k hk => look_starts hk, fun i k o hi => .inl ?_⟩
  rw [List.getElem?_map] at hi
  cases e : starts[i]? with
  | none => rw [e] at hi; cases hi
  | some x =>
    rw [e] at hi
    cases hi
    exact ⟨rfl, List.mem_of_getElem? e⟩
/-- what `reached` tells -/
structure CameR (steps : StepsD) (starts : List Int) (zs : CameD) : Prop where
  i : CameI steps starts zs
  c : ∀ b st x, b ∈ keysD zs → dlook steps b = some st → x ∈ st → x.2 ∈ keysD zs
theorem Clo.done {steps : StepsD} {starts : List Int} {zs : CameD} (h : CameI steps starts zs) (c : Clo steps zs zs.length) : CameR steps starts zs := ⟨h, fun b st x hb hs hx => by
  obtain ⟨j, hj, e⟩ := List.getElem_of_mem hb
  exact c j b st x (by simpa [keysD] using hj) (by rw [List.getElem?_eq_getElem hj, e]) hs hx⟩
end Q

namespace Q
open PySem L2
/-! ### a thing that is locked while it is gone over -/
def cut (H : Hp) (d : Addr) : Hp := fun a => if a = d then none else H a
theorem cut_same {H : Hp} {d : Addr} : cut H d d = none := if_pos rfl
theorem cut_ne {H : Hp} {a d : Addr} (h : a ≠ d) : cut H d a = H a := if_neg h
def Fr.er (F : Fr) (d : Addr) (hm : ¬ F.M d) : Fr where
  G0 := cut F.G0 d
  H0 := cut F.H0 d
  M := F.M
  I := F.I
  st := F.st
  has := F.has
  i0 := F.st _ _ (fun a m => cut_ne fun z => hm (z ▸ m)) F.i0
section
variable {F : Fr}
theorem Wd.gm (W : Wd F) {d : Addr} {u : HO} (h : W.G d = some u) : ¬ F.M d := fun m => by rw [W.mg d m] at h; cases h
def Wd.lk (W : Wd F) (d : Addr) (u x : HO) (h : W.G d = some u) : Wd (F.er d (W.gm h)) where
  G := upd W.G d x
  H := upd W.H d x
  gh := fun a o e => by
    by_cases ha : a = d
    · subst ha; rw [upd_same] at e ⊢; exact e
    · rw [upd_ne ha] at e ⊢; exact W.gh a o e
  gg := fun a o e => by
    have ha : a ≠ d := fun z => by rw [z] at e; exact absurd (show cut F.G0 d d = some o from e) (by rw [cut_same]; exact fun z => nomatch z)
    rw [upd_ne ha]
    exact W.gg a o ((cut_ne ha).symm.trans e)
  kp := fun a m g n => by
    have ha : a ≠ d := fun z => n (by rw [z]; exact cut_same)
    have g : F.G0 a = none := (cut_ne ha).symm.trans g
    have n : F.H0 a ≠ none := fun z => n ((cut_ne ha).trans z)
    rw [upd_ne ha, upd_ne ha]
    obtain ⟨h1, h2⟩ := W.kp a m g n
    exact ⟨h1, h2.trans (cut_ne ha).symm⟩
  mg := fun a m => by
    have ha : a ≠ d := fun z => W.gm h (z ▸ m)
    rw [upd_ne ha]; exact W.mg a m
  iv := F.st _ _ (fun a m => upd_ne fun z => W.gm h (z ▸ m)) W.iv
def Wd.ul (W : Wd F) (d : Addr) (u x : HO) (h : W.G d = some u) (W2 : Wd (F.er d (W.gm h))) (l : Le (W.lk d u x h) W2) : Wd F where
  G := upd W2.G d u
  H := upd W2.H d u
  gh := fun a o e => by
    by_cases ha : a = d
    · subst ha; rw [upd_same] at e ⊢; exact e
    · rw [upd_ne ha] at e ⊢; exact W2.gh a o e
  gg := fun a o e => by
    by_cases ha : a = d
    · subst ha
      have := W.gg _ _ e
      rw [upd_same, ← h]
      exact this
    · rw [upd_ne ha]
      exact W2.gg a o ((cut_ne ha).trans e)
  kp := fun a m g n => by
    obtain ⟨h1, h2⟩ := W.kp a m g n
    have ha : a ≠ d := fun z => by rw [z, h] at h1; cases h1
    rw [upd_ne ha, upd_ne ha]
    obtain ⟨h3, h4⟩ := W2.kp a m ((cut_ne ha).trans g) (by rw [show (F.er d (W.gm h)).H0 a = F.H0 a from cut_ne ha]; exact n)
    exact ⟨h3, h4.trans (cut_ne ha)⟩
  mg := fun a m => by
    have ha : a ≠ d := fun z => W.gm h (z ▸ m)
    rw [upd_ne ha]; exact W2.mg a m
  iv := F.st _ _ (fun a m => upd_ne fun z => W.gm h (z ▸ m)) W2.iv
theorem Wd.ul_le (W : Wd F) {d : Addr} {u x : HO} (h : W.G d = some u) (W2 : Wd (F.er d (W.gm h))) (l : Le (W.lk d u x h) W2) : Le W (W.ul d u x h W2 l) := ⟨fun a o e => by
    show upd W2.G d u a = some o
    by_cases ha : a = d
    · subst ha
      rw [upd_same, ← h]
      exact e
    · rw [upd_ne ha]
      exact l.ex a o ((upd_ne ha).trans e), fun a m g n => by
    have ha : a ≠ d := fun z => by rw [z, h] at g; cases g
    obtain ⟨h1, h2⟩ := l.kp a m ((upd_ne ha).trans g) (by rw [show (W.lk d u x h).H a = W.H a from upd_ne ha]; exact n)
    exact ⟨(upd_ne ha).trans h1, (upd_ne ha).trans (h2.trans (upd_ne ha))⟩⟩
theorem Own.lk {W : Wd F} {d p : Addr} {u x o : HO} (h : W.G d = some u) (y : Own W p o) : Own (W.lk d u x h) p o := by
  have ha : p ≠ d := fun z => by have := y.g; rw [z, h] at this; cases this
  exact ⟨(upd_ne ha).trans y.g, (upd_ne ha).trans y.h, (cut_ne ha).trans y.z⟩
end
/-! ### what doesn't go through such a place -/
def Nt {α : Type} (r : Rp α) (C : HO → Prop) : Prop := ∀ (G : Hp) d u o v x, G d = some u → C u → r.rel G v x → r.rel (upd G d o) v x
section
variable {α β γ : Type} {r : Rp α} {s : Rp β} {t : Rp γ} {C : HO → Prop}
theorem nt_int : Nt rInt C := fun _ _ _ _ _ _ _ _ h => h
theorem nt_list (n : Nt r C) (c : ∀ vs, ¬ C (.lst vs)) : Nt (rList r) C := fun G d u o v x e hu ⟨a, vs, h1, h2, h3⟩ => by
  have ha : a ≠ d := fun z => by rw [z, e] at h2; cases h2; exact c _ hu
  exact ⟨a, vs, h1, (upd_ne ha).trans h2, h3.imp fun _ _ h => n G d u o _ _ e hu h⟩
theorem nt_t2 (n : Nt r C) (m : Nt s C) (c : ∀ vs, ¬ C (.tup vs)) : Nt (rT2 r s) C := fun G d u o v x e hu ⟨a, v1, v2, h1, h2, h3, h4⟩ => by
  have ha : a ≠ d := fun z => by rw [z, e] at h2; cases h2; exact c _ hu
  exact ⟨a, v1, v2, h1, (upd_ne ha).trans h2, n G d u o _ _ e hu h3, m G d u o _ _ e hu h4⟩
theorem Nt.dr (n : Nt r C) {G : Hp} {d : Addr} {u o : HO} {kvs : List (Key × V)} {xs : List (Int × α)} (e : G d = some u) (hu : C u) (h : DictR r G kvs xs) : DictR r (upd G d o) kvs xs := ⟨h.1, fun i x q => let ⟨v, h1, h2⟩ := h.2 i x q; ⟨v, h1, n G d u o _ _ e hu h2⟩⟩
theorem nt_dict (n : Nt r C) (c : ∀ vs, ¬ C (.dK vs)) : Nt (rDict r) C := fun G d u o v x e hu ⟨a, vs, h1, h2, h3⟩ => by
  have ha : a ≠ d := fun z => by rw [z, e] at h2; cases h2; exact c _ hu
  exact ⟨a, vs, h1, (upd_ne ha).trans h2, n.dr e hu h3⟩
def isK : HO → Prop := fun u => ∃ kvs, u = .dK kvs
def isZ : HO → Prop := fun u => ∃ o w, u = .frz o w
theorem ntk_pairs : Nt (rList (rT2 rInt rInt)) isK := nt_list (nt_t2 nt_int nt_int fun vs h => by obtain ⟨_, h⟩ := h; cases h) fun vs h => by obtain ⟨_, h⟩ := h; cases h
theorem ntz_pairs : Nt (rList (rT2 rInt rInt)) isZ := nt_list (nt_t2 nt_int nt_int fun vs h => by obtain ⟨_, _, h⟩ := h; cases h) fun vs h => by obtain ⟨_, _, h⟩ := h; cases h
theorem ntz_dict {r : Rp α} (n : Nt r isZ) : Nt (rDict r) isZ := nt_dict n fun vs h => by obtain ⟨_, _, h⟩ := h; cases h
theorem ntk_ints : Nt (rList rInt) isK := nt_list nt_int fun vs h => by obtain ⟨_, h⟩ := h; cases h
theorem ntz_ints : Nt (rList rInt) isZ := nt_list nt_int fun vs h => by obtain ⟨_, _, h⟩ := h; cases h
end
section
variable {F : Fr} {K : PySem.W.Frag} {σ : L2.St} {W W1 : Wd F} {ta tb te tc tl ti tk tv : TE} {α β γ δ : Type} {r : Rp α} {s : Rp β} {t : Rp γ} {D : Ends} {tz tx ty : TS}
theorem OwnD.lk {d p : Addr} {kvs : List (Key × V)} {x : HO} {xs : List (Int × α)} (n : Nt r isK) (h : W.G d = some (.dK kvs)) (o : OwnD W p r xs) : OwnD (W.lk d (.dK kvs) x h) p r xs := by
  obtain ⟨vs, h1, h2⟩ := o.ex
  exact ⟨vs, h1.lk h, n.dr h ⟨_, rfl⟩ h2⟩
/-- an expression that goes over a frozen dict: within, the dict is locked -/
theorem ev_lock {d : Addr} {kvs : List (Key × V)} {x : α} (hd : W.G d = some (.dK kvs)) (n : Nt r isZ) (h : ∀ (W1 : Wd F) (l : Le W W1) (e : W1.G d = some (.dK kvs)) od, EvR te σ (W1.lk d (.dK kvs) (.frz od (.dK kvs)) e) r x) : EvR (tLockE te) σ W r x := fun W1 l Q q => by
  have e := l.ex _ _ hd
  refine ⟨d, .dK kvs, W1.gh _ _ e, True.intro, fun od => ?_⟩
  refine h W1 l e od (W1.lk d (.dK kvs) (.frz od (.dK kvs)) e) (Le.refl _) _ fun v W2 l2 hv => ?_
  have g : W2.G d = some (.frz od (.dK kvs)) := l2.ex _ _ upd_same
  exact ⟨W2.gh _ _ g, q v (W1.ul d (.dK kvs) (.frz od (.dK kvs)) e W2 l2) (W1.ul_le e W2 l2) (n _ _ _ _ _ _ g ⟨_, _, rfl⟩ hv)⟩
theorem dc_keys {d : Addr} {od : Obj} {kvs : List (Key × V)} {g : TG} {tt : TT} {tk tv : TE} {vs : List Nat} {σ : L2.St} {H1 : Hp} {D : Addr} {Qd : Hp → Prop} (Pv : Nat → Hp → Prop) (base : Pv 0 (upd H1 D (.dK []))) (still : ∀ j H, j ≤ kvs.length → Pv j H → H d = some (.frz od (.dK kvs)))
    (turn : ∀ (j : Nat) k v H, kvs[j]? = some (k, v) → Pv j H → g (kV k) (wipe σ vs) H fun σ2 H2 => wipe σ2 vs = wipe σ vs ∧ tt σ2 H2 fun b H3 =>
      if b = true then tk σ2 H3 fun y H4 => tv σ2 H4 fun z H5 => ∃ kvs' k', y = kV k' ∧ H5 D = some (.dK kvs') ∧ kvs'.length < sizeLine ∧ Pv (j + 1) (upd H5 D (.dK (putK kvs' k' z))) else Pv (j + 1) H3) (fin : ∀ H, Pv kvs.length H → Qd H) :
    ∃ W : Nat → Nat → Hp → Prop, (∃ m, W 0 m (upd H1 D (.dK []))) ∧ ∀ i m H, W i m H →
      ((Itk d od kvs).stop i H ∧ Qd H) ∨ ((Itk d od kvs).go i H ∧ ∃ Nx : Hp → Prop, (∀ H', Nx H' → ∃ m', m' < m ∧ W (i + 1) m' H') ∧ ∀ x H', (Itk d od kvs).yld i H x H' → g x (wipe σ vs) H' fun σ2 H2 => wipe σ2 vs = wipe σ vs ∧ tt σ2 H2 fun b H3 =>
        if b = true then tk σ2 H3 fun y H4 => tv σ2 H4 fun z H5 => ∃ kvs' k', y = kV k' ∧ H5 D = some (.dK kvs') ∧ kvs'.length < sizeLine ∧ Nx (upd H5 D (.dK (putK kvs' k' z))) else Nx H3) := by
  refine ⟨fun j c H => c = kvs.length - j ∧ j ≤ kvs.length ∧ Pv j H, ⟨_, rfl, Nat.zero_le _, base⟩, fun j c H h => ?_⟩
  obtain ⟨hc, hj, p⟩ := h
  have st := still j H hj p
  rcases Nat.lt_or_ge j kvs.length with lt | ge
  · refine .inr ⟨⟨st, lt⟩, Pv (j + 1), fun H' p' => ⟨kvs.length - (j + 1), by omega, rfl, lt, p'⟩, fun x H' y => ?_⟩
    obtain ⟨rfl, k, v, e1, rfl⟩ := y
    exact turn j k v _ e1 p
  · have e : j = kvs.length := Nat.le_antisymm hj ge
    rw [e] at p ⊢
    exact .inl ⟨⟨st, Nat.le_refl _⟩, fin H p⟩
/-- {k: v for k in d}, d locked -/
theorem eod_dcK {d : Addr} {od : Obj} {kvs : List (Key × V)} {xs : List (Int × α)} {i j : Nat} {ws : List Nat} (g : Int × α → β) (hi : σ[i]? = some (some (.ref d))) (hd : W.G d = some (.frz od (.dK kvs))) (hr : DictR r W.G kvs xs) (hz : xs.length ≤ 40000) (nd : (keysD xs).Nodup) (hw : ∀ x, wipe ((wipe σ ws).set j (some x)) ws = wipe σ ws) (hj : ∀ x : V, ((wipe σ ws).set j (some x))[j]? = some (some x))
    (c2 : ∀ (m : Nat) x (W1 : Wd F), Le W W1 → xs[m]? = some x → EvR tv ((wipe σ ws).set j (some (.int x.1))) W1 s (g x)) : EvOD (tDc (iKeys (tVar i)) (gName j) tYes (tVar j) tv ws) σ W s (xs.map fun x => (x.1, g x)) := fun W1 l Q q => by
  have h1 := l.ex _ _ hd
  refine ⟨_, hi, d, od, rfl, .inl ⟨kvs, W1.gh _ _ h1, fun p hp => dc_keys (d := d) (od := od) (kvs := kvs) (fun m H => ∃ W3 : Wd F, W3.H = H ∧ Le W1 W3 ∧ OwnD W3 p s ((xs.take m).map fun x => (x.1, g x))) ⟨W1.own p _ hp, rfl, W1.own_le hp, ⟨[], W1.own_at hp, DictR.nil⟩⟩ ?_ ?_ ?_⟩⟩
  · rintro m _ _ ⟨W3, rfl, l3, _⟩
    exact W3.gh _ _ (l3.ex _ _ h1)
  · rintro m k v _ hm ⟨W3, rfl, l3, o⟩
    have hm' : m < xs.length := by rw [← hr.1]; exact (List.getElem?_eq_some_iff.mp hm).1
    have hx : xs[m]? = some xs[m] := List.getElem?_eq_getElem hm'
    obtain ⟨v', e1, _⟩ := hr.2 m _ hx
    rw [hm] at e1
    cases e1
    refine ⟨hw _, ?_⟩
    refine ⟨_, hj _, c2 m xs[m] W1 l hx W3 l3 _ fun yv W5 l5 hv => ?_⟩
    obtain ⟨kvs', o1, o2⟩ := (o.up l5).ex
    refine ⟨kvs', Sum.inl xs[m].1, rfl, o1.h, by rw [o2.1]; exact Nat.lt_of_le_of_lt (show ((xs.take m).map fun x => (x.1, g x)).length ≤ 40000 by rw [List.length_map, List.length_take]; omega) (by decide), W5.put p _ o1.z o1.g, rfl, le_put (l3.trans l5) hp _ _, ⟨_, W5.put_at o1.z o1.g, ?_⟩⟩
    have e : (xs.take (m + 1)).map (fun x => (x.1, g x)) = dput ((xs.take m).map fun x => (x.1, g x)) xs[m].1 (g xs[m]) := by
      rw [dput_new, List.take_add_one, hx, List.map_append]
      · rfl
      · rw [dlook_none, List.map_map]
        intro hm2
        obtain ⟨x', hx', e⟩ := List.mem_map.mp hm2
        have e : x'.1 = xs[m].1 := e
        obtain ⟨c, hc, ec⟩ := List.getElem_of_mem hx'
        rw [List.getElem_take] at ec
        have hc' : c < m := by rw [List.length_take] at hc; omega
        have := (List.getElem_inj nd (h₀ := by simp [keysD]; omega) (h₁ := by simpa [keysD] using hm')).mp (show (keysD xs)[c]'(by simp [keysD]; omega) = (keysD xs)[m]'(by simpa [keysD] using hm') by
          simp only [keysD, List.getElem_map]; rw [ec, e])
        omega
    rw [e]
    exact o2.put hv
  · rintro _ ⟨W3, rfl, l3, o⟩
    rw [hr.1, List.take_length] at o
    exact q p W3 l3 (le_fresh (Le.refl _) hp) o
theorem EvOD.fz {xs : List (Int × α)} (h : EvOD te σ W r xs) : EvR te σ W (rDict r) xs := fun W1 l Q q => h W1 l Q fun p W2 l2 hp o => by
  obtain ⟨vs, h1, h2⟩ := o.ex
  have y := q (.ref p) (W2.frz p _ h1) (le_frz l2 hp h1) ⟨p, vs, rfl, W2.frz_at h1, h2.mono (W2.frz_wk h1).ex⟩
  exact y
/-- d[k] while d is locked -/
theorem ev_dgetL {d : Addr} {od : Obj} {kvs : List (Key × V)} {xs : List (Int × α)} {k : Int} {x : α} {i : Nat} (hi : σ[i]? = some (some (.ref d))) (hd : W.G d = some (.frz od (.dK kvs))) (hr : DictR r W.G kvs xs) (hb : EvR tb σ W rInt k) (hx : dlook xs k = some x) : EvR (tDGet (tVar i) tb) σ W r x := fun W1 l Q q =>
  ⟨_, hi, hb W1 l _ fun w W3 l3 hw => by
    have hw : w = .int k := hw
    subst hw
    rcases hr.look (k := k) with ⟨e, _⟩ | ⟨u, y, e, e2, hr⟩
    · rw [hx] at e; cases e
    · rw [hx] at e; cases e
      exact ⟨d, u, rfl, .inl ⟨kvs, Sum.inl k, .inr ⟨od, W3.gh _ _ ((l.trans l3).ex _ _ hd)⟩, rfl, e2.symm⟩, q u W3 l3 (r.mono (l.trans l3).ex hr)⟩⟩
/-- d.get(k), d of one's own -/
theorem ev_oget {i : Nat} {p : Addr} {xs : List (Int × α)} {k : Int} (hi : σ[i]? = some (some (.ref p))) (o : OwnD W p r xs) (hb : EvR tb σ W rInt k) : EvR (tDGet1 (tVar i) tb) σ W (rOpt r) (dlook xs k) := fun W1 l Q q => by
  obtain ⟨kvs, h1, h2⟩ := (o.up l).ex
  refine ⟨_, hi, p, rfl, .inl ⟨kvs, .inl h1.h⟩, hb W1 l _ fun w W2 l2 hw => ?_⟩
  have hw : w = .int k := hw
  subst hw
  refine ⟨_, DGet.k (k := (Sum.inl k : Key)) (h1.up l2).h, ?_⟩
  rcases (h2.mono l2.ex).look (k := k) with ⟨e, e2⟩ | ⟨u, y, e, e2, hr⟩
  · rw [e2]; exact q _ W2 l2 (by rw [e]; rfl)
  · rw [e2]; exact q _ W2 l2 (by rw [e]; exact hr)
theorem fl_opt {x : Option Int} {y : Int} {G G' : Hp} {v w : V} (h1 : (rOpt rInt).rel G v x) (h2 : rInt.rel G' w y) : scal v w = true ∧ (v = w ↔ x = some y) := by
  have h2 : w = .int y := h2
  subst h2
  cases x with
  | none =>
    have h1 : v = .non := h1
    subst h1
    exact ⟨rfl, by simp⟩
  | some z =>
    have h1 : v = .int z := h1
    subst h1
    exact ⟨rfl, by simp⟩
theorem ev_eqO {x : Option Int} {y : Int} (ha : EvR ta σ W (rOpt rInt) x) (hb : EvR tb σ W rInt y) : EvR (tOp (oEqA K) ta tb) σ W rBool (decide (x = some y)) :=
  ev_op ha hb fun W1 v w Q l hv hw q => by
    obtain ⟨h1, h2⟩ := fl_opt hv hw
    refine .inl ⟨h1, ?_⟩
    rw [show decide (v = w) = decide (x = some y) from decide_eq_decide.mpr h2]
    exact q _ W1 (Le.refl _) rfl
theorem ev_neO {x : Option Int} {y : Int} (ha : EvR ta σ W (rOpt rInt) x) (hb : EvR tb σ W rInt y) : EvR (tOp (oNeA K) ta tb) σ W rBool (!decide (x = some y)) :=
  ev_op ha hb fun W1 v w Q l hv hw q => by
    obtain ⟨h1, h2⟩ := fl_opt hv hw
    refine .inl ⟨h1, ?_⟩
    rw [show decide (v = w) = decide (x = some y) from decide_eq_decide.mpr h2]
    exact q _ W1 (Le.refl _) rfl
/-- x is not None -/
theorem ev_notNO {x : Option α} {tn : TE} {op : R2} (he : op = fun x y H Q => y = .non ∧ Q (.bl (!decide (x = .non))) H) (hn : tn = tC .non) (nn : ∀ G v (x : α), r.rel G v x → v ≠ .non) (ha : EvR ta σ W (rOpt r) x) : EvR (tOp op ta tn) σ W rBool x.isSome := by
  subst he hn
  exact fun W1 l Q q => ha W1 l _ fun v W2 l2 hv => ⟨rfl, by
    cases x with
    | none =>
      have hv : v = .non := hv
      subst hv
      exact q _ W2 l2 rfl
    | some y =>
      rw [decide_eq_false (nn _ _ _ hv)]
      exact q _ W2 l2 rfl⟩
theorem nn_t2 : ∀ (G : Hp) v (x : α × β), (rT2 r s).rel G v x → v ≠ .non := fun G v x h => by
  obtain ⟨a, _, _, rfl, _⟩ := h
  exact fun z => nomatch z
/-- del d[k] -/
theorem s_ddel {i : Nat} {p : Addr} {xs : List (Int × α)} {k : Int} {x : α} (hi : σ[i]? = some (some (.ref p))) (o : OwnD W p r xs) (hb : EvR tb σ W rInt k) (hx : dlook xs k = some x)
    (c : ∀ W1 : Wd F, Kp p W W1 → OwnD W1 p r (ddrop xs k) → D.nx σ W1.H) : sDDel (tVar i) tb D σ W.H := by
  refine ⟨_, hi, hb W (Le.refl _) _ fun w W1 l hw => ?_⟩
  have hw : w = .int k := hw
  subst hw
  obtain ⟨kvs, h1, h2⟩ := (o.up l).ex
  refine ⟨p, kvs, Sum.inl k, rfl, h1.h, rfl, ?_, c (W1.put p _ h1.z h1.g) ⟨l.ex, fun q u ne x => (x.up l).put ne _ _⟩ ⟨_, W1.put_at h1.z h1.g, h2.drop⟩⟩
  rcases h2.look (k := k) with ⟨e, e2⟩ | ⟨u, y, e, e2, hr⟩
  · rw [hx] at e; cases e
  · rw [e2]; rfl
/-- {} of one's own -/
theorem q_asgD0 {i : Nat} (tn : TE) (he : tn = fun σ H Q => ∀ d, H d = none → Q (.ref d) (upd H d (.dK []))) (k : ∀ p (W1 : Wd F), Le W W1 → W.H p = none → OwnD W1 p r [] → tz D (σ.set i (some (.ref p))) W1.H) : tSeq (tAsg tn (gName i)) tz D σ W.H := by
  subst he
  exact fun d hd => k d (W.own d _ hd) (W.own_le hd) hd ⟨[], W.own_at hd, DictR.nil⟩
end
/-! ### a dict that is handed in to be turned -/
def eF (G H : Hp) (p : Addr) : Fr where
  G0 := G
  H0 := cut H p
  M := fun _ => False
  I := fun _ => True
  st := fun _ _ _ _ => True.intro
  has := fun _ _ _ z => z.elim
  i0 := True.intro
def Wd.inE (G H : Hp) (p : Addr) (gh : Ex G H) : Wd (eF G H p) where
  G := G
  H := H
  gh := gh
  gg := Ex.refl _
  kp := fun a _ g n => by
    have ha : a ≠ p := fun z => n (by rw [z]; exact cut_same)
    exact ⟨g, (cut_ne ha).symm⟩
  mg := fun _ z => False.elim z
  iv := True.intro
section
variable {F : Fr} {α : Type} {r : Rp α}
theorem inE_own {G H : Hp} {p : Addr} {gh : Ex G H} {kvs : List (Key × V)} {xs : List (Int × α)} (g : G p = none) (h : H p = some (.dK kvs)) (hr : DictR r G kvs xs) : OwnD (Wd.inE G H p gh) p r xs := ⟨kvs, ⟨g, h, cut_same⟩, hr⟩
def Wd.backE (W : Wd F) {p : Addr} {o : HO} (x : Own W p o) (W' : Wd (eF W.G W.H p)) : Wd F where
  G := W'.G
  H := W'.H
  gh := W'.gh
  gg := W.gg.trans W'.gg
  kp := fun a m g n => by
    obtain ⟨h1, h2⟩ := W.kp a m g n
    have ha : a ≠ p := fun z => n (by rw [z]; exact x.z)
    obtain ⟨h3, h4⟩ := W'.kp a (fun z => z) h1 (by rw [show (eF W.G W.H p).H0 a = W.H a from cut_ne ha, h2]; exact n)
    exact ⟨h3, h4.trans ((cut_ne ha).trans h2)⟩
  mg := fun a m => by
    have ha : a ≠ p := fun z => x.nm (z ▸ m)
    exact (W'.kp a (fun z => z) (W.mg a m) (by rw [show (eF W.G W.H p).H0 a = W.H a from cut_ne ha]; exact F.has _ _ W.iv m)).1
  iv := F.st _ _ (fun a m => by
    have ha : a ≠ p := fun z => x.nm (z ▸ m)
    exact (W'.kp a (fun z => z) (W.mg a m) (by rw [show (eF W.G W.H p).H0 a = W.H a from cut_ne ha]; exact F.has _ _ W.iv m)).2.trans (cut_ne ha)) W.iv
theorem Wd.backE_own {W : Wd F} {p q : Addr} {o u : HO} (x : Own W p o) (W' : Wd (eF W.G W.H p)) (y : Own W q u) (ne : q ≠ p) : Own (W.backE x W') q u := by
  obtain ⟨h3, h4⟩ := W'.kp q (fun z => z) y.g (by rw [show (eF W.G W.H p).H0 q = W.H q from cut_ne ne, y.h]; exact fun z => nomatch z)
  exact ⟨h3, h4.trans ((cut_ne ne).trans y.h), y.z⟩
theorem Wd.backE_kp {W : Wd F} {p : Addr} {o : HO} (x : Own W p o) (W' : Wd (eF W.G W.H p)) : Kp p W (W.backE x W') := ⟨W'.gg, fun q u ne y => Wd.backE_own x W' y ne⟩
theorem Wd.backE_at {W : Wd F} {p : Addr} {o u : HO} (x : Own W p o) (W' : Wd (eF W.G W.H p)) (y : Own W' p u) : Own (W.backE x W') p u := ⟨y.g, y.h, x.z⟩
/-- nothing turned -/
theorem Wd.backE_le {W : Wd F} {p : Addr} {o : HO} (x : Own W p o) (W' : Wd (eF W.G W.H p)) (y : Own W' p o) : Le W (W.backE x W') := ⟨W'.gg, fun a m g n => by
  by_cases ha : a = p
  · subst ha
    exact ⟨y.g, y.h.trans x.h.symm⟩
  · obtain ⟨h3, h4⟩ := W'.kp a (fun z => z) g (by rw [show (eF W.G W.H p).H0 a = W.H a from cut_ne ha]; exact n)
    exact ⟨h3, h4.trans (cut_ne ha)⟩⟩
end
end Q

namespace Q
theorem mergeG_get {g : List Int} {a b : Int} {i : Nat} (h : i < g.length) : (mergeG g a b).getD i 0 = if g.getD i 0 = g.getD b.toNat 0 then g.getD a.toNat 0 else g.getD i 0 := by
  unfold mergeG
  simp only [List.getD_eq_getElem?_getD, List.getElem?_map, List.getElem?_eq_getElem h, Option.map_some, Option.getD_some, decide_eq_true_eq]
abbrev lab (n : Nat) (ls : List Ln) (some : List Int) (p : Int) : Int := (groupsM n ls some).getD p.toNat 0
theorem groupsM_snoc {n : Nat} {ls : List Ln} {some : List Int} {l : Int} : groupsM n ls (some ++ [l]) = mergeG (groupsM n ls some) (lineAt ls l).1 (lineAt ls l).2.1 := by
  unfold groupsM; rw [List.foldl_append]; rfl
theorem lab_snoc {n : Nat} {ls : List Ln} {some : List Int} {l p : Int} (h : 0 ≤ p ∧ p < (n : Int)) : lab n ls (some ++ [l]) p = if lab n ls some p = lab n ls some (lineAt ls l).2.1 then lab n ls some (lineAt ls l).1 else lab n ls some p := by
  unfold lab
  rw [groupsM_snoc, mergeG_get (by rw [groupsM_len]; omega)]
theorem lab_nil {n : Nat} {ls : List Ln} {p : Int} (h : 0 ≤ p ∧ p < (n : Int)) : lab n ls [] p = p := by
  have e : (rg (n : Int))[p.toNat]? = Option.some p := rg_get.mpr ⟨by omega, by omega⟩
  show (rg (n : Int)).getD p.toNat 0 = p
  rw [List.getD_eq_getElem?_getD, e]
  rfl
theorem snoc_ind {α : Type} {C : List α → Prop} (h0 : C []) (h1 : ∀ xs x, C xs → C (xs ++ [x])) (xs : List α) : C xs := by
  have : ∀ ys : List α, C ys.reverse := by
    intro ys
    induction ys with
    | nil => exact h0
    | cons y ys ih => rw [List.reverse_cons]; exact h1 _ _ ih
  have := this xs.reverse
  rwa [List.reverse_reverse] at this
/-- the ends of a line that has been taken have one label -/
theorem lab_line {n : Nat} {ls : List Ln} (ok : LinesOk n ls) (some : List Int) : Nums ls.length some → ∀ l ∈ some, lab n ls some (lineAt ls l).1 = lab n ls some (lineAt ls l).2.1 := by
  refine snoc_ind (C := fun some => Nums ls.length some → ∀ l ∈ some, lab n ls some (lineAt ls l).1 = lab n ls some (lineAt ls l).2.1) (fun _ l h => nomatch h) (fun xs x ih nb l hl => ?_) some
  have b1 := ok.l2 _ (lineAt_mem (nb l hl))
  rw [lab_snoc b1.1, lab_snoc b1.2.1]
  rcases List.mem_append.mp hl with h | h
  · rw [ih (fun y hy => nb y (List.mem_append_left _ hy)) l h]
  · rw [List.mem_singleton] at h
    subst h
    by_cases e : lab n ls xs (lineAt ls l).1 = lab n ls xs (lineAt ls l).2.1
    · simp [e]
    · simp [e]
/-- what holds alike at both ends of each line holds alike where the labels are alike -/
theorem lab_ind {n : Nat} {ls : List Ln} (ok : LinesOk n ls) (C : Int → Prop) (some : List Int) : Nums ls.length some → (∀ l ∈ some, C (lineAt ls l).1 ↔ C (lineAt ls l).2.1) → ∀ a b, (0 ≤ a ∧ a < (n : Int)) → (0 ≤ b ∧ b < (n : Int)) → lab n ls some a = lab n ls some b → (C a ↔ C b) := by
  refine snoc_ind (C := fun some => Nums ls.length some → (∀ l ∈ some, C (lineAt ls l).1 ↔ C (lineAt ls l).2.1) → ∀ a b, (0 ≤ a ∧ a < (n : Int)) → (0 ≤ b ∧ b < (n : Int)) → lab n ls some a = lab n ls some b → (C a ↔ C b)) (fun _ _ a b ha hb e => ?_) (fun xs x ih nb hc a b ha hb e => ?_) some
  · rw [lab_nil ha, lab_nil hb] at e; rw [e]
  · have ih := ih (fun y hy => nb y (List.mem_append_left _ hy)) (fun y hy => hc y (List.mem_append_left _ hy))
    have b1 := ok.l2 _ (lineAt_mem (nb x (by simp)))
    have cx := hc x (by simp)
    rw [lab_snoc ha, lab_snoc hb] at e
    by_cases h1 : lab n ls xs a = lab n ls xs (lineAt ls x).2.1 <;> by_cases h2 : lab n ls xs b = lab n ls xs (lineAt ls x).2.1
    · exact (ih a _ ha b1.2.1 h1).trans (ih b _ hb b1.2.1 h2).symm
    · rw [if_pos h1, if_neg h2] at e
      exact ((ih a _ ha b1.2.1 h1).trans cx.symm).trans (ih _ b b1.1 hb e)
    · rw [if_neg h1, if_pos h2] at e
      exact ((ih a _ ha b1.1 e).trans cx).trans (ih b _ hb b1.2.1 h2).symm
    · rw [if_neg h1, if_neg h2] at e
      exact ih a b ha hb e
theorem mem_ledM {n : Nat} {ls : List Ln} {some bs : List Int} {p : Int} : p ∈ ledM n ls some bs ↔ (0 ≤ p ∧ p < (n : Int)) ∧ ∃ b ∈ bs, lab n ls some b = lab n ls some p := by
  unfold ledM
  rw [List.mem_filter, mem_rg, decide_eq_true_eq, List.mem_map]
theorem ledM_nodup {n : Nat} {ls : List Ln} {some bs : List Int} : (ledM n ls some bs).Nodup := (rg_nodup _).filter _
theorem ledM_perm {n : Nat} {ls : List Ln} {some bs bs' : List Int} (h : ∀ b, b ∈ bs ↔ b ∈ bs') : ledM n ls some bs = ledM n ls some bs' := by
  unfold ledM
  apply List.filter_congr
  intro p _
  apply decide_eq_decide.mpr
  rw [List.mem_map, List.mem_map]
  constructor
  · rintro ⟨b, hb, e⟩; exact ⟨b, (h b).mp hb, e⟩
  · rintro ⟨b, hb, e⟩; exact ⟨b, (h b).mpr hb, e⟩
theorem stepsM_keys {n : Nat} {ls : List Ln} {nums : List Int} : keysD (stepsM n ls nums) = rg (n : Int) := by
  unfold stepsM keysD
  rw [List.map_map]
  apply List.ext_getElem?
  intro i
  rw [List.getElem?_map]
  by_cases h : i < n
  · rw [List.getElem?_eq_getElem (by simpa using h), List.getElem_range]
    exact (rg_get.mpr ⟨by omega, rfl⟩).symm
  · rw [List.getElem?_eq_none (by simpa using h), List.getElem?_eq_none (by rw [rg_len]; omega)]
    rfl
theorem stepsM_some {n : Nat} {ls : List Ln} {nums : List Int} {b : Int} {st : List (Int × Int)} (h : dlook (stepsM n ls nums) b = some st) : (0 ≤ b ∧ b < (n : Int)) ∧ st = adjM ls nums b := by
  have hb : 0 ≤ b ∧ b < (n : Int) := by
    have := dlook_isSome.mpr ⟨_, h⟩
    rw [stepsM_keys] at this
    exact mem_rg.mp this
  rw [stepsM_look hb] at h
  exact ⟨hb, (Option.some.inj h).symm⟩
theorem stepsM_ok {n : Nat} {ls : List Ln} {nums : List Int} (ok : LinesOk n ls) (nb : Nums ls.length nums) : StepsOk (stepsM n ls nums) := ⟨by unfold stepsM; simp; have := ok.n2; omega, fun b st x h hx => by
  obtain ⟨hb, rfl⟩ := stepsM_some h
  rw [stepsM_keys, mem_rg]
  obtain ⟨l, q⟩ := x
  obtain ⟨hl, h⟩ := mem_adjM.mp hx
  have b1 := ok.l2 _ (lineAt_mem (nb l hl))
  rcases h with ⟨e1, e2⟩ | ⟨e1, e2, e3⟩
  · exact e2 ▸ b1.2.1
  · exact e3 ▸ b1.1⟩
theorem adj_sym {ls : List Ln} {nums : List Int} {l p q : Int} (h : (lineAt ls l).1 ≠ (lineAt ls l).2.1) (hm : (l, q) ∈ adjM ls nums p) : (l, p) ∈ adjM ls nums q := by
  obtain ⟨hl, h1⟩ := mem_adjM.mp hm
  rw [mem_adjM]
  refine ⟨hl, ?_⟩
  rcases h1 with ⟨e1, e2⟩ | ⟨e1, e2, e3⟩
  · exact .inr ⟨fun z => h (z.trans e2.symm), e2, e1⟩
  · exact .inl ⟨e3, e2⟩
/-- what is reached over these lines is what the labels say -/
theorem reached_led {n : Nat} {ls : List Ln} {nums bs : List Int} {zs : CameD} (ok : LinesOk n ls) (nb : Nums ls.length nums) (hb : ∀ b ∈ bs, 0 ≤ b ∧ b < (n : Int)) (c : CameR (stepsM n ls nums) bs zs) : ∀ p, p ∈ keysD zs ↔ p ∈ ledM n ls nums bs := by
  have lb : ∀ {p l q}, (0 ≤ p ∧ p < (n : Int)) → (l, q) ∈ adjM ls nums p → lab n ls nums p = lab n ls nums q := by
    intro p l q hp hm
    obtain ⟨hl, h1⟩ := mem_adjM.mp hm
    have e := lab_line ok nums nb l hl
    rcases h1 with ⟨e1, e2⟩ | ⟨e1, e2, e3⟩
    · rw [← e1, ← e2]; exact e
    · rw [← e2, ← e3]; exact e.symm
  have fwd : ∀ (i : Nat) p, (keysD zs)[i]? = some p → ∃ b ∈ bs, lab n ls nums b = lab n ls nums p := by
    intro i
    induction i using Nat.strongRecOn with
    | ind i ih =>
      intro p hp
      have hi : i < zs.length := by simpa [keysD] using (List.getElem?_eq_some_iff.mp hp).1
      have hz : zs[i]? = some zs[i] := List.getElem?_eq_getElem hi
      have e : zs[i].1 = p := by
        unfold keysD at hp
        rw [List.getElem?_map, hz] at hp
        exact Option.some.inj hp
      rcases c.i.en i zs[i].1 zs[i].2 hz with ⟨_, hm⟩ | ⟨l, b, st, _, ⟨j, hj, hj2⟩, hs, hm⟩
      · exact ⟨p, e ▸ hm, rfl⟩
      · obtain ⟨s, hs1, hs2⟩ := ih j hj b hj2
        obtain ⟨hbb, rfl⟩ := stepsM_some hs
        exact ⟨s, hs1, hs2.trans (e ▸ lb hbb hm)⟩
  intro p
  rw [mem_ledM]
  constructor
  · intro hp
    refine ⟨?_, ?_⟩
    · have := c.i.ks p hp
      rw [stepsM_keys] at this
      exact mem_rg.mp this
    · obtain ⟨i, hi, e⟩ := List.getElem_of_mem hp
      exact fwd i p (by rw [List.getElem?_eq_getElem hi, e])
  · rintro ⟨hp, b, hbm, e⟩
    refine (lab_ind ok (fun p => p ∈ keysD zs) nums nb (fun l hl => ?_) b p (hb b hbm) hp e).mp (dlook_isSome.mpr ⟨_, c.i.st b hbm⟩)
    have b1 := ok.l2 _ (lineAt_mem (nb l hl))
    have m1 : (l, (lineAt ls l).2.1) ∈ adjM ls nums (lineAt ls l).1 := mem_adjM.mpr ⟨hl, .inl ⟨rfl, rfl⟩⟩
    have m2 := adj_sym b1.2.2 m1
    exact ⟨fun h => c.c _ _ _ h (stepsM_look b1.1) m1, fun h => c.c _ _ _ h (stepsM_look b1.2.1) m2⟩
theorem nodup_len_eq {xs ys : List Int} (h1 : xs.Nodup) (h2 : ys.Nodup) (h : ∀ p, p ∈ xs ↔ p ∈ ys) : xs.length = ys.length := Nat.le_antisymm (nodup_sub _ _ h1 fun x hx => (h x).mp hx) (nodup_sub _ _ h2 fun x hx => (h x).mpr hx)
def wholeM (k : Nat) (b : List Int) : List Int := (rg (k : Int)).filter fun l => !decide (l ∈ b)
theorem wholeM_nums {k : Nat} {b : List Int} : Nums k (wholeM k b) := fun x hx => mem_rg.mp (List.mem_filter.mp hx).1
theorem wholeM_len {k : Nat} {b : List Int} : (wholeM k b).length ≤ k := by
  have := List.length_filter_le (fun l => !decide (l ∈ b)) (rg (k : Int))
  rw [rg_len] at this
  unfold wholeM
  omega
theorem wholeM_snoc {k : Nat} {b : List Int} {l : Int} : wholeM k (b ++ [l]) = (wholeM k b).filter fun x => !decide (x = l) := by
  unfold wholeM
  rw [List.filter_filter]
  apply List.filter_congr
  intro x _
  by_cases h1 : x ∈ b <;> by_cases h2 : x = l <;> simp [h1, h2]
end Q

namespace Q
/-! ### lines in use, each with the place to which it is gone -/
abbrev Heads := List (Int × Int)
def tailOf (ls : List Ln) (l h : Int) : Int := if (lineAt ls l).1 = h then (lineAt ls l).2.1 else (lineAt ls l).1
structure HeadsOk (ls : List Ln) (whole : List Int) (hs : Heads) : Prop where
  nd : (keysD hs).Nodup
  m : ∀ x ∈ hs, x.1 ∈ whole ∧ ((lineAt ls x.1).1 = x.2 ∨ (lineAt ls x.1).2.1 = x.2)
def out (S : Int → Bool) (p : Int) : Int := if S p then 0 else 1
def term (ls : List Ln) (S : Int → Bool) (x : Int × Int) : Int := out S x.2 - out S (tailOf ls x.1 x.2)
def fval (ls : List Ln) (S : Int → Bool) : Heads → Int
  | [] => 0
  | x :: xs => term ls S x + fval ls S xs
theorem fval_append {ls : List Ln} {S : Int → Bool} (xs ys : Heads) : fval ls S (xs ++ ys) = fval ls S xs + fval ls S ys := by
  induction xs with
  | nil => simp [fval]
  | cons x xs ih => rw [List.cons_append, fval, fval, ih]; omega
theorem ddrop_none {hs : Heads} {l : Int} (h : l ∉ keysD hs) : ddrop hs l = hs := by
  unfold ddrop
  apply List.filter_eq_self.mpr
  intro p hp
  have : p.1 ≠ l := fun e => h (e ▸ List.mem_map.mpr ⟨p, hp, rfl⟩)
  simpa using this
theorem dlook_cons {α : Type} {x : Int × α} {xs : List (Int × α)} {k : Int} : dlook (x :: xs) k = if x.1 = k then some x.2 else dlook xs k := by
  unfold dlook
  rw [List.find?_cons]
  by_cases h : x.1 = k <;> simp [h]
theorem fval_ddrop {ls : List Ln} {S : Int → Bool} {l h : Int} : ∀ {hs : Heads}, (keysD hs).Nodup → dlook hs l = some h → fval ls S (ddrop hs l) = fval ls S hs - term ls S (l, h)
  | [], _, e => by cases e
  | x :: xs, nd, e => by
    have nd' := List.nodup_cons.mp nd
    rw [dlook_cons] at e
    by_cases hx : x.1 = l
    · rw [if_pos hx] at e
      have e := Option.some.inj e
      have : x = (l, h) := by rw [← hx, ← e]
      subst this
      have hn : l ∉ keysD xs := nd'.1
      have : ddrop ((l, h) :: xs) l = xs := by
        unfold ddrop
        rw [List.filter_cons_of_neg (by simp)]
        exact ddrop_none hn
      rw [this, fval]; omega
    · rw [if_neg hx] at e
      have : ddrop (x :: xs) l = x :: ddrop xs l := by
        unfold ddrop
        rw [List.filter_cons_of_pos (by simpa using hx)]
      rw [this, fval, fval, fval_ddrop nd'.2 e]; omega
theorem dlook_mem {α : Type} {xs : List (Int × α)} {k : Int} {v : α} (h : dlook xs k = some v) : (k, v) ∈ xs := by
  induction xs with
  | nil => cases h
  | cons x xs ih =>
    rw [dlook_cons] at h
    by_cases hx : x.1 = k
    · rw [if_pos hx] at h
      have h := Option.some.inj h
      rw [← hx, ← h]; simp
    · rw [if_neg hx] at h
      exact List.mem_cons_of_mem _ (ih h)
theorem dlook_of_mem {α : Type} {xs : List (Int × α)} {k : Int} {v : α} (nd : (keysD xs).Nodup) (h : (k, v) ∈ xs) : dlook xs k = some v := by
  induction xs with
  | nil => cases h
  | cons x xs ih =>
    have nd' := List.nodup_cons.mp nd
    rw [dlook_cons]
    rcases List.mem_cons.mp h with e | e
    · subst e; simp
    · have : x.1 ≠ k := fun z => nd'.1 (List.mem_map.mpr ⟨_, e, z.symm⟩)
      rw [if_neg this]
      exact ih nd'.2 e
theorem dlook_ddrop {α : Type} {xs : List (Int × α)} {k l : Int} (h : k ≠ l) : dlook (ddrop xs l) k = dlook xs k := by
  induction xs with
  | nil => rfl
  | cons x xs ih =>
    unfold ddrop at ih ⊢
    by_cases hx : x.1 = l
    · rw [List.filter_cons_of_neg (by simpa using hx), ih, dlook_cons, if_neg (fun z => h (z.symm.trans hx))]
    · rw [List.filter_cons_of_pos (by simpa using hx), dlook_cons, dlook_cons, ih]
theorem dlook_snoc {α : Type} {xs : List (Int × α)} {k l : Int} {v : α} (h : k ≠ l) : dlook (xs ++ [(l, v)]) k = dlook xs k := by
  induction xs with
  | nil => rw [List.nil_append, dlook_cons, if_neg (fun z => h z.symm)]
  | cons x xs ih => rw [List.cons_append, dlook_cons, dlook_cons, ih]
theorem HeadsOk.drop {ls : List Ln} {whole : List Int} {hs : Heads} (h : HeadsOk ls whole hs) (p : Int × Int → Bool) : HeadsOk ls whole (hs.filter p) := ⟨h.nd.sublist ((List.filter_sublist).map _), fun x hx => h.m x (List.mem_filter.mp hx).1⟩
theorem HeadsOk.snoc {ls : List Ln} {whole : List Int} {hs : Heads} (h : HeadsOk ls whole hs) {l p : Int} (hl : l ∉ keysD hs) (hw : l ∈ whole) (he : (lineAt ls l).1 = p ∨ (lineAt ls l).2.1 = p) : HeadsOk ls whole (hs ++ [(l, p)]) := ⟨by
  rw [keys_app, List.nodup_append]
  refine ⟨h.nd, by simp, fun a ha c hc e => ?_⟩
  rw [List.mem_singleton] at hc
  exact hl (hc ▸ e ▸ ha), fun x hx => by
  rcases List.mem_append.mp hx with z | z
  · exact h.m x z
  · rw [List.mem_singleton] at z; subst z; exact ⟨hw, he⟩⟩
theorem HeadsOk.len {ls : List Ln} {whole : List Int} {hs : Heads} (h : HeadsOk ls whole hs) : hs.length ≤ whole.length := by
  have := nodup_sub (keysD hs) whole h.nd fun l hl => by
    obtain ⟨x, hx, e⟩ := List.mem_map.mp hl
    exact e ▸ (h.m x hx).1
  simpa [keysD] using this
theorem term_le {ls : List Ln} {S : Int → Bool} {x : Int × Int} : term ls S x ≤ if S x.2 = S (tailOf ls x.1 x.2) then 0 else 1 := by
  unfold term out
  cases S x.2 <;> cases S (tailOf ls x.1 x.2) <;> simp
/-- what crosses at all -/
def crossing (ls : List Ln) (S : Int → Bool) (hs : Heads) : Heads := hs.filter fun x => !(S x.2 == S (tailOf ls x.1 x.2))
theorem fval_le {ls : List Ln} {S : Int → Bool} : ∀ hs : Heads, fval ls S hs ≤ (crossing ls S hs).length
  | [] => by simp [fval, crossing]
  | x :: xs => by
    have ih := fval_le (ls := ls) (S := S) xs
    have t := term_le (ls := ls) (S := S) (x := x)
    unfold crossing at ih ⊢
    rw [fval]
    by_cases h : S x.2 = S (tailOf ls x.1 x.2)
    · rw [List.filter_cons_of_neg (by simp [h])]
      rw [if_pos h] at t
      omega
    · rw [List.filter_cons_of_pos (by simpa using h), List.length_cons]
      rw [if_neg h] at t
      omega
theorem fval_eq {ls : List Ln} {S : Int → Bool} : ∀ hs : Heads, (∀ x ∈ hs, S x.2 = true → S (tailOf ls x.1 x.2) = true) → fval ls S hs = (crossing ls S hs).length
  | [], _ => by simp [fval, crossing]
  | x :: xs, h => by
    have ih := fval_eq (ls := ls) (S := S) xs fun y hy => h y (List.mem_cons_of_mem _ hy)
    have hx := h x (by simp)
    unfold crossing at ih ⊢
    rw [fval]
    have tx : term ls S x = if S x.2 = S (tailOf ls x.1 x.2) then 0 else 1 := by
      unfold term out
      cases e1 : S x.2 <;> cases e2 : S (tailOf ls x.1 x.2) <;> simp_all
    by_cases e : S x.2 = S (tailOf ls x.1 x.2)
    · rw [List.filter_cons_of_neg (by simp [e]), tx, if_pos e, ih]; omega
    · rw [List.filter_cons_of_pos (by simpa using e), List.length_cons, tx, if_neg e, ih]; omega
def Flow (ls : List Ln) (srcs : List Int) (place : Int) (hs : Heads) (k : Nat) : Prop := ∀ S : Int → Bool, (∀ s ∈ srcs, S s = true) → S place = false → fval ls S hs = k
theorem Flow.nil {ls : List Ln} {srcs : List Int} {place : Int} : Flow ls srcs place [] 0 := fun _ _ _ => rfl
theorem Flow.bound {ls : List Ln} {srcs whole : List Int} {place : Int} {hs : Heads} {k : Nat} (f : Flow ls srcs place hs k) (h : HeadsOk ls whole hs) (hp : place ∉ srcs) : k ≤ whole.length := by
  have e := f (fun p => decide (p ∈ srcs)) (fun s hs => by simpa using hs) (by simpa using hp)
  have := fval_le (ls := ls) (S := fun p => decide (p ∈ srcs)) hs
  have h2 : (crossing ls (fun p => decide (p ∈ srcs)) hs).length ≤ hs.length := List.length_filter_le _ _
  have := h.len
  omega
/-! ### spare steps, steps in use -/
def selM (f : Int × Int → Bool) (steps : StepsD) : StepsD := steps.map fun x => (x.1, x.2.filter f)
theorem selM_keys {f : Int × Int → Bool} {steps : StepsD} : keysD (selM f steps) = keysD steps := by simp [selM, keysD, Function.comp_def]
theorem selM_look {f : Int × Int → Bool} {steps : StepsD} {b : Int} : dlook (selM f steps) b = (dlook steps b).map (·.filter f) := by
  unfold selM
  induction steps with
  | nil => rfl
  | cons x xs ih =>
    rw [List.map_cons, dlook_cons, dlook_cons, ih]
    by_cases h : x.1 = b <;> simp [h]
theorem selM_some {f : Int × Int → Bool} {steps : StepsD} {b : Int} {st : List (Int × Int)} (h : dlook (selM f steps) b = some st) : ∃ st0, dlook steps b = some st0 ∧ st = st0.filter f := by
  rw [selM_look] at h
  cases e : dlook steps b with
  | none => rw [e] at h; cases h
  | some st0 => rw [e] at h; exact ⟨st0, rfl, (Option.some.inj h).symm⟩
theorem selM_ok {f : Int × Int → Bool} {steps : StepsD} (h : StepsOk steps) : StepsOk (selM f steps) := ⟨by unfold selM; rw [List.length_map]; exact h.n, fun b st x hs hx => by
  obtain ⟨st0, e, rfl⟩ := selM_some hs
  rw [selM_keys]
  exact h.t b st0 x e (List.mem_filter.mp hx).1⟩
def spareF (hs : Heads) : Int × Int → Bool := fun st => !decide (dlook hs st.1 = some st.2)
def usedF (hs : Heads) : Int × Int → Bool := fun st => decide (dlook hs st.1 = some st.2)
/-- an entry of what has been come to -/
theorem CameI.at {steps : StepsD} {starts : List Int} {zs : CameD} (c : CameI steps starts zs) {i : Nat} {p : Int} (h : (keysD zs)[i]? = some p) : (dlook zs p = some none ∧ p ∈ starts) ∨ ∃ l b st j, dlook zs p = some (some (l, b)) ∧ j < i ∧ (keysD zs)[j]? = some b ∧ dlook steps b = some st ∧ (l, p) ∈ st := by
  have hi : i < zs.length := by simpa [keysD] using (List.getElem?_eq_some_iff.mp h).1
  have hz : zs[i]? = some zs[i] := List.getElem?_eq_getElem hi
  have e : zs[i].1 = p := by
    unfold keysD at h
    rw [List.getElem?_map, hz] at h
    exact Option.some.inj h
  have hl : dlook zs p = some zs[i].2 := dlook_of_mem c.nd (by rw [← e]; exact List.getElem_mem hi)
  rcases c.en i zs[i].1 zs[i].2 hz with ⟨e2, hm⟩ | ⟨l, b, st, e2, ⟨j, hj, hj2⟩, hs, hm⟩
  · exact .inl ⟨by rw [hl, e2], e ▸ hm⟩
  · exact .inr ⟨l, b, st, j, by rw [hl, e2], hj, hj2, hs, e ▸ hm⟩
theorem idx_inj {xs : List Int} (nd : xs.Nodup) {i j : Nat} {a : Int} (h : xs[i]? = some a) (h' : xs[j]? = some a) : i = j := by
  obtain ⟨hi, e⟩ := List.getElem?_eq_some_iff.mp h
  obtain ⟨hj, e'⟩ := List.getElem?_eq_some_iff.mp h'
  exact (List.getElem_inj nd (h₀ := hi) (h₁ := hj)).mp (e.trans e'.symm)
/-- a line joins a and b -/
def Joins (ls : List Ln) (l a b : Int) : Prop := ((lineAt ls l).1 = a ∧ (lineAt ls l).2.1 = b) ∨ ((lineAt ls l).1 = b ∧ (lineAt ls l).2.1 = a)
theorem adj_joins {ls : List Ln} {whole : List Int} {l p b : Int} (h : (l, p) ∈ adjM ls whole b) : l ∈ whole ∧ Joins ls l b p := by
  obtain ⟨hl, h⟩ := mem_adjM.mp h
  refine ⟨hl, ?_⟩
  rcases h with ⟨e1, e2⟩ | ⟨_, e2, e3⟩
  · exact .inl ⟨e1, e2⟩
  · exact .inr ⟨e3, e2⟩
theorem joins_tail {ls : List Ln} {l a b : Int} (h : Joins ls l a b) (ne : a ≠ b) : tailOf ls l b = a ∧ tailOf ls l a = b := by
  unfold tailOf
  rcases h with ⟨e1, e2⟩ | ⟨e1, e2⟩
  · rw [e1, e2, if_neg ne, if_pos rfl]; exact ⟨rfl, rfl⟩
  · rw [e1, e2, if_pos rfl, if_neg ne.symm]; exact ⟨rfl, rfl⟩
/-- between two turns of use_way: at the place p with the number i among what has been come to -/
structure UseI (ls : List Ln) (whole srcs : List Int) (hs : Heads) (came : CameD) (place : Int) (i : Nat) (p : Int) (xs : Heads) : Prop where
  ok : HeadsOk ls whole xs
  at_ : (keysD came)[i]? = some p
  old : ∀ l a b (x y : Nat), Joins ls l a b → (keysD came)[x]? = some a → (keysD came)[y]? = some b → x ≤ i → y ≤ i → dlook xs l = dlook hs l
  val : ∀ S : Int → Bool, (∀ s ∈ srcs, S s = true) → fval ls S xs = fval ls S hs + out S place - out S p
section
variable {n : Nat} {ls : List Ln} {whole srcs : List Int} {hs xs : Heads} {came : CameD} {place p : Int} {i : Nat}
/-- one turn -/
theorem UseI.turn (lk : LinesOk n ls) (nb : Nums ls.length whole) (c : CameI (selM (spareF hs) (stepsM n ls whole)) srcs came) (u : UseI ls whole srcs hs came place i p xs) {l b : Int} (e : dlook came p = some (some (l, b))) :
    ∃ j, j < i ∧ ((dlook xs l).isSome = true → (∃ h, dlook xs l = some h) ∧ UseI ls whole srcs hs came place j b (ddrop xs l)) ∧ ((dlook xs l).isSome = false → UseI ls whole srcs hs came place j b (dput xs l p)) := by
  rcases c.at u.at_ with ⟨e2, _⟩ | ⟨l', b', st, j, e2, hj, hb, hs1, hm⟩
  · rw [e] at e2; cases e2
  rw [e] at e2
  cases e2
  obtain ⟨st0, hs2, rfl⟩ := selM_some hs1
  obtain ⟨hbn, rfl⟩ := stepsM_some hs2
  obtain ⟨hm1, hm2⟩ := List.mem_filter.mp hm
  obtain ⟨hw, jn⟩ := adj_joins hm1
  have ends := lk.l2 _ (lineAt_mem (nb l hw))
  have nbp : b ≠ p := fun z => by
    rcases jn with ⟨e1, e2⟩ | ⟨e1, e2⟩
    · exact ends.2.2 (e1.trans (z.trans e2.symm))
    · exact ends.2.2 (e1.trans (z.symm.trans e2.symm))
  have same := u.old l b p j i jn hb u.at_ (Nat.le_of_lt hj) (Nat.le_refl _)
  have nh : dlook hs l ≠ some p := by simpa [spareF] using hm2
  obtain ⟨t1, t2⟩ := joins_tail jn nbp
  have old' : ∀ zs : Heads, (∀ k, k ≠ l → dlook zs k = dlook xs k) → ∀ l' a b' (x y : Nat), Joins ls l' a b' → (keysD came)[x]? = some a → (keysD came)[y]? = some b' → x ≤ j → y ≤ j → dlook zs l' = dlook hs l' := by
    intro zs hz l' a b' x y jn' hx hy lx ly
    have nl : l' ≠ l := by
      intro z
      subst z
      have pe : p = a ∨ p = b' := by
        rcases jn with ⟨e1, e2⟩ | ⟨e1, e2⟩ <;> rcases jn' with ⟨e3, e4⟩ | ⟨e3, e4⟩
        · exact .inr (e2.symm.trans e4)
        · exact .inl (e2.symm.trans e4)
        · exact .inl (e1.symm.trans e3)
        · exact .inr (e1.symm.trans e3)
      rcases pe with z | z
      · subst z
        have := idx_inj c.nd u.at_ hx
        omega
      · subst z
        have := idx_inj c.nd u.at_ hy
        omega
    rw [hz l' nl]
    exact u.old l' a b' x y jn' hx hy (by omega) (by omega)
  refine ⟨j, hj, fun h => ?_, fun h => ?_⟩
  · cases eh : dlook xs l with
    | none => rw [eh] at h; cases h
    | some h' =>
      have hh : h' = b := by
        have hm' := (u.ok.m _ (dlook_mem eh)).2
        have : h' ≠ p := fun z => nh (by rw [← same, eh, z])
        rcases jn with ⟨e1, e2⟩ | ⟨e1, e2⟩ <;> rcases hm' with e3 | e3
        · exact e3.symm.trans e1
        · exact absurd (e3.symm.trans e2) this
        · exact absurd (e3.symm.trans e1) this
        · exact e3.symm.trans e2
      subst hh
      refine ⟨⟨_, rfl⟩, u.ok.drop _, hb, old' _ fun k hk => dlook_ddrop hk, fun S hS => ?_⟩
      rw [fval_ddrop u.ok.nd eh, u.val S hS]
      unfold term
      dsimp only
      rw [t2]
      omega
  · have hn : l ∉ keysD xs := fun z => by
      obtain ⟨v, e⟩ := dlook_isSome.mp z
      rw [e] at h; cases h
    rw [dput_new (dlook_none.mpr hn)]
    refine ⟨u.ok.snoc hn hw ?_, hb, old' _ fun k hk => dlook_snoc hk, fun S hS => ?_⟩
    · rcases jn with ⟨_, e2⟩ | ⟨e1, _⟩
      · exact .inr e2
      · exact .inl e1
    · rw [fval_append, u.val S hS]
      simp only [fval]
      unfold term
      dsimp only
      rw [t1]
      omega
theorem UseI.start (h : HeadsOk ls whole hs) (hp : (keysD came)[i]? = some place) : UseI ls whole srcs hs came place i place hs := ⟨h, hp, fun _ _ _ _ _ _ _ _ _ _ => rfl, fun S _ => by omega⟩
theorem UseI.done {steps : StepsD} (c : CameI steps srcs came) (u : UseI ls whole srcs hs came place i p xs) (e : dlook came p = some none) : HeadsOk ls whole xs ∧ ∀ k, Flow ls srcs place hs k → Flow ls srcs place xs (k + 1) := by
  refine ⟨u.ok, fun k f S hS hp => ?_⟩
  rcases c.at u.at_ with ⟨_, hm⟩ | ⟨_, _, _, _, e2, _⟩
  · rw [u.val S hS, f S hS hp]
    unfold out
    rw [hp, hS p hm]
    simp
  · rw [e] at e2; cases e2
end
/-! ### what is come to is told by the steps alone -/
theorem came_sub {steps : StepsD} {starts : List Int} {zs ys : CameD} (a : CameR steps starts zs) (b : CameR steps starts ys) : ∀ k ∈ keysD zs, k ∈ keysD ys := by
  have h : ∀ (i : Nat) p, (keysD zs)[i]? = some p → p ∈ keysD ys := by
    intro i
    induction i using Nat.strongRecOn with
    | ind i ih =>
      intro p hp
      rcases a.i.at hp with ⟨_, hm⟩ | ⟨l, c, st, j, _, hj, hc, hs, hm⟩
      · exact dlook_isSome.mpr ⟨_, b.i.st p hm⟩
      · exact b.c c st (l, p) (ih j hj c hc) hs hm
  intro k hk
  obtain ⟨i, hi, e⟩ := List.getElem_of_mem hk
  exact h i k (by rw [List.getElem?_eq_getElem hi, e])
/-! ### the cut -/
def cutM (ls : List Ln) (whole : List Int) (came : CameD) : List Int := whole.filter fun l => !((dlook came (lineAt ls l).1).isSome == (dlook came (lineAt ls l).2.1).isSome)
structure CutOk (n : Nat) (ls : List Ln) (whole srcs : List Int) (p : Int) (cut : List Int) : Prop where
  sub : cut.Sublist whole
  part : p ∉ ledM n ls (whole.filter fun l => !decide (l ∈ cut)) srcs
  least : ∀ D : List Int, p ∉ ledM n ls (whole.filter fun l => !decide (l ∈ D)) srcs → cut.length ≤ D.length
theorem lab_cross {n : Nat} {ls : List Ln} {whole srcs D : List Int} (lk : LinesOk n ls) (nb : Nums ls.length whole) {l : Int} (hl : l ∈ whole) (hd : l ∉ D) : ((lineAt ls l).1 ∈ ledM n ls (whole.filter fun l => !decide (l ∈ D)) srcs ↔ (lineAt ls l).2.1 ∈ ledM n ls (whole.filter fun l => !decide (l ∈ D)) srcs) := by
  have nb2 : Nums ls.length (whole.filter fun l => !decide (l ∈ D)) := fun x hx => nb x (List.mem_filter.mp hx).1
  have e := lab_line lk _ nb2 l (List.mem_filter.mpr ⟨hl, by simpa using hd⟩)
  have ends := lk.l2 _ (lineAt_mem (nb l hl))
  rw [mem_ledM, mem_ledM]
  constructor
  · rintro ⟨_, b, hb, eb⟩; exact ⟨ends.2.1, b, hb, eb.trans e⟩
  · rintro ⟨_, b, hb, eb⟩; exact ⟨ends.1, b, hb, eb.trans e.symm⟩
theorem cut_ok {n : Nat} {ls : List Ln} {whole srcs : List Int} {hs : Heads} {came : CameD} {place : Int} {k : Nat} (lk : LinesOk n ls) (nb : Nums ls.length whole) (wnd : whole.Nodup) (sb : ∀ s ∈ srcs, 0 ≤ s ∧ s < (n : Int)) (h : HeadsOk ls whole hs) (f : Flow ls srcs place hs k)
    (c : CameR (selM (spareF hs) (stepsM n ls whole)) srcs came) (hp : place ∉ keysD came) (pb : 0 ≤ place ∧ place < (n : Int)) : CutOk n ls whole srcs place (cutM ls whole came) ∧ (cutM ls whole came).length = k := by
  let S : Int → Bool := fun p => (dlook came p).isSome
  have Sk : ∀ p, S p = true ↔ p ∈ keysD came := fun p => by
    show (dlook came p).isSome = true ↔ _
    rw [dlook_some]; simp
  have S1 : ∀ s ∈ srcs, S s = true := fun s hs => (Sk s).mpr (dlook_isSome.mpr ⟨_, c.i.st s hs⟩)
  have S2 : S place = false := by
    cases e : S place with
    | false => rfl
    | true => exact absurd ((Sk _).mp e) hp
  -- a whole line with a in and b out is in use towards b
  have use : ∀ l a b, l ∈ whole → Joins ls l a b → S a = true → S b = false → dlook hs l = some b := by
    intro l a b hl jn ha hb
    have ends := lk.l2 _ (lineAt_mem (nb l hl))
    have hm : (l, b) ∈ adjM ls whole a := by
      rw [mem_adjM]
      refine ⟨hl, ?_⟩
      rcases jn with ⟨e1, e2⟩ | ⟨e1, e2⟩
      · exact .inl ⟨e1, e2⟩
      · exact .inr ⟨fun z => ends.2.2 (z.trans e2.symm), e2, e1⟩
    have ab : 0 ≤ a ∧ a < (n : Int) := by
      rcases jn with ⟨e1, _⟩ | ⟨_, e2⟩
      · exact e1 ▸ ends.1
      · exact e2 ▸ ends.2.1
    by_cases q : dlook hs l = some b
    · exact q
    · have := c.c a ((adjM ls whole a).filter (spareF hs)) (l, b) ((Sk a).mp ha) (by rw [selM_look, stepsM_look ab]; rfl) (List.mem_filter.mpr ⟨hm, by simpa [spareF] using q⟩)
      rw [(Sk b).mpr this] at hb
      cases hb
  have jt : ∀ x ∈ hs, Joins ls x.1 (tailOf ls x.1 x.2) x.2 := fun x hx => by
    unfold tailOf
    rcases (h.m x hx).2 with e | e
    · rw [if_pos e]; exact .inr ⟨e, rfl⟩
    · by_cases e2 : (lineAt ls x.1).1 = x.2
      · rw [if_pos e2]; exact .inr ⟨e2, rfl⟩
      · rw [if_neg e2]; exact .inl ⟨rfl, e⟩
  have tne : ∀ x ∈ hs, tailOf ls x.1 x.2 ≠ x.2 := fun x hx e => by
    have ends := lk.l2 _ (lineAt_mem (nb x.1 (h.m x hx).1))
    rcases jt x hx with ⟨e1, e2⟩ | ⟨e1, e2⟩
    · exact ends.2.2 (e1.trans (e.trans e2.symm))
    · exact ends.2.2 (e1.trans (e.symm.trans e2.symm))
  have inw : ∀ x ∈ hs, S x.2 = true → S (tailOf ls x.1 x.2) = true := fun x hx e => by
    cases e2 : S (tailOf ls x.1 x.2) with
    | true => rfl
    | false =>
      have j := jt x hx
      have j' : Joins ls x.1 x.2 (tailOf ls x.1 x.2) := j.symm.imp (fun z => z) (fun z => z)
      have := use x.1 x.2 _ (h.m x hx).1 j' e e2
      rw [dlook_of_mem h.nd (show (x.1, x.2) ∈ hs from hx)] at this
      exact absurd (Option.some.inj this).symm (tne x hx)
  have cl : (cutM ls whole came).length = k := by
    have e1 := f S S1 S2
    rw [fval_eq hs inw] at e1
    have e2 : (keysD (crossing ls S hs)).length = (cutM ls whole came).length := by
      refine nodup_len_eq ((h.drop _).nd) (wnd.filter _) fun l => ?_
      constructor
      · intro hl
        obtain ⟨x, hx, e⟩ := List.mem_map.mp hl
        obtain ⟨hx1, hx2⟩ := List.mem_filter.mp hx
        subst e
        refine List.mem_filter.mpr ⟨(h.m x hx1).1, ?_⟩
        have hx2 : ¬ S x.2 = S (tailOf ls x.1 x.2) := by simpa using hx2
        rcases jt x hx1 with ⟨a1, a2⟩ | ⟨a1, a2⟩
        · show (!(S (lineAt ls x.1).1 == S (lineAt ls x.1).2.1)) = true
          rw [a1, a2]
          simpa using fun z => hx2 z.symm
        · show (!(S (lineAt ls x.1).1 == S (lineAt ls x.1).2.1)) = true
          rw [a1, a2]
          simpa using hx2
      · intro hl
        obtain ⟨hl1, hl2⟩ := List.mem_filter.mp hl
        have hl2 : ¬ S (lineAt ls l).1 = S (lineAt ls l).2.1 := by simpa [S] using hl2
        have fin : ∀ a b, Joins ls l a b → S a = true → S b = false → l ∈ keysD (crossing ls S hs) := by
          intro a b jn ha hb
          have hu := dlook_mem (use l a b hl1 jn ha hb)
          have nab : a ≠ b := fun z => by rw [z, hb] at ha; cases ha
          refine List.mem_map.mpr ⟨(l, b), List.mem_filter.mpr ⟨hu, ?_⟩, rfl⟩
          show (!(S b == S (tailOf ls l b))) = true
          rw [(joins_tail jn nab).1, ha, hb]; rfl
        cases e1 : S (lineAt ls l).1 <;> cases e2 : S (lineAt ls l).2.1
        · rw [e1, e2] at hl2; exact absurd rfl hl2
        · exact fin _ _ (.inr ⟨rfl, rfl⟩) e2 e1
        · exact fin _ _ (.inl ⟨rfl, rfl⟩) e1 e2
        · rw [e1, e2] at hl2; exact absurd rfl hl2
    have e3 : (keysD (crossing ls S hs)).length = (crossing ls S hs).length := by simp [keysD]
    omega
  refine ⟨⟨List.filter_sublist, ?_, fun D hD => ?_⟩, cl⟩
  · intro hm
    obtain ⟨_, b, hb, e⟩ := mem_ledM.mp hm
    have nb2 : Nums ls.length (whole.filter fun l => !decide (l ∈ cutM ls whole came)) := fun x hx => nb x (List.mem_filter.mp hx).1
    have := (lab_ind lk (fun p => S p = true) _ nb2 (fun l hl => ?_) b place (sb b hb) pb e).mp (S1 b hb)
    · rw [S2] at this; cases this
    · obtain ⟨h1, h2⟩ := List.mem_filter.mp hl
      have h2 : l ∉ cutM ls whole came := by simpa using h2
      have : S (lineAt ls l).1 = S (lineAt ls l).2.1 := by
        apply Classical.byContradiction
        intro z
        exact h2 (List.mem_filter.mpr ⟨h1, by simpa [S] using z⟩)
      rw [this]
  · let T : Int → Bool := fun p => decide (p ∈ ledM n ls (whole.filter fun l => !decide (l ∈ D)) srcs)
    have e1 := f T (fun s hs => by
      show decide _ = true
      rw [decide_eq_true_eq, mem_ledM]
      exact ⟨sb s hs, s, hs, rfl⟩) (by show decide _ = false; rw [decide_eq_false hD])
    have e2 := fval_le (ls := ls) (S := T) hs
    have e3 : (keysD (crossing ls T hs)).length ≤ D.length := by
      refine nodup_sub _ _ (h.drop _).nd fun l hl => ?_
      obtain ⟨x, hx, e⟩ := List.mem_map.mp hl
      obtain ⟨hx1, hx2⟩ := List.mem_filter.mp hx
      subst e
      apply Classical.byContradiction
      intro hd
      have := lab_cross (srcs := srcs) lk nb (h.m x hx1).1 hd
      have hx2 : ¬ T x.2 = T (tailOf ls x.1 x.2) := by simpa using hx2
      apply hx2
      show decide _ = decide _
      apply decide_eq_decide.mpr
      rcases jt x hx1 with ⟨a1, a2⟩ | ⟨a1, a2⟩
      · rw [a1, a2] at this; exact this.symm
      · rw [a1, a2] at this; exact this
    have e4 : (keysD (crossing ls T hs)).length = (crossing ls T hs).length := by simp [keysD]
    omega
end Q

namespace Q
/-! ### a way read back from its end -/
inductive WayB (came : CameD) (p0 : Int) : List Int → Int → Prop
  | nil : WayB came p0 [] p0
  | snoc {xs : List Int} {p l b : Int} : WayB came p0 xs p → dlook came p = some (some (l, b)) → WayB came p0 (xs ++ [l]) b
theorem WayB.facts {n : Nat} {ls : List Ln} {whole srcs : List Int} {lf : Heads} {came : CameD} {p0 : Int} (lk : LinesOk n ls) (nb : Nums ls.length whole) (c : CameI (selM (usedF lf) (stepsM n ls whole)) srcs came) {xs : List Int} {p : Int} (h : WayB came p0 xs p) :
    ∀ i : Nat, (keysD came)[i]? = some p → xs.Nodup ∧ (∀ l ∈ xs, (dlook lf l).isSome = true) ∧ ∀ l ∈ xs, ∃ a b, ∃ x : Nat, Joins ls l a b ∧ (keysD came)[x]? = some a ∧ i < x := by
  induction h with
  | nil => intro i _; exact ⟨List.nodup_nil, (fun l hl => absurd hl List.not_mem_nil), (fun l hl => absurd hl List.not_mem_nil)⟩
  | @snoc xs p l b h e ih =>
    intro j hj
    -- p's own number
    have hp : p ∈ keysD came := dlook_isSome.mpr ⟨_, e⟩
    obtain ⟨i, hi, ei⟩ := List.getElem_of_mem hp
    have hi2 : (keysD came)[i]? = some p := by rw [List.getElem?_eq_getElem hi, ei]
    obtain ⟨h1, h2, h3⟩ := ih i hi2
    rcases c.at hi2 with ⟨e2, _⟩ | ⟨l', b', st, j', e2, hj', hb, hs1, hm⟩
    · rw [e] at e2; cases e2
    rw [e] at e2
    cases e2
    have jj : j = j' := idx_inj c.nd hj hb
    subst jj
    obtain ⟨st0, hs2, rfl⟩ := selM_some hs1
    obtain ⟨hbn, rfl⟩ := stepsM_some hs2
    obtain ⟨hm1, hm2⟩ := List.mem_filter.mp hm
    obtain ⟨hw, jn⟩ := adj_joins hm1
    have jp : Joins ls l p b := jn.symm.imp (fun z => z) (fun z => z)
    have hl : dlook lf l = some p := by simpa [usedF] using hm2
    refine ⟨?_, ?_, ?_⟩
    · rw [List.nodup_append]
      refine ⟨h1, by simp, fun a ha d hd z => ?_⟩
      rw [List.mem_singleton] at hd
      subst hd; subst z
      obtain ⟨a', b'', x, j2, hx, lx⟩ := h3 _ ha
      have : a' = p ∨ a' = b := by
        rcases jn with ⟨a1, a2⟩ | ⟨a1, a2⟩ <;> rcases j2 with ⟨a3, a4⟩ | ⟨a3, a4⟩
        · exact .inr (a3.symm.trans a1)
        · exact .inl (a4.symm.trans a2)
        · exact .inl (a3.symm.trans a1)
        · exact .inr (a4.symm.trans a2)
      rcases this with z | z
      · subst z; have := idx_inj c.nd hx hi2; omega
      · subst z; have := idx_inj c.nd hx hb; omega
    · intro k hk
      rcases List.mem_append.mp hk with z | z
      · exact h2 k z
      · rw [List.mem_singleton] at z; subst z; rw [hl]; rfl
    · intro k hk
      rcases List.mem_append.mp hk with z | z
      · obtain ⟨a, b', x, j2, hx, lx⟩ := h3 k z
        exact ⟨a, b', x, j2, hx, by omega⟩
      · rw [List.mem_singleton] at z; subst z
        exact ⟨p, b, i, jp, hi2, hj'⟩
theorem WayB.ne {came : CameD} {steps : StepsD} {srcs : List Int} {p0 s : Int} {xs : List Int} (c : CameI steps srcs came) (h : WayB came p0 xs s) (e : dlook came s = some none) (hp : p0 ∉ srcs) : xs ≠ [] := by
  intro z
  have key : ∀ {ys : List Int} {q : Int}, WayB came p0 ys q → ys = [] → q = p0 := by
    intro ys q hw hy
    cases hw with
    | nil => rfl
    | snoc _ _ => simp at hy
  have := key h z
  subst this
  have hs : s ∈ keysD came := dlook_isSome.mpr ⟨_, e⟩
  obtain ⟨i, hi, ei⟩ := List.getElem_of_mem hs
  rcases c.at (show (keysD came)[i]? = some s by rw [List.getElem?_eq_getElem hi, ei]) with ⟨_, hm⟩ | ⟨_, _, _, _, e2, _⟩
  · exact hp hm
  · rw [e] at e2; cases e2
def dropAll (hs : Heads) (ls : List Int) : Heads := hs.filter fun x => !decide (x.1 ∈ ls)
theorem dropAll_nil {hs : Heads} : dropAll hs [] = hs := by unfold dropAll; exact List.filter_eq_self.mpr (by simp)
theorem dropAll_snoc {hs : Heads} {ls : List Int} {l : Int} : dropAll hs (ls ++ [l]) = ddrop (dropAll hs ls) l := by
  unfold dropAll ddrop
  rw [List.filter_filter]
  apply List.filter_congr
  intro x _
  by_cases h1 : x.1 ∈ ls <;> by_cases h2 : x.1 = l <;> simp [h1, h2]
theorem dropAll_look {hs : Heads} {ls : List Int} {l : Int} (h : l ∉ ls) : dlook (dropAll hs ls) l = dlook hs l := by
  unfold dropAll
  induction hs with
  | nil => rfl
  | cons x xs ih =>
    by_cases hx : x.1 ∈ ls
    · rw [List.filter_cons_of_neg (by simpa using hx), ih, dlook_cons, if_neg (fun z : x.1 = l => h (z ▸ hx))]
    · rw [List.filter_cons_of_pos (by simpa using hx), dlook_cons, dlook_cons, ih]
theorem dropAll_lt {hs : Heads} {ls : List Int} {l : Int} (hl : l ∈ ls) (h : (dlook hs l).isSome = true) : (dropAll hs ls).length < hs.length := by
  unfold dropAll
  rw [dlook_some] at h
  obtain ⟨x, hx, e⟩ := List.mem_map.mp (of_decide_eq_true h)
  exact List.length_filter_lt_length_iff_exists.mpr ⟨x, hx, by simp [e, hl]⟩
theorem adjM_bound {n : Nat} {ls : List Ln} {whole : List Int} {b : Int} {st : List (Int × Int)} (h : dlook (stepsM n ls whole) b = some st) : st.length ≤ whole.length := by
  obtain ⟨_, rfl⟩ := stepsM_some h
  exact adjM_len
end Q

namespace Q
theorem led_mono {n : Nat} {ls : List Ln} {W W' S : List Int} (lk : LinesOk n ls) (nb : Nums ls.length W) (hS : ∀ s ∈ S, 0 ≤ s ∧ s < (n : Int)) (h : ∀ l ∈ W', l ∈ W) : ∀ p ∈ ledM n ls W' S, p ∈ ledM n ls W S := by
  intro p hp
  obtain ⟨hb, b, hbS, e⟩ := mem_ledM.mp hp
  refine mem_ledM.mpr ⟨hb, b, hbS, ?_⟩
  refine (lab_ind lk (fun q => lab n ls W b = lab n ls W q) W' (fun l hl => nb l (h l hl)) (fun l hl => ?_) b p (hS b hbS) hb e).mp rfl
  rw [lab_line lk W nb l (h l hl)]
theorem sub_lt {xs ys : List Int} {p : Int} (nd : xs.Nodup) (h : ∀ x ∈ xs, x ∈ ys) (hp : p ∈ ys) (hn : p ∉ xs) : xs.length < ys.length := by
  have := nodup_sub (p :: xs) ys (List.nodup_cons.mpr ⟨hn, nd⟩) fun x hx => by
    rcases List.mem_cons.mp hx with z | z
    · exact z ▸ hp
    · exact h x z
  rw [List.length_cons] at this
  omega
theorem filt_one {W : List Int} {x : Int} : (W.filter fun l => !decide (l ∈ [x])) = W.filter fun l => !decide (l = x) := by
  apply List.filter_congr
  intro l _
  by_cases h : l = x <;> simp [h]
theorem filt_nil {W : List Int} : (W.filter fun l => !decide (l ∈ ([] : List Int))) = W := List.filter_eq_self.mpr (by simp)
theorem src_led {n : Nat} {ls : List Ln} {W S : List Int} (hS : ∀ s ∈ S, 0 ≤ s ∧ s < (n : Int)) {s : Int} (h : s ∈ S) : s ∈ ledM n ls W S := mem_ledM.mpr ⟨hS s h, s, h, rfl⟩
/-- a place that one line parts is parted by a weak one -/
theorem one_weak {n : Nat} {ls : List Ln} {W S : List Int} {p x : Int} {c : List Int} (lk : LinesOk n ls) (nb : Nums ls.length W) (hS : ∀ s ∈ S, 0 ≤ s ∧ s < (n : Int)) (h : CutOk n ls W S p c) (hl : c.length = 1) (hx : c[0]? = some x) : x ∈ W ∧ (ledM n ls (W.filter fun l => !decide (l = x)) S).length < (ledM n ls W S).length := by
  obtain ⟨y, e⟩ := List.length_eq_one_iff.mp hl
  subst e
  cases hx
  have hp := h.part
  rw [filt_one] at hp
  have hp2 : p ∈ ledM n ls W S := by
    apply Classical.byContradiction
    intro z
    have := h.least [] (by rw [filt_nil]; exact z)
    simp at this
  exact ⟨h.sub.subset (by simp), sub_lt ledM_nodup (led_mono lk nb hS fun l hl => (List.mem_filter.mp hl).1) hp2 hp⟩
/-- what a weak line leaves dark, one line parts -/
theorem weak_one {n : Nat} {ls : List Ln} {W S : List Int} {p x : Int} {c : List Int} (h : CutOk n ls W S p c) (h1 : p ∈ ledM n ls W S) (h2 : p ∉ ledM n ls (W.filter fun l => !decide (l = x)) S) : c.length = 1 := by
  have a := h.least [x] (by rw [filt_one]; exact h2)
  have b : c ≠ [] := fun z => by
    have := h.part
    rw [z, filt_nil] at this
    exact this h1
  have := List.length_pos_iff.mpr b
  rw [List.length_singleton] at a
  omega
theorem lost_ne {n : Nat} {ls : List Ln} {W W' S : List Int} (h : (ledM n ls W' S).length < (ledM n ls W S).length) : ((ledM n ls W S).filter fun p => !decide (p ∈ ledM n ls W' S)) ≠ [] := fun z => by
  have : ∀ p ∈ ledM n ls W S, p ∈ ledM n ls W' S := fun p hp => by
    apply Classical.byContradiction
    intro hn
    have hm : p ∈ ((ledM n ls W S).filter fun p => !decide (p ∈ ledM n ls W' S)) := List.mem_filter.mpr ⟨hp, by simpa using hn⟩
    rw [z] at hm
    cases hm
  have := nodup_sub _ _ ledM_nodup this
  omega
theorem led_len {n : Nat} {ls : List Ln} {W S : List Int} : (ledM n ls W S).length ≤ n := by
  have := List.length_filter_le (fun p => decide ((groupsM n ls W).getD p.toNat 0 ∈ S.map fun b => (groupsM n ls W).getD b.toNat 0)) (rg (n : Int))
  rw [rg_len] at this
  unfold ledM
  omega
theorem CutOk.srcs {n : Nat} {ls : List Ln} {W S S' : List Int} {p : Int} {c : List Int} (e : ∀ b, b ∈ S ↔ b ∈ S') (h : CutOk n ls W S p c) : CutOk n ls W S' p c := ⟨h.sub, by rw [← ledM_perm e]; exact h.part, fun D hD => h.least D (by rw [ledM_perm e]; exact hD)⟩
end Q

namespace Q
def leadS (ls : List Ln) (h l : Int) : Int := if h = (lineAt ls l).1 ∨ h = (lineAt ls l).2.1 then (lineAt ls l).1 + (lineAt ls l).2.1 - h else -99
def leadF (ls : List Ln) (h : Int) (ws : List Int) : Int := ws.foldl (leadS ls) h
/-- one step of a way that is in use -/
theorem way_step {n : Nat} {ls : List Ln} {whole srcs : List Int} {lf : Heads} {came : CameD} {p l b : Int} (lk : LinesOk n ls) (nb : Nums ls.length whole) (c : CameI (selM (usedF lf) (stepsM n ls whole)) srcs came) (e : dlook came p = some (some (l, b))) : Joins ls l b p ∧ b ≠ p ∧ dlook lf l = some p ∧ l ∈ whole := by
  have hp : p ∈ keysD came := dlook_isSome.mpr ⟨_, e⟩
  obtain ⟨i, hi, ei⟩ := List.getElem_of_mem hp
  rcases c.at (show (keysD came)[i]? = some p by rw [List.getElem?_eq_getElem hi, ei]) with ⟨e2, _⟩ | ⟨l', b', st, j', e2, hj', hb, hs1, hm⟩
  · rw [e] at e2; cases e2
  rw [e] at e2
  cases e2
  obtain ⟨st0, hs2, rfl⟩ := selM_some hs1
  obtain ⟨hbn, rfl⟩ := stepsM_some hs2
  obtain ⟨hm1, hm2⟩ := List.mem_filter.mp hm
  obtain ⟨hw, jn⟩ := adj_joins hm1
  have ends := lk.l2 _ (lineAt_mem (nb l hw))
  refine ⟨jn, fun z => ?_, by simpa [usedF] using hm2, hw⟩
  rcases jn with ⟨e1, e2⟩ | ⟨e1, e2⟩
  · exact ends.2.2 (e1.trans (z.trans e2.symm))
  · exact ends.2.2 (e1.trans (z.symm.trans e2.symm))
theorem joins_step {ls : List Ln} {l b p : Int} (h : Joins ls l b p) : leadS ls b l = p := by
  unfold leadS
  rcases h with ⟨e1, e2⟩ | ⟨e1, e2⟩
  · rw [e1, e2, if_pos (.inl rfl)]; omega
  · rw [e1, e2, if_pos (.inr rfl)]; omega
theorem WayB.leads {n : Nat} {ls : List Ln} {whole srcs : List Int} {lf : Heads} {came : CameD} {p0 : Int} (lk : LinesOk n ls) (nb : Nums ls.length whole) (c : CameI (selM (usedF lf) (stepsM n ls whole)) srcs came) {xs : List Int} {p : Int} (h : WayB came p0 xs p) :
    leadF ls p xs.reverse = p0 ∧ ∀ l ∈ xs, l ∈ whole := by
  induction h with
  | nil => exact ⟨rfl, fun l hl => absurd hl List.not_mem_nil⟩
  | @snoc xs p l b h e ih =>
    obtain ⟨jn, _, _, hw⟩ := way_step lk nb c e
    refine ⟨?_, fun k hk => ?_⟩
    · rw [List.reverse_append]
      show leadF ls (leadS ls b l) xs.reverse = p0
      rw [joins_step jn]
      exact ih.1
    · rcases List.mem_append.mp hk with z | z
      · exact ih.2 k z
      · rw [List.mem_singleton] at z; subst z; exact hw
theorem dropAll_ok {ls : List Ln} {whole : List Int} {hs : Heads} (h : HeadsOk ls whole hs) (xs : List Int) : HeadsOk ls whole (dropAll hs xs) := h.drop _
/-- what a way that is taken out is worth -/
theorem WayB.val {n : Nat} {ls : List Ln} {whole srcs : List Int} {lf : Heads} {came : CameD} {p0 : Int} (lk : LinesOk n ls) (nb : Nums ls.length whole) (hl : HeadsOk ls whole lf) (c : CameI (selM (usedF lf) (stepsM n ls whole)) srcs came) (S : Int → Bool) {xs : List Int} {p : Int} (h : WayB came p0 xs p) :
    xs.Nodup → fval ls S (dropAll lf xs) = fval ls S lf - (out S p0 - out S p) := by
  induction h with
  | nil => intro _; rw [dropAll_nil]; omega
  | @snoc xs p l b h e ih =>
    intro nd
    rw [List.nodup_append] at nd
    obtain ⟨nd1, _, nd3⟩ := nd
    have hx : l ∉ xs := fun hm => nd3 l hm l (by simp) rfl
    obtain ⟨jn, ne, hd, hw⟩ := way_step lk nb c e
    rw [dropAll_snoc, fval_ddrop (dropAll_ok hl xs).nd ((dropAll_look hx).trans hd), ih nd1]
    unfold term
    dsimp only
    rw [(joins_tail jn ne).1]
    omega
def FlowZ (ls : List Ln) (srcs : List Int) (place : Int) (hs : Heads) (k : Int) : Prop := ∀ S : Int → Bool, (∀ s ∈ srcs, S s = true) → S place = false → fval ls S hs = k
/-- between two turns of used_ways: the ways so far, what is left, of hs -/
structure WaysI (ls : List Ln) (whole srcs : List Int) (place : Int) (hs : Heads) (k : Int) (lf : Heads) (ws : List (List Int)) : Prop where
  ok : HeadsOk ls whole lf
  sub : ∀ x ∈ lf, x ∈ hs
  fl : FlowZ ls srcs place lf (k - ws.length)
  nd : ws.flatten.Nodup
  wh : ∀ l ∈ ws.flatten, l ∈ whole
  un : ∀ l ∈ ws.flatten, l ∉ keysD lf
  ld : ∀ w ∈ ws, w ≠ [] ∧ ∃ s ∈ srcs, leadF ls s w = place
theorem WaysI.start {ls : List Ln} {whole srcs : List Int} {place : Int} {hs : Heads} {k : Nat} (h : HeadsOk ls whole hs) (f : Flow ls srcs place hs k) : WaysI ls whole srcs place hs k hs [] := ⟨h, fun _ h => h, fun S a b => by rw [f S a b]; simp, by simp, by simp, by simp, fun w hw => absurd hw List.not_mem_nil⟩
theorem dropAll_keys {hs : Heads} {ls : List Int} {l : Int} (h : l ∈ keysD (dropAll hs ls)) : l ∈ keysD hs ∧ l ∉ ls := by
  obtain ⟨x, hx, e⟩ := List.mem_map.mp h
  obtain ⟨h1, h2⟩ := List.mem_filter.mp hx
  exact ⟨List.mem_map.mpr ⟨x, h1, e⟩, by rw [← e]; simpa using h2⟩
theorem WaysI.turn {n : Nat} {ls : List Ln} {whole srcs : List Int} {place s : Int} {hs lf : Heads} {k : Int} {ws : List (List Int)} {came : CameD} {way : List Int} (lk : LinesOk n ls) (nb : Nums ls.length whole) (w : WaysI ls whole srcs place hs k lf ws) (c : CameI (selM (usedF lf) (stepsM n ls whole)) srcs came)
    (wb : WayB came place way.reverse s) (es : dlook came s = some none) (wnd : way.Nodup) (wne : way ≠ []) (win : ∀ l ∈ way, (dlook lf l).isSome = true) : WaysI ls whole srcs place hs k (dropAll lf way) (ws ++ [way]) := by
  have hss : s ∈ srcs := by
    have hs : s ∈ keysD came := dlook_isSome.mpr ⟨_, es⟩
    obtain ⟨i, hi, ei⟩ := List.getElem_of_mem hs
    rcases c.at (show (keysD came)[i]? = some s by rw [List.getElem?_eq_getElem hi, ei]) with ⟨_, hm⟩ | ⟨_, _, _, _, e2, _⟩
    · exact hm
    · rw [es] at e2; cases e2
  obtain ⟨l1, l2⟩ := wb.leads lk nb c
  rw [List.reverse_reverse] at l1
  have dr : dropAll lf way = dropAll lf way.reverse := by
    unfold dropAll
    apply List.filter_congr
    intro x _
    simp
  have keysW : ∀ l ∈ way, l ∈ keysD lf := fun l hl => by
    have := win l hl
    rw [dlook_some] at this
    exact of_decide_eq_true this
  refine ⟨w.ok.drop _, fun x hx => w.sub x (List.mem_filter.mp hx).1, fun S a b => ?_, ?_, fun l hl => ?_, fun l hl hk => ?_, fun v hv => ?_⟩
  · rw [dr, wb.val lk nb w.ok c S ((List.reverse_perm way).nodup_iff.mpr wnd), w.fl S a b]
    unfold out
    rw [b, a s hss, List.length_append]
    simp
    omega
  · rw [List.flatten_append, List.nodup_append]
    refine ⟨w.nd, by simpa using wnd, fun a ha b hb e => ?_⟩
    have hb : b ∈ way := by simpa using hb
    exact w.un a ha (keysW a (e ▸ hb))
  · rw [List.flatten_append, List.mem_append] at hl
    rcases hl with z | z
    · exact w.wh l z
    · exact l2 l (by simpa using z)
  · obtain ⟨k1, k2⟩ := dropAll_keys hk
    rw [List.flatten_append, List.mem_append] at hl
    rcases hl with z | z
    · exact w.un l z k1
    · exact k2 (by simpa using z)
  · rcases List.mem_append.mp hv with z | z
    · exact w.ld v z
    · rw [List.mem_singleton] at z
      subst z
      exact ⟨wne, s, hss, l1⟩
theorem fval_pos {ls : List Ln} {S : Int → Bool} : ∀ xs : Heads, (∀ x ∈ xs, 0 ≤ term ls S x) → 0 ≤ fval ls S xs
  | [], _ => by simp [fval]
  | x :: xs, h => by
    have := fval_pos xs fun y hy => h y (List.mem_cons_of_mem _ hy)
    have := h x (by simp)
    rw [fval]; omega
theorem fval_neg {ls : List Ln} {S : Int → Bool} : ∀ xs : Heads, (∀ x ∈ xs, term ls S x ≤ 0) → fval ls S xs ≤ 0
  | [], _ => by simp [fval]
  | x :: xs, h => by
    have := fval_neg xs fun y hy => h y (List.mem_cons_of_mem _ hy)
    have := h x (by simp)
    rw [fval]; omega
theorem term_neg {ls : List Ln} {S : Int → Bool} {x : Int × Int} (h : S (tailOf ls x.1 x.2) = true → S x.2 = true) : term ls S x ≤ 0 := by
  unfold term out
  cases e1 : S (tailOf ls x.1 x.2) with
  | false => cases S x.2 <;> simp
  | true => rw [h e1]; simp
theorem term_pos {ls : List Ln} {S : Int → Bool} {x : Int × Int} (h : S x.2 = true → S (tailOf ls x.1 x.2) = true) : 0 ≤ term ls S x := by
  unfold term out
  cases e1 : S x.2 with
  | false => cases S (tailOf ls x.1 x.2) <;> simp
  | true => rw [h e1]; simp
theorem heads_adj {n : Nat} {ls : List Ln} {whole : List Int} {hs : Heads} (lk : LinesOk n ls) (nb : Nums ls.length whole) (h : HeadsOk ls whole hs) {x : Int × Int} (hx : x ∈ hs) : Joins ls x.1 (tailOf ls x.1 x.2) x.2 ∧ tailOf ls x.1 x.2 ≠ x.2 ∧ (x.1, x.2) ∈ adjM ls whole (tailOf ls x.1 x.2) ∧ (x.1, tailOf ls x.1 x.2) ∈ adjM ls whole x.2 ∧ (0 ≤ tailOf ls x.1 x.2 ∧ tailOf ls x.1 x.2 < (n : Int)) ∧ (0 ≤ x.2 ∧ x.2 < (n : Int)) := by
  obtain ⟨hw, he⟩ := h.m x hx
  have ends := lk.l2 _ (lineAt_mem (nb x.1 hw))
  have jt : Joins ls x.1 (tailOf ls x.1 x.2) x.2 := by
    unfold tailOf
    rcases he with e | e
    · rw [if_pos e]; exact .inr ⟨e, rfl⟩
    · by_cases e2 : (lineAt ls x.1).1 = x.2
      · rw [if_pos e2]; exact .inr ⟨e2, rfl⟩
      · rw [if_neg e2]; exact .inl ⟨rfl, e⟩
  have tne : tailOf ls x.1 x.2 ≠ x.2 := fun e => by
    rcases jt with ⟨e1, e2⟩ | ⟨e1, e2⟩
    · exact ends.2.2 (e1.trans (e.trans e2.symm))
    · exact ends.2.2 (e1.trans (e.symm.trans e2.symm))
  refine ⟨jt, tne, ?_, ?_, ?_, ?_⟩
  · rw [mem_adjM]
    refine ⟨hw, ?_⟩
    rcases jt with ⟨e1, e2⟩ | ⟨e1, e2⟩
    · exact .inl ⟨e1, e2⟩
    · exact .inr ⟨fun z => ends.2.2 (z.trans e2.symm), e2, e1⟩
  · rw [mem_adjM]
    refine ⟨hw, ?_⟩
    rcases jt with ⟨e1, e2⟩ | ⟨e1, e2⟩
    · exact .inr ⟨fun z => ends.2.2 (z.trans e2.symm), e2, e1⟩
    · exact .inl ⟨e1, e2⟩
  · rcases jt with ⟨e1, _⟩ | ⟨_, e2⟩
    · exact e1 ▸ ends.1
    · exact e2 ▸ ends.2.1
  · rcases jt with ⟨_, e2⟩ | ⟨e1, _⟩
    · exact e2 ▸ ends.2.1
    · exact e1 ▸ ends.1
/-- at the end as many ways as were in use -/
theorem WaysI.done {n : Nat} {ls : List Ln} {whole srcs : List Int} {place : Int} {hs lf : Heads} {k : Int} {ws : List (List Int)} {came came0 : CameD} (lk : LinesOk n ls) (nb : Nums ls.length whole) (w : WaysI ls whole srcs place hs k lf ws) (ho : HeadsOk ls whole hs)
    (c : CameR (selM (usedF lf) (stepsM n ls whole)) srcs came) (hp : place ∉ keysD came) (c0 : CameR (selM (spareF hs) (stepsM n ls whole)) srcs came0) (hp0 : place ∉ keysD came0) : (ws.length : Int) = k := by
  have e1 := w.fl (fun p => (dlook came p).isSome) (fun s hs => by show (dlook came s).isSome = true; rw [c.i.st s hs]; rfl) (by show (dlook came place).isSome = false; rw [dlook_none.mpr hp]; rfl)
  have e2 := w.fl (fun p => (dlook came0 p).isSome) (fun s hs => by show (dlook came0 s).isSome = true; rw [c0.i.st s hs]; rfl) (by show (dlook came0 place).isSome = false; rw [dlook_none.mpr hp0]; rfl)
  have n1 := fval_neg (ls := ls) (S := fun p => (dlook came p).isSome) lf fun x hx => by
    obtain ⟨_, _, a1, _, a3, _⟩ := heads_adj lk nb w.ok hx
    refine term_neg fun e => ?_
    · have e : (dlook came (tailOf ls x.1 x.2)).isSome = true := e
      have hk : tailOf ls x.1 x.2 ∈ keysD came := by rw [dlook_some] at e; exact of_decide_eq_true e
      have := c.c _ _ (x.1, x.2) hk (by rw [selM_look, stepsM_look a3]; rfl) (List.mem_filter.mpr ⟨a1, by
        have := dlook_of_mem w.ok.nd (show (x.1, x.2) ∈ lf from hx)
        simpa [usedF] using this⟩)
      show (dlook came x.2).isSome = true
      rw [dlook_some]; exact decide_eq_true this
  have n2 := fval_pos (ls := ls) (S := fun p => (dlook came0 p).isSome) lf fun x hx => by
    have hx := w.sub x hx
    obtain ⟨_, tne, _, a2, _, a4⟩ := heads_adj lk nb ho hx
    refine term_pos fun e => ?_
    · have e : (dlook came0 x.2).isSome = true := e
      have hk : x.2 ∈ keysD came0 := by rw [dlook_some] at e; exact of_decide_eq_true e
      have := c0.c _ _ (x.1, tailOf ls x.1 x.2) hk (by rw [selM_look, stepsM_look a4]; rfl) (List.mem_filter.mpr ⟨a2, by
        have h1 := dlook_of_mem ho.nd (show (x.1, x.2) ∈ hs from hx)
        have : dlook hs x.1 ≠ some (tailOf ls x.1 x.2) := fun z => by rw [h1] at z; exact tne (Option.some.inj z).symm
        simpa [spareF] using this⟩)
      show (dlook came0 (tailOf ls x.1 x.2)).isSome = true
      rw [dlook_some]; exact decide_eq_true this
  rw [e1] at n1
  rw [e2] at n2
  omega
end Q

namespace Q
open PySem L2


def scpOf : Expr → Scope
  | .DictComp _ _ _ sc _ => sc
  | .ListComp _ _ sc _ => sc
  | _ => ⟨.function, [], false, false, []⟩
def relOf (f sc : Scope) : Scope := { sc with names := sc.names.map fun (n, k) => if (k == .free && f.kind == .function && f.names.lookup n == some .cell) then (n, .cell) else (n, k) }
def retSc (s : Stmt) : Scope := match defBody s with
  | .Return (some e) _ :: _ => relOf (defScope s) (scpOf e)
  | _ => ⟨.function, [], false, false, []⟩
abbrev rStepsD : Rp StepsD := rDict (rList rPr)
abbrev rCameD : Rp CameD := rDict (rOpt rPr)
structure StepsG (steps : StepsD) : Prop where
  ok : StepsOk steps
  nd : (keysD steps).Nodup
  b : ∀ k st, dlook steps k = some st → st.length ≤ 1000
def SpSel (f : Heads → Int × Int → Bool) : Sp := fun vs H Q _ => ∃ (G : Hp) (v : V) (p : Addr) (kvs : List (Key × V)) (steps : StepsD) (hs : Heads), vs = [v, .ref p] ∧ Ex G H ∧ rStepsD.rel G v steps ∧ G p = none ∧ H p = some (.dK kvs) ∧ DictR rInt G kvs hs ∧ StepsG steps ∧
  ∀ u (W : Wd (eF G H p)), rStepsD.rel W.G u (selM (f hs) steps) → Own W p (.dK kvs) → Q u W.H
def SpUse : Sp := fun vs H Q _ => ∃ (G : Hp) (p : Addr) (kvs : List (Key × V)) (v : V) (place : Int) (hs : Heads) (came : CameD) (n : Nat) (ls : List Ln) (whole srcs : List Int), vs = [.ref p, v, .int place] ∧ Ex G H ∧ G p = none ∧ H p = some (.dK kvs) ∧ DictR rInt G kvs hs ∧ rCameD.rel G v came ∧
  LinesOk n ls ∧ Nums ls.length whole ∧ whole.length ≤ 1000 ∧ CameI (selM (spareF hs) (stepsM n ls whole)) srcs came ∧ HeadsOk ls whole hs ∧ place ∈ keysD came ∧
  ∀ (W : Wd (eF G H p)) hs', OwnD W p rInt hs' → HeadsOk ls whole hs' → (∀ k, Flow ls srcs place hs k → Flow ls srcs place hs' (k + 1)) → Q .non W.H
/-- what most_used gives -/
structure MostOk (n : Nat) (ls : List Ln) (whole srcs : List Int) (place : Int) (hs : Heads) : Prop where
  h : HeadsOk ls whole hs
  f : ∃ k, Flow ls srcs place hs k
  c : ∃ came, CameR (selM (spareF hs) (stepsM n ls whole)) srcs came ∧ place ∉ keysD came
structure PartIn (n : Nat) (ls : List Ln) (whole srcs : List Int) (place : Int) : Prop where
  l : LinesOk n ls
  w : Nums ls.length whole
  wn : whole.Nodup
  wl : whole.length ≤ 1000
  s1 : srcs.Nodup
  s2 : ∀ x ∈ srcs, 0 ≤ x ∧ x < (n : Int)
  p1 : place ∉ srcs
  p2 : 0 ≤ place ∧ place < (n : Int)
theorem PartIn.sg {n : Nat} {ls : List Ln} {whole srcs : List Int} {place : Int} (h : PartIn n ls whole srcs place) : StepsG (stepsM n ls whole) := ⟨stepsM_ok h.l h.w, by rw [stepsM_keys]; exact rg_nodup _, fun k st e => Nat.le_trans (adjM_bound e) h.wl⟩
theorem PartIn.ks {n : Nat} {ls : List Ln} {whole srcs : List Int} {place : Int} (h : PartIn n ls whole srcs place) {f : Int × Int → Bool} : ∀ k ∈ srcs, k ∈ keysD (selM f (stepsM n ls whole)) := fun k hk => by rw [selM_keys, stepsM_keys, mem_rg]; exact h.s2 k hk
def SpMost : Sp := fun vs H Q _ => ∃ (G : Hp) (v u : V) (place : Int) (n : Nat) (ls : List Ln) (whole srcs : List Int), vs = [v, u, .int place] ∧ Ex G H ∧ rStepsD.rel G v (stepsM n ls whole) ∧ (rList rInt).rel G u srcs ∧ PartIn n ls whole srcs place ∧
  ∀ p hs (W : Wd (pF G H)), OwnD W p rInt hs → MostOk n ls whole srcs place hs → Q (.ref p) W.H
structure WaysOk (ls : List Ln) (whole srcs : List Int) (place : Int) (hs : Heads) (zs : List (List Int)) : Prop where
  len : ∀ k, Flow ls srcs place hs k → zs.length = k
  nd : zs.flatten.Nodup
  wh : ∀ l ∈ zs.flatten, l ∈ whole
  ld : ∀ w ∈ zs, w ≠ [] ∧ ∃ s ∈ srcs, leadF ls s w = place
structure PartOk (n : Nat) (ls : List Ln) (whole srcs : List Int) (place : Int) (z : List Int × List (List Int)) : Prop where
  cut : CutOk n ls whole srcs place z.1
  len : z.2.length = z.1.length
  nd : z.2.flatten.Nodup
  wh : ∀ l ∈ z.2.flatten, l ∈ whole
  ld : ∀ w ∈ z.2, w ≠ [] ∧ ∃ s ∈ srcs, leadF ls s w = place
def SpUsedW : Sp := fun vs H Q _ => ∃ (G : Hp) (v u : V) (p : Addr) (kvs : List (Key × V)) (place : Int) (n : Nat) (ls : List Ln) (whole srcs : List Int) (hs : Heads), vs = [v, .ref p, u, .int place] ∧ Ex G H ∧ rStepsD.rel G v (stepsM n ls whole) ∧ (rList rInt).rel G u srcs ∧ G p = none ∧ H p = some (.dK kvs) ∧ DictR rInt G kvs hs ∧ PartIn n ls whole srcs place ∧ MostOk n ls whole srcs place hs ∧
  ∀ w (W : Wd (eF G H p)) zs, (rList (rList rInt)).rel W.G w zs → WaysOk ls whole srcs place hs zs → Own W p (.dK kvs) → Q w W.H
abbrev SpWayTo : Sp := FnN2 rCameD rInt (rList rInt) (fun came p => (∃ steps srcs, CameI steps srcs came) ∧ came.length ≤ 1000 ∧ p ∈ keysD came) (fun came p zs => ∃ s, WayB came p zs.reverse s ∧ dlook came s = some none)
section
variable {F : Fr} {K : PySem.W.Frag} {σ : L2.St} {W W1 : Wd F} {ta tb te tc tl ti tk tv : TE} {α β γ δ : Type} {r : Rp α} {s : Rp β} {t : Rp γ} {D : Ends} {tz tx ty : TS}
theorem ev_unsome {x : α} (h : EvR te σ W (rOpt r) (some x)) : EvR te σ W r x := h
theorem OwnD.back {W : Wd F} {W' : Wd (pF W.G W.H)} {p : Addr} {xs : List (Int × α)} (x : OwnD W' p r xs) : OwnD (W.back W') p r xs := let ⟨vs, h1, h2⟩ := x.ex; ⟨vs, h1.back, h2⟩
theorem ev_call3N {q : Rp δ} {pre : α → β → γ → Prop} {f : α → β → γ → δ} {P : γ → Prop} {R : δ → Prop} {E : XK} {x : α} {y : β} (ha : EvR ta σ W r x) (hb : EvR tb σ W s y) (hc : EvN tc σ W t P) (hp : ∀ z, P z → pre x y z) (hR : ∀ z, P z → R (f x y z)) : EvN (tCall (Fn3 r s t q pre f) [] E (tCons ta (tCons tb (tCons tc tNil)))) σ W q R := fun W1 l Q k =>
  ha W1 l _ fun v W2 l2 hv => hb W2 (l.trans l2) _ fun w W3 l3 hw => hc W3 ((l.trans l2).trans l3) _ fun u W4 z l4 hu hz => ⟨W4.G, v, w, u, x, y, z, rfl, W4.gh, r.mono (l3.ex.trans l4.ex) hv, s.mono l4.ex hw, hu, hp z hz, fun u W5 h5 => k u (W4.back W5) _ (((l2.trans l3).trans l4).trans (W4.back_le W5)) h5 (hR z hz)⟩
theorem ev_t2N {P : α → Prop} {P' : β → Prop} (ha : EvN ta σ W r P) (hb : EvN tb σ W s P') : EvN (tTup (tCons ta (tCons tb tNil))) σ W (rT2 r s) (fun z => P z.1 ∧ P' z.2) := fun W1 l Q q =>
  ha W1 l _ fun v W2 x l2 hv hx => hb W2 (l.trans l2) _ fun w W3 y l3 hw hy => ⟨(by show 2 ≤ sizeLine; decide), fun p hp =>
    q (.ref p) (W3.add p (.tup [v, w]) hp) (x, y) ((l2.trans l3).trans (W3.add_le hp)) ⟨p, v, w, rfl, W3.add_at hp, r.mono (l3.ex.trans (W3.add_le hp).ex) hv, s.mono (W3.add_le hp).ex hw⟩ ⟨hx, hy⟩⟩
theorem ev_sel {f : Heads → Int × Int → Bool} {i : Nat} {p : Addr} {steps : StepsD} {hs : Heads} {E : XK} (ha : EvR ta σ W rStepsD steps) (hi : σ[i]? = some (some (.ref p))) (o : OwnD W p rInt hs) (ok : StepsG steps) : EvR (tCall (SpSel f) [] E (tCons ta (tCons (tVar i) tNil))) σ W rStepsD (selM (f hs) steps) := fun W1 l Q q =>
  ha W1 l _ fun v W2 l2 hv => ⟨_, hi, by
    obtain ⟨kvs, o1, o2⟩ := (o.up (l.trans l2)).ex
    exact ⟨W2.G, v, p, kvs, steps, hs, rfl, W2.gh, hv, o1.g, o1.h, o2, ok, fun u W3 hu y => q u (W2.backE o1 W3) (l2.trans (Wd.backE_le o1 W3 y)) hu⟩⟩
theorem q_use {i : Nat} {p : Addr} {hs : Heads} {came : CameD} {place : Int} {n : Nat} {ls : List Ln} {whole srcs : List Int} {E : XK} (hi : σ[i]? = some (some (.ref p))) (o : OwnD W p rInt hs) (hb : EvR tb σ W rCameD came) (hc : EvR tc σ W rInt place) (pi : PartIn n ls whole srcs place) (c : CameI (selM (spareF hs) (stepsM n ls whole)) srcs came) (hk : HeadsOk ls whole hs) (hp : place ∈ keysD came)
    (k : ∀ (W1 : Wd F) hs', Kp p W W1 → OwnD W1 p rInt hs' → HeadsOk ls whole hs' → (∀ k, Flow ls srcs place hs k → Flow ls srcs place hs' (k + 1)) → tz D σ W1.H) : tSeq (tDrop (tCall SpUse [] E (tCons (tVar i) (tCons tb (tCons tc tNil))))) tz D σ W.H :=
  ⟨_, hi, hb W (Le.refl _) _ fun v W2 l2 hv => hc W2 l2 _ fun w W3 l3 hw => by
    have hw : w = .int place := hw
    subst hw
    obtain ⟨kvs, o1, o2⟩ := (o.up (l2.trans l3)).ex
    exact ⟨W3.G, p, kvs, v, place, hs, came, n, ls, whole, srcs, rfl, W3.gh, o1.g, o1.h, o2, rCameD.mono l3.ex hv, pi.l, pi.w, pi.wl, c, hk, hp, fun W4 hs' o' h' f' => by
      obtain ⟨kvs', o3, o4⟩ := o'.ex
      have kp := Wd.backE_kp o1 W4
      exact k (W3.backE o1 W4) hs' ⟨(l2.trans l3).ex.trans kp.ex, fun q u ne x => kp.kp q u ne (x.up (l2.trans l3))⟩ ⟨kvs', Wd.backE_at o1 W4 o3, o4⟩ h' f'⟩⟩
theorem q_most {i : Nat} {place : Int} {n : Nat} {ls : List Ln} {whole srcs : List Int} {E : XK} (ha : EvR ta σ W rStepsD (stepsM n ls whole)) (hb : EvR tb σ W (rList rInt) srcs) (hc : EvR tc σ W rInt place) (pi : PartIn n ls whole srcs place)
    (k : ∀ p hs (W1 : Wd F), Le W W1 → OwnD W1 p rInt hs → MostOk n ls whole srcs place hs → tz D (σ.set i (some (.ref p))) W1.H) : tSeq (tAsg (tCall SpMost [] E (tCons ta (tCons tb (tCons tc tNil)))) (gName i)) tz D σ W.H :=
  ha W (Le.refl _) _ fun v W1 l1 hv => hb W1 l1 _ fun u W2 l2 hu => hc W2 (l1.trans l2) _ fun w W3 l3 hw => by
    have hw : w = .int place := hw
    subst hw
    exact ⟨W3.G, v, u, place, n, ls, whole, srcs, rfl, W3.gh, rStepsD.mono (l2.ex.trans l3.ex) hv, (rList rInt).mono l3.ex hu, pi, fun p hs W4 o m => k p hs (W3.back W4) (((l1.trans l2).trans l3).trans (W3.back_le W4)) o.back m⟩
theorem ev_usedw {i : Nat} {p : Addr} {place : Int} {hs : Heads} {n : Nat} {ls : List Ln} {whole srcs : List Int} {E : XK} (ha : EvR ta σ W rStepsD (stepsM n ls whole)) (hi : σ[i]? = some (some (.ref p))) (o : OwnD W p rInt hs) (hb : EvR tb σ W (rList rInt) srcs) (hc : EvR tc σ W rInt place) (pi : PartIn n ls whole srcs place) (hk : MostOk n ls whole srcs place hs) :
    EvN (tCall SpUsedW [] E (tCons ta (tCons (tVar i) (tCons tb (tCons tc tNil))))) σ W (rList (rList rInt)) (WaysOk ls whole srcs place hs) := fun W1 l Q q =>
  ha W1 l _ fun v W2 l2 hv => ⟨_, hi, hb W2 (l.trans l2) _ fun u W3 l3 hu => hc W3 ((l.trans l2).trans l3) _ fun w W4 l4 hw => by
    have hw : w = .int place := hw
    subst hw
    obtain ⟨kvs, o1, o2⟩ := (o.up (((l.trans l2).trans l3).trans l4)).ex
    exact ⟨W4.G, v, u, p, kvs, place, n, ls, whole, srcs, hs, rfl, W4.gh, rStepsD.mono (l3.ex.trans l4.ex) hv, (rList rInt).mono l4.ex hu, o1.g, o1.h, o2, pi, hk, fun z W5 zs hz hw y => q z (W4.backE o1 W5) zs (((l2.trans l3).trans l4).trans (Wd.backE_le o1 W5 y)) hz hw⟩⟩
/-- dict(d), d of one's own -/
theorem q_dcopy {i j : Nat} {p : Addr} {xs : List (Int × α)} {rd : List V → Hp → VK → Prop} (he : rd = fun xs H Q => ∃ (a : Addr) (kvs : List (Key × V)), xs = [V.ref a] ∧ Rd H a (.dK kvs) ∧ ∀ p, H p = none → Q (.ref p) (upd H p (.dK kvs))) (hi : σ[i]? = some (some (.ref p))) (o : OwnD W p r xs)
    (k : ∀ q (W1 : Wd F), Le W W1 → W.H q = none → OwnD W1 q r xs → tz D (σ.set j (some (.ref q))) W1.H) : tSeq (tAsg (tCB rd (tCons (tVar i) tNil)) (gName j)) tz D σ W.H := by
  subst he
  obtain ⟨kvs, h1, h2⟩ := o.ex
  exact ⟨_, hi, p, kvs, rfl, .inl h1.h, fun q hq => k q (W.own q _ hq) (W.own_le hq) hq ⟨kvs, W.own_at hq, h2⟩⟩
end
end Q

namespace Q
open PySem L2
theorem lc_keys {d : Addr} {od : Obj} {kvs : List (Key × V)} {g : TG} {tt : TT} {te : TE} {vs : List Nat} {σ : L2.St} {H1 : Hp} {D : Addr} {Qd : Hp → Prop} (Pv : Nat → Hp → Prop) (base : Pv 0 (upd H1 D (.lst []))) (still : ∀ j H, j ≤ kvs.length → Pv j H → H d = some (.frz od (.dK kvs)))
    (turn : ∀ (j : Nat) k v H, kvs[j]? = some (k, v) → Pv j H → g (kV k) (wipe σ vs) H fun σ2 H2 => wipe σ2 vs = wipe σ vs ∧ tt σ2 H2 fun b H3 =>
      if b = true then te σ2 H3 fun y H4 => ∃ ac, H4 D = some (.lst ac) ∧ ac.length < sizeLine ∧ Pv (j + 1) (upd H4 D (.lst (ac ++ [y]))) else Pv (j + 1) H3) (fin : ∀ H, Pv kvs.length H → Qd H) :
    ∃ W : Nat → Nat → Hp → Prop, (∃ m, W 0 m (upd H1 D (.lst []))) ∧ ∀ i m H, W i m H →
      ((Itk d od kvs).stop i H ∧ Qd H) ∨ ((Itk d od kvs).go i H ∧ ∃ Nx : Hp → Prop, (∀ H', Nx H' → ∃ m', m' < m ∧ W (i + 1) m' H') ∧ ∀ x H', (Itk d od kvs).yld i H x H' → g x (wipe σ vs) H' fun σ2 H2 => wipe σ2 vs = wipe σ vs ∧ tt σ2 H2 fun b H3 =>
        if b = true then te σ2 H3 fun y H4 => ∃ ac, H4 D = some (.lst ac) ∧ ac.length < sizeLine ∧ Nx (upd H4 D (.lst (ac ++ [y]))) else Nx H3) := by
  refine ⟨fun j c H => c = kvs.length - j ∧ j ≤ kvs.length ∧ Pv j H, ⟨_, rfl, Nat.zero_le _, base⟩, fun j c H h => ?_⟩
  obtain ⟨hc, hj, p⟩ := h
  have st := still j H hj p
  rcases Nat.lt_or_ge j kvs.length with lt | ge
  · refine .inr ⟨⟨st, lt⟩, Pv (j + 1), fun H' p' => ⟨kvs.length - (j + 1), by omega, rfl, lt, p'⟩, fun x H' y => ?_⟩
    obtain ⟨rfl, k, v, e1, rfl⟩ := y
    exact turn j k v _ e1 p
  · have e : j = kvs.length := Nat.le_antisymm hj ge
    rw [e] at p ⊢
    exact .inl ⟨⟨st, Nat.le_refl _⟩, fin H p⟩
section
variable {F : Fr} {K : PySem.W.Frag} {σ : L2.St} {W W1 : Wd F} {ta tb te tc tl ti tk tv : TE} {tt tu : TT} {α β γ δ : Type} {r : Rp α} {s : Rp β} {t : Rp γ} {D : Ends} {tz tx ty : TS}
/-- [x for k in d if ..], d locked -/
theorem eon_lcK {d : Addr} {od : Obj} {kvs : List (Key × V)} {xs : List (Int × α)} {i j : Nat} {ws : List Nat} {R : Int × α → Option β → Prop} (hi : σ[i]? = some (some (.ref d))) (hd : W.G d = some (.frz od (.dK kvs))) (hr : DictR r W.G kvs xs) (hz : xs.length ≤ 40000) (hw : ∀ x, wipe ((wipe σ ws).set j (some x)) ws = wipe σ ws)
    (c : ∀ (m : Nat) x (W1 : Wd F), Le W W1 → xs[m]? = some x → EvC tt te ((wipe σ ws).set j (some (.int x.1))) W1 s (R x)) : EvON (tLc (iKeys (tVar i)) (gName j) tt te ws) σ W s (LcR R xs) := fun W1 l Q q => by
  have h1 := l.ex _ _ hd
  refine ⟨_, hi, d, od, rfl, .inl ⟨kvs, W1.gh _ _ h1, fun p hp => lc_keys (d := d) (od := od) (kvs := kvs) (Acc W1 p s R xs) ⟨W1.own p _ hp, [], rfl, W1.own_le hp, ⟨[], W1.own_at hp, All2.nil⟩, Nat.le_refl _, [], by simp, fun i x o hx => by simp at hx, rfl⟩ ?_ ?_ ?_⟩⟩
  · rintro m _ _ ⟨W3, zs, rfl, l3, _⟩
    exact W3.gh _ _ (l3.ex _ _ h1)
  · rintro m k v _ hm ⟨W3, zs, rfl, l3, o, hzs, hl⟩
    have hm' : m < xs.length := by rw [← hr.1]; exact (List.getElem?_eq_some_iff.mp hm).1
    have hx : xs[m]? = some xs[m] := List.getElem?_eq_getElem hm'
    obtain ⟨v', e1, _⟩ := hr.2 m _ hx
    rw [hm] at e1
    cases e1
    exact ⟨hw _, acc_turn hp l3 o hzs (by omega) hl hx (c m xs[m] W1 l hx)⟩
  · rintro _ ⟨W3, zs, rfl, l3, o, hzs, hl⟩
    rw [hr.1, List.take_length] at hl
    obtain ⟨ys, o1, o2⟩ := o.ex
    exact q p ys W3 zs l3 (le_fresh (Le.refl _) hp) o1 o2 hl
theorem eo_lcK {d : Addr} {od : Obj} {kvs : List (Key × V)} {xs : List (Int × α)} {i j : Nat} {ws : List Nat} (f : Int × α → Bool) (g : Int × α → β) (hi : σ[i]? = some (some (.ref d))) (hd : W.G d = some (.frz od (.dK kvs))) (hr : DictR r W.G kvs xs) (hz : xs.length ≤ 40000) (hw : ∀ x, wipe ((wipe σ ws).set j (some x)) ws = wipe σ ws)
    (c1 : ∀ (m : Nat) x (W1 : Wd F), Le W W1 → xs[m]? = some x → EvB tt ((wipe σ ws).set j (some (.int x.1))) W1 (f x)) (c2 : ∀ (m : Nat) x (W1 : Wd F), Le W W1 → xs[m]? = some x → f x = true → EvR te ((wipe σ ws).set j (some (.int x.1))) W1 s (g x)) : EvO (tLc (iKeys (tVar i)) (gName j) tt te ws) σ W s ((xs.filter f).map g) := fun W1 l Q q =>
  eon_lcK (R := fun x o => o = if f x then some (g x) else none) hi hd hr hz hw (fun m x W1 l hx => EvC.mk (c1 m x W1 l hx) (c2 m x W1 l hx)) W1 l Q fun p vs W2 zs l2 hp o a hl => q p vs W2 l2 hp o (lcr_fm hl ▸ a)
theorem ev_ix0N {P : α × β → Prop} {R : α → Prop} (ha : EvN ta σ W (rT2 r s) P) (hR : ∀ x y, P (x, y) → R x) : EvN (tOp (rIx K) ta (tC (.int 0))) σ W r R :=
  ev_opN ha (EvR.n (ev_int (i := 0))) fun W1 v w x y Q l hv hw hx hy q => by
    obtain ⟨a, u, u', rfl, h1, h2, h3⟩ := hv
    have hw : w = .int y := hw
    subst hw
    subst hy
    exact .inr (.inl ⟨a, _, 0, u, rfl, rfl, sqT_of W1.gh h1, rfl, q u W1 x.1 (Le.refl _) h2 (hR x.1 x.2 hx)⟩)
theorem s_dputN {i : Nat} {p : Addr} {xs : List (Int × α)} {k : Int} {P : α → Prop} (hi : σ[i]? = some (some (.ref p))) (o : OwnD W p r xs) (hb : EvR tb σ W rInt k) (h : EvN te σ W r P) (hz : xs.length < 100000)
    (c : ∀ (W1 : Wd F) x, Kp p W W1 → P x → OwnD W1 p r (dput xs k x) → D.nx σ W1.H) : sDPut (tVar i) tb te D σ W.H := by
  refine h W (Le.refl _) _ fun v W1 x l hv hx => ⟨_, hi, hb W1 l _ fun w W2 l2 hw => ?_⟩
  have hw : w = .int k := hw
  subst hw
  obtain ⟨kvs, h1, h2⟩ := o.ex
  have o2 := (h1.up l).up l2
  refine ⟨p, _, rfl, DPut.k (k := (Sum.inl k : Key)) o2.h (by rw [h2.1]; exact Nat.lt_of_lt_of_le hz (by decide)), ?_⟩
  exact c (W2.put p _ o2.z o2.g) x ⟨l.ex.trans l2.ex, fun q u ne y => ((y.up l).up l2).put ne _ _⟩ hx ⟨_, W2.put_at o2.z o2.g, (h2.mono (l.ex.trans l2.ex)).put (r.mono l2.ex hv)⟩
end
end Q

/-! Comprehensions and walks where an exception is handled. The plan is that of the layer's own comprehension (HandS.Comp), cut into a block's beginning, its turn and its end; the block bears the handled exception's pin. -/
namespace Q
open PySem PySem.Spec PyProof.Rows L2 HotX L2H
/-- the block of a comprehension that begins where the exception at p is handled -/
abbrev hotBlk (X : Cx) (p : Addr × Obj) (s : Shared) (H : Hp) (sc : Scope) (ce : Env) (fp : List Addr) : Cx := { X.blk s H sc ce fp with pn := [p] }
section
variable {X : Cx} {p : Addr × Obj} {s s' : Shared} {H H' : Hp} {sc : Scope} {ce : Env} {fp : List Addr} {σ : L2.St}
theorem hotBlk_ok (o : (X.blk s H sc ce fp).Ok) : (hotBlk X p s H sc ce fp).Ok :=
  { mod := o.mod, kind := o.kind, glob := o.glob, blt := o.blt, above := o.above, inj := o.inj, has := o.has, cab := o.cab, hd := o.hd, frames := o.frames, stk := o.stk, exf := o.exf, bs := o.bs, bsz := o.bsz, noex := o.noex, exfs := o.exfs, funs := o.funs, frf := o.frf }
theorem inv_hotBlk (I : Inv (X.blk s H sc ce fp) [] σ H' s') (h : s'.heap.get? p.1 = some p.2 ∧ H' p.1 = none ∧ p.1 ≠ ce.locals ∧ p.1 ∉ frs X.stack ∧ ∀ v, p.2.data ≠ .cell v) : Inv (hotBlk X p s H sc ce fp) [] σ H' s' :=
  { ok := hotBlk_ok I.ok, os := I.os, bare := I.bare, base := I.base, loc := I.loc, cell := I.cell, free := I.free, freeC := I.freeC, hok := I.hok, len := I.len
    pin := fun q hq => by
      have e : q = p := by simpa using (show q ∈ [p] ++ ([] : List (Addr × Obj)) from hq)
      subst e; exact h }
/-- the iterator's records, seen from the block -/
theorem fp_hotBlk (I : Inv (hotBlk X p s H sc ce fp) [] σ H' s') (hp : ∀ b ∈ fp, p.1 ≠ b) (hn : ∀ b ∈ fp, H' b = none) : ∀ b ∈ fp, FpOk (hotBlk X p s H sc ce fp) [] H' b := fun b hb =>
  ⟨hn b hb, (I.ok.exf b hb).1, I.ok.exfs b hb, .inl hb, fun x c e => (I.ok.exf b hb).2 x c e, fun q hq => by
    have e : q = p := by simpa using (show q ∈ [p] ++ ([] : List (Addr × Obj)) from hq)
    subst e; exact hp b hb⟩
/-- the beginning: the block's names laid, the pin carried in -/
theorem hot_start {pins : List (Addr × Obj)} {own : List (Str × Nat)} (I : Inv X pins σ H s) (ok : BlkOk X.N X.env.scope sc own) (hN : X.N.Nodup) (hfp : ∀ b ∈ fp, FpOk X pins H b ∧ b < s.heap.objs.size) (hp : p ∈ X.pn)
    (hst : p.1 ∉ frs X.stack) :
    Inv (hotBlk X p s H sc (compEnvC sc (cellsFrom (s.heap.objs.size + 1) sc.names (cloFrom X.env.cells sc.names [])) s.heap.objs.size X.env) fp) [] (wipe σ (own.map (·.2))) H { s with heap := pushCells (s.heap.push { cls := .type "dict", data := .dict #[] }) sc.names } := by
  have P1 := I.pin p (List.mem_append_left _ hp)
  refine inv_hotBlk (block_start I ok hN hfp) ⟨?_, P1.2.1, Nat.ne_of_lt (Heap.lt_size P1.1), hst, P1.2.2.2.2⟩
  exact pushCells_keeps _ _ _ _ (Heap.get?_push_of_some _ P1.1)
/-- what a turn begins with: turn i, n the measure -/
def AtTurn (Y : Cx) (τ : L2.St) (fp : List Addr) (tn : Nat → Heap → Prop) (Wv : Nat → Nat → Hp → Prop) (n : Nat) (s : Shared) : Prop := ∃ i H, Inv Y [] τ H s ∧ tn i s.heap ∧ (∀ b ∈ fp, H b = none) ∧ Wv i n H
/-- a turn's end -/
theorem AtTurn.again {Y : Cx} {τ σ' : L2.St} {tn : Nat → Heap → Prop} {Wv : Nat → Nat → Hp → Prop} {n i : Nat} {s1 s2 : Shared} {H2 : Hp} {Nx : Hp → Prop} {vs : List Nat} (obj : ∀ b ∈ fp, ∃ o, s1.heap.get? b = some o ∧ ∀ v, o.data ≠ .cell v) (keep : ∀ h h', tn (i + 1) h → (∀ b ∈ fp, ∀ o, h.get? b = some o → h'.get? b = some o) → tn (i + 1) h') (st : tn (i + 1) s1.heap)
    (hNx : ∀ H', Nx H' → ∃ m', m' < n ∧ Wv (i + 1) m' H') (e : wipe σ' vs = τ) (I : Inv Y ([] ++ pinsAt fp s1.heap) σ' H2 s2) (h : Nx H2) : ∃ m, m < n ∧ AtTurn Y τ fp tn Wv m s2 := by
  obtain ⟨m, hm, w⟩ := hNx H2 h
  have at2 : ∀ b ∈ fp, ∀ o, s1.heap.get? b = some o → s2.heap.get? b = some o ∧ H2 b = none := fun b hb o q =>
    let z := I.pin (b, o) (List.mem_append_right _ (List.mem_append_right _ (mem_pinsAt hb q)))
    ⟨z.1, z.2.1⟩
  refine ⟨m, hm, i + 1, H2, (I.unpinned (pins := [])).weak (by rw [← e, wipe_length]) (fun j v q => ?_), keep _ _ st fun b hb o q => (at2 b hb o q).1, fun b hb => ?_, w⟩
  · rw [← e] at q; exact (wipe_some q).1
  · obtain ⟨o, q, _⟩ := obj b hb
    exact (at2 b hb o q).2
/-- [elt for tg in iter if ..] -/
theorem lc_hot {pins : List (Addr × Obj)} {Q : VK} {elt tg iter : Expr} {ifs : List Expr} {own : List (Str × Nat)} {pos pos' : Pos} {wi : TI} {g : TG} {tt : TT} {te : TE} {use : Option (Value → Sem Unit)} {Qf : Value → Shared → Prop}
    (hot : Hot1 X.A p ∧ p ∈ X.pn) (hN : X.N.Nodup) (I : Inv X pins σ H s) (hi : PIH X tg iter wi) (ok : BlkOk X.N X.env.scope sc own)
    (hg : ∀ (s : Shared) (H : Hp) (C : Addr) (cl : List (Str × Addr)) (fp : List Addr), PG (hotBlk X p s H sc (compEnvC sc cl C X.env) fp) tg g)
    (ht : ∀ (s : Shared) (H : Hp) (C : Addr) (cl : List (Str × Addr)) (fp : List Addr), PTs (hotBlk X p s H sc (compEnvC sc cl C X.env) fp) ifs tt)
    (he : ∀ (s : Shared) (H : Hp) (C : Addr) (cl : List (Str × Addr)) (fp : List Addr), PE (hotBlk X p s H sc (compEnvC sc cl C X.env) fp) elt te) (hs : ∀ x, foldedSetIterable iter X.env x = pure x)
    (h : tLc wi g tt te (own.map (·.2)) σ H Q)
    (fin : ∀ D C s' m H', Inv X pins σ H' s' → Q (.ref D) H' → s'.heap.Ns C m → FpOk X pins H' C → compPost (model X.prog X.w) X.A X.xe use Qf (.ref D) C (.ok .next) s') :
    wpAny (model X.prog X.w) X.A (comprehension (.ListComp elt [⟨tg, iter, ifs, 0⟩] sc pos) sc X.env pos' (newList []) false (eval iter X.env) use) Qf X.xe s := by
  refine wpAny_comprehension_free (use := use) rfl hs (closure_ok fun y hy e => I.ok.has _ (ok.free y hy e)) ok.kind (fun y hy e => by rw [ok.uniq y hy, e]) (thn (hi.run pins s σ H _ I h) fun xv s1 hx => thn hx fun itv s2 h2 => ?_)
  obtain ⟨it, fp, tn, J, H2, rfl, I2, T, st2, f2, q⟩ := h2
  refine wpAny_newObj_type (newEnv_comp ?_) (Nat.zero_le _)
  -- the new list at D
  have hD2 := I2.hok.fresh (Nat.le_refl s2.heap.objs.size)
  obtain ⟨Wv, ⟨m0, w0⟩, turn⟩ := q _ hD2
  have I3 := I2.laid (a := s2.heap.objs.size) (o := .lst []) (t' := s2.toks) (h' := s2.heap.push { cls := .type "list", data := .seq ([] : List Value).toArray }) (fun b o e => Heap.get?_push_of_some _ e) (Nat.le_refl _)
    ⟨Nat.zero_le _, [], 0, .nil, Heap.get?_push_size _ rfl⟩
  have lt : ∀ b ∈ fp, b < s2.heap.objs.size := fun b hb => (T.obj _ _ st2 b hb).elim fun o e => Heap.lt_size e.1
  have f3 : ∀ b ∈ fp, FpOk X pins (upd H2 s2.heap.objs.size (.lst [])) b ∧ b < (s2.heap.push { cls := .type "list", data := .seq ([] : List Value).toArray }).objs.size := fun b hb =>
    ⟨⟨(upd_ne (Nat.ne_of_lt (lt b hb))).trans (f2 b hb).1, (f2 b hb).2⟩, by rw [Heap.size_push]; exact Nat.lt_succ_of_lt (lt b hb)⟩
  have P1 := I.pin p (List.mem_append_left _ hot.2)
  have pst : p.1 ∉ frs X.stack := fun hm => (List.mem_cons.mp (I.stkSub p.1 hm)).elim P1.2.2.1 P1.2.2.2.1
  have pfp : ∀ b ∈ fp, p.1 ≠ b := fun b hb => (f2 b hb).2.2.2.2.2 p (List.mem_append_left _ hot.2)
  generalize hH3 : upd H2 s2.heap.objs.size (.lst []) = H3 at I3 f3 w0
  generalize hs3 : ({ s2 with heap := s2.heap.push { cls := .type "list", data := .seq ([] : List Value).toArray } } : Shared) = s3
  have eh : s2.heap.push { cls := .type "list", data := .seq ([] : List Value).toArray } = s3.heap := by rw [← hs3]
  have I3 : Inv X pins σ H3 s3 := by rw [← hs3]; exact I3
  rw [eh] at f3
  have st3 : tn 0 s3.heap := T.keep _ _ _ st2 fun b _ o e => by rw [← eh]; exact Heap.get?_push_of_some _ e
  have I4 := hot_start I3 ok hN f3 hot.2 pst
  show codeAny _ _ (.compStart (.ListComp elt [⟨tg, iter, ifs, 0⟩] sc pos) 0 (.ref it) (.ref s2.heap.objs.size) (compEnvC sc (cellsFrom (s3.heap.objs.size + 1) sc.names (cloFrom X.env.cells sc.names [])) s3.heap.objs.size X.env)) (compPost (model X.prog X.w) X.A X.xe use Qf (.ref s2.heap.objs.size) s3.heap.objs.size) { s3 with heap := pushCells (s3.heap.push { cls := .type "dict", data := .dict #[] }) sc.names }
  generalize hD : s2.heap.objs.size = D at *
  generalize hcl : cellsFrom (s3.heap.objs.size + 1) sc.names (cloFrom X.env.cells sc.names []) = cl at *
  have pg := hg s3 H3 s3.heap.objs.size cl fp
  have pt := ht s3 H3 s3.heap.objs.size cl fp
  have pe := he s3 H3 s3.heap.objs.size cl fp
  generalize hce : compEnvC sc cl s3.heap.objs.size X.env = ce at *
  have cL : ce.locals = s3.heap.objs.size := by rw [← hce]; rfl
  have hotY : HotC (hotBlk X p s3 H3 sc ce fp) := ⟨p, hot.1, List.mem_singleton.mpr rfl⟩
  have st4 : tn 0 (pushCells (s3.heap.push { cls := .type "dict", data := .dict #[] }) sc.names) := T.keep _ _ _ st3 fun b _ o e => pushCells_keeps _ _ _ _ (Heap.get?_push_of_some _ e)
  have loop : codeAny (model X.prog X.w) X.A (.compLoop (.ListComp elt [⟨tg, iter, ifs, 0⟩] sc pos) 0 (.ref it) (.ref D) ce) (compPost (model X.prog X.w) X.A X.xe use Qf (.ref D) s3.heap.objs.size) { s3 with heap := pushCells (s3.heap.push { cls := .type "dict", data := .dict #[] }) sc.names } := by
    refine compLoop_any (AtTurn (hotBlk X p s3 H3 sc ce fp) (wipe σ (own.map (·.2))) fp tn Wv) ?_ m0 ⟨0, H3, I4, st4, fun b hb => (f3 b hb).1.1, w0⟩
    rintro n s5 ⟨i, H5, I5, st5, n5, w5⟩
    rcases turn i n H5 w5 with ⟨stop, qq⟩ | ⟨go, Nx, hNx, step⟩
    · -- the end: back in the def
      refine thnF (T.done (hotBlk X p s3 H3 sc ce fp) rfl rfl rfl hotY i [] s5 _ H5 (fun _ _ => False) I5 (fp_hotBlk I5 pfp n5) st5 stop) fun r s6 ⟨hr, I6⟩ => ?_
      subst hr
      have I7 : Inv X pins σ H5 s6 := I3.call' (ch := fp) I6.os I6.base I6.hok I6.bare fun b hb => ⟨(f3 b hb).1.2.2.2.1, (f3 b hb).1.2.1, (f3 b hb).1.2.2.2.2.1, (f3 b hb).1.2.2.2.2.2⟩
      obtain ⟨m, hn, _⟩ := I6.loc
      have hn : s6.heap.Ns ce.locals m := hn
      have nC : H5 ce.locals = none := I6.free
      rw [cL] at hn nC
      exact fin D _ s6 m H5 I7 qq hn (I3.fpOk (Nat.le_refl _) nC)
    · -- a turn
      refine thnF (T.item (hotBlk X p s3 H3 sc ce fp) rfl rfl rfl hotY i [] s5 _ H5 (fun _ _ => False) I5 (fp_hotBlk I5 pfp n5) st5 go) fun r s6 ⟨u, hr, h6⟩ => ?_
      subst hr
      refine thnF h6 fun _ s7 ⟨x, H7, I7, r7, y7, st7, n7⟩ => ?_
      have again : ∀ {σ' : L2.St} {s' : Shared} {H' : Hp}, wipe σ' (own.map (·.2)) = wipe σ (own.map (·.2)) → Inv (hotBlk X p s3 H3 sc ce fp) ([] ++ pinsAt fp s7.heap) σ' H' s' → Nx H' → _ := fun e I' h' => AtTurn.again (T.obj _ _ st7) (fun h h' => T.keep (i + 1) h h') st7 hNx e I' h'
      refine thnF (pg.run _ s7 _ H7 x u _ (I7.pinned (fp_hotBlk I7 pfp n7) (T.obj _ _ st7)) r7 (step x H7 y7)) fun _ s8 ⟨σ8, H8, I8, hw8, q8⟩ => thnF (pt.run _ s8 σ8 H8 _ I8 q8) fun b s9 ⟨H9, I9, q9⟩ => ?_
      cases b with
      | false =>
        simp only [Bool.false_eq_true, if_false] at q9 ⊢
        exact again hw8 I9 q9
      | true =>
        simp only [if_true] at q9 ⊢
        exact thnF (pe.run _ s9 σ8 H9 _ I9 q9) fun z s10 ⟨yv, H10, I10, r10, acc, hD10, hz10, nx⟩ => app_ok (X := hotBlk X p s3 H3 sc ce fp) I10 hD10 hz10 r10 fun s11 I11 => again hw8 I11 nx
  exact codeAny_compStart_list loop (T.self X.A 0 _ _ _ st4 loop)
/-- the exception at p is handled here -/
structure Pin1 (X : Cx) (p : Addr × Obj) : Prop where
  hot : Hot1 X.A p
  inn : p ∈ X.pn
theorem Pin1.hotC (c : Pin1 X p) : HotC X := ⟨p, c.hot, c.inn⟩
theorem Pin1.blk (c : Pin1 X p) {s : Shared} {H : Hp} {sc : Scope} {ce : Env} {fp : List Addr} : Pin1 (hotBlk X p s H sc ce fp) p := ⟨c.hot, List.mem_singleton.mpr rfl⟩
/-- a comprehension as a value -/
theorem pe_lcH {elt tg iter : Expr} {ifs : List Expr} {own : List (Str × Nat)} {pos : Pos} {wi : TI} {g : TG} {tt : TT} {te : TE} (c : Pin1 X p) (hN : X.N.Nodup) (hi : PIH X tg iter wi) (ok : BlkOk X.N X.env.scope sc own)
    (hg : ∀ (s : Shared) (H : Hp) (C : Addr) (cl : List (Str × Addr)) (fp : List Addr), PG (hotBlk X p s H sc (compEnvC sc cl C X.env) fp) tg g)
    (ht : ∀ (s : Shared) (H : Hp) (C : Addr) (cl : List (Str × Addr)) (fp : List Addr), PTs (hotBlk X p s H sc (compEnvC sc cl C X.env) fp) ifs tt)
    (he : ∀ (s : Shared) (H : Hp) (C : Addr) (cl : List (Str × Addr)) (fp : List Addr), PE (hotBlk X p s H sc (compEnvC sc cl C X.env) fp) elt te) (hs : ∀ x, foldedSetIterable iter X.env x = pure x := by intro _; rfl) :
    PE X (.ListComp elt [⟨tg, iter, ifs, 0⟩] sc pos) (tLc wi g tt te (own.map (·.2))) where
  run pins s σ H Q I h := by
    rw [eval_ListComp]
    exact lc_hot ⟨c.hot, c.inn⟩ hN I hi ok hg ht he hs h fun D C s' m H' J q ns far => ⟨m, ns, fun h3 gone => ⟨.ref D, H', J.turned (t' := s'.toks) (fun b o hb e => (gone.2 b hb).trans e) far.1 far.2.1 far.2.2.2.1 far.2.2.2.2.1 far.2.2.2.2.2, rfl, q⟩⟩
/-- y = [..], y a local -/
theorem ps_setLcH {i : Nat} {y : Str} {py : Pos} {elt tg iter : Expr} {ifs : List Expr} {own : List (Str × Nat)} {pos spos : Pos} {wi : TI} {g : TG} {tt : TT} {te : TE} (c : Pin1 X p) (hN : X.N.Nodup) (hy : X.N[i]? = some y) (hyl : X.env.scope.names.lookup y = some .local)
    (hsw : swapsWith (.ListComp elt [⟨tg, iter, ifs, 0⟩] sc pos) (some (.Name y py)) spos.line X.env = pure true) (hi : PIH X tg iter wi) (ok : BlkOk X.N X.env.scope sc own)
    (hg : ∀ (s : Shared) (H : Hp) (C : Addr) (cl : List (Str × Addr)) (fp : List Addr), PG (hotBlk X p s H sc (compEnvC sc cl C X.env) fp) tg g)
    (ht : ∀ (s : Shared) (H : Hp) (C : Addr) (cl : List (Str × Addr)) (fp : List Addr), PTs (hotBlk X p s H sc (compEnvC sc cl C X.env) fp) ifs tt)
    (he : ∀ (s : Shared) (H : Hp) (C : Addr) (cl : List (Str × Addr)) (fp : List Addr), PE (hotBlk X p s H sc (compEnvC sc cl C X.env) fp) elt te) (hs : ∀ x, foldedSetIterable iter X.env x = pure x := by intro _; rfl) :
    PS X (.Assign [.Name y py] (.ListComp elt [⟨tg, iter, ifs, 0⟩] sc pos) spos) (tAsg (tLc wi g tt te (own.map (·.2))) (gName i)) where
  run pins s σ H D I h := by
    have made := lc_hot (use := some (assign (.Name y py) X.env)) (Q := fun x H1 => gName i x σ H1 D.nx) (Qf := fun _ t => SP X pins D .next t) (pos := pos) (pos' := firstIterPos [⟨tg, iter, ifs, 0⟩] pos) ⟨c.hot, c.inn⟩ hN I hi ok hg ht he hs h fun L C s' m H' J q ns far => store_behind hN hy hyl J ns far q
    rw [exec_Assign_Name_used _ _ _ _ hsw]
    exact wpAny_bind (wpAny_standAt (wpAny_bind (wpAny_bind (thn made fun _ _ q => wpAny_pure (wpAny_pure q)))))
end
/-! ### a list walked there -/
section
variable {prog : Program} {w : World} {A : Around} {E : Value → Shared → Prop} {s : Shared}
/-- StopIteration is made and raised; the handled one becomes its context -/
theorem stop_hot {x1 : Addr} {α : Type} {R : α → Shared → Prop} (hot : HotAt A x1 s.heap) (hE : ∀ u h', (∀ b o, s.heap.get? b = some o → h'.get? b = some o) → (∃ o, h'.get? u = some o ∧ o.cls = .type "StopIteration") → E (.ref u) { s with heap := h' }) :
    wpAny (model prog w) A (do let e ← newExc (.type "StopIteration") []; raiseNew e) R E s := by
  obtain ⟨hh, o1, vs1, h1, d1, c1⟩ := hot
  refine wpAny_bind ?_
  simp only [newExc, newTuple]
  refine wpAny_bind (wpAny_newObj_type (wpAny_bind (m := firstArgMember _ _) (wpAny_of_eq (a := Value.none) (by first | rfl | (simp only [firstArgMember]; rfl)) (wpAny_newObj_type ?_ (by size_fits)))) (by size_fits))
  have new := fun (o' : Obj) (e : o'.isFreed = false) => Heap.get?_push_size (s.heap.push { cls := .type "tuple", data := .seq #[] : Obj }) (o := o') e
  have old : ∀ b o (o2 : Obj), s.heap.get? b = some o → ((s.heap.push { cls := .type "tuple", data := .seq #[] : Obj }).push o2).get? b = some o := fun b o o2 e => Heap.get?_push_of_some _ (Heap.get?_push_of_some _ e)
  refine raiseNew_hot ⟨hh, o1, vs1, old _ _ _ h1, d1, c1⟩ (Nat.ne_of_lt (Heap.lt_size (Heap.get?_push_of_some _ h1))) (new _ rfl) rfl (by first | (simp; done) | (simp; omega) | (simp only [Array.size_append]; simp; omega)) (hE _ _ (fun b o e => ?_) ⟨_, Heap.get?_update_self _ (new _ rfl) rfl, rfl⟩)
  rw [Heap.get?_update_other _ _ (Nat.ne_of_gt (Heap.lt_size (Heap.get?_push_of_some _ e)))]
  exact old _ _ _ e
/-- the list's end -/
theorem list_end_hot {it l x1 : Addr} {i : Nat} {items : Array Value} {Q : Option Value → Shared → Prop} (hot : HotAt A x1 s.heap) (apart : x1 ≠ it) (hit : s.heap.IsListIter it l i) (hl : s.heap.IsList l items) (none_left : items[i]? = none)
    (hQ : ∀ h', (∀ b o, b ≠ it → s.heap.get? b = some o → h'.get? b = some o) → Q none { s with heap := h' }) : wpAny (model prog w) A (pyNext (.ref it)) Q E s := by
  obtain ⟨oi, at_i, ci, di⟩ := id hit
  obtain ⟨ol, at_l, _, nl, dl⟩ := hl
  obtain ⟨hh, o1, vs1, at1, d1, c1⟩ := hot
  unfold pyNext
  refine wpAny_bind (wpAny_attempt (wpAny_callSpecial?_slot (name := Str.ofString "__next__") hit.typeIs slot_listiter_next (wpAny_call_entry slot_listiter_next hit.typeIs entry_listiter_next ?_ (args_listiter_next _))))
  refine (wpAny_bind (wpAny_field at_i di (x := .ref l) rfl ?_) : wpAny _ _ (field (.ref it) 0 >>= _) _ _ s)
  show wpAny _ _ (if (Value.ref l == Value.none) = true then _ else _) _ _ s
  rw [if_neg (show ¬ ((Value.ref l == Value.none) = true) from Bool.false_ne_true)]
  refine (wpAny_bind (wpAny_field at_i di (x := .int i 0) rfl ?_) : wpAny _ _ (field (.ref it) 1 >>= _) _ _ s)
  refine (wpAny_bind (wpAny_seqItems at_l dl ?_) : wpAny _ _ (seqItems? (.ref l) >>= _) _ _ s)
  simp only [Int.toNat_natCast, none_left]
  refine wpAny_bind (wpAny_rule (wpAny_bind (wpAny_setField at_i di (by simp) ?_)))
  have other : ∀ b o, b ≠ it → s.heap.get? b = some o → (s.heap.update it (Obj.mapFields (·.setIfInBounds 0 Value.none))).get? b = some o := fun b o ne e => (Heap.get?_update_other _ _ (Ne.symm ne)).trans e
  refine (stop_hot (A := A.in1) (s := { s with heap := s.heap.update it (Obj.mapFields (·.setIfInBounds 0 Value.none)) }) ⟨hh, o1, vs1, other _ _ apart at1, d1, c1⟩ fun u h' keep made => ?_ : wpAny _ A.in1 Builtin.SmallTypes.stopIteration _ _ _)
  exact wpAny_bind (wpAny_isInstance (T := "StopIteration") (b := true) made isSubtype_stop (wpAny_pure (hQ h' fun b o ne e => keep b o (other b o ne e))))
end
section
variable {K : PySem.W.Frag} {tg : Expr} {P : Program} {w : World}
theorem turn_listH (a it : Addr) : TurnH P w K tg (Itl K a) [it] it (fun i h => h.IsListIter it a i) where
  mem := List.mem_singleton.mpr rfl
  obj := fun i h st b hb => by
    obtain rfl : b = it := by simpa using hb
    obtain ⟨o, e, _, d⟩ := st
    exact ⟨o, e, fun v z => by rw [d] at z; cases z⟩
  keep := fun i h h' st k => st.at fun o e => k it (List.mem_singleton.mpr rfl) o e
  item := by
    rintro X rfl rfl rfl _ i pins s σ H E I far st ⟨xs, x, hq, hx⟩
    obtain ⟨f0, f1, _, f3, f4, f5⟩ := far it (List.mem_singleton.mpr rfl)
    obtain ⟨its, rv, pl, _⟩ := I.list hq
    obtain ⟨u, hu, ru⟩ := rv.get hx
    refine wpAny_pyNext_list_item st pl.isList (x := u) (by simpa using hu) fun h' st' sb => ⟨u, rfl, ?_⟩
    have J : Inv X pins σ H { s with heap := h' } := I.turned (t' := s.toks) (fun b o hb e => (sb.2 b hb).trans e) f0 f1 f3 f4 f5
    obtain ⟨o, e, c, d⟩ := id st'
    exact go_of (s := { s with heap := h' }) e c d (by decide) ⟨x, H, J, ru, ⟨rfl, fun ys hy => (I.list_inj hy hq).symm ▸ hx⟩, st', fun b hb => (far b hb).1⟩
  done := by
    rintro X rfl rfl rfl hc i pins s σ H E I far st ⟨xs, hq, hx⟩
    obtain ⟨f0, f1, _, f3, f4, f5⟩ := far it (List.mem_singleton.mpr rfl)
    obtain ⟨its, rv, pl, _⟩ := I.list hq
    obtain ⟨p, ⟨hh, v1, e1, c1⟩, hp⟩ := hc
    have hl := rv.length
    exact list_end_hot ⟨hh, p.2, v1, (I.pin p (List.mem_append_left _ hp)).1, e1, c1⟩ (f5 p (List.mem_append_left _ hp)) st pl.isList (by simp; omega) fun h' k => ⟨rfl, I.turned (t' := s.toks) k f0 f1 f3 f4 f5⟩
  self := fun _ _ _ _ _ st h => wpAny_pyIter_listiter st h
theorem pi_listH {X : Cx} {l : Expr} {tl : TE} (hl : PE X l tl) (hK : X.K = K := by rfl) : PIH X tg l (iList K tl) := by
  subst hK
  refine ⟨fun pins s σ H R I h => thn (hl.run pins s σ H _ I h) fun v s1 got => ?_⟩
  obtain ⟨x, H1, J, r, a, rfl, ⟨xs, hq⟩, q⟩ := got
  cases r
  obtain ⟨its, rv, pl, _⟩ := J.list hq
  refine wpAny_pyIter_list pl.isList ⟨s1.heap.objs.size, [s1.heap.objs.size], _, _, H1, rfl, J.kept (t' := s1.toks) fun b o e => Heap.get?_push_of_some _ e, turn_listH a _, ⟨_, Heap.get?_push_size _ rfl, rfl, rfl⟩, fun b hb => ?_, q⟩
  obtain rfl : b = s1.heap.objs.size := by simpa using hb
  exact J.fpOk (Nat.le_refl _) (J.hok.fresh (Nat.le_refl _))
end
end Q

/-! Errors of own classes: raised, caught, looked at, and handed on to a def while they are handled. -/
namespace Q
open PySem PySem.Spec PyProof.Rows L2 HotX L2H
/-- where the exception at a (its object oe, its class cls, its dict d) is handled -/
structure Cau (X : Cx) (a : Addr) (oe : Obj) (cls : Value) (d : Option Addr) : Prop where
  hot : Hot1 X.A (a, oe)
  inn : (a, oe) ∈ X.pn
  z : L2N.Zn cls d oe
section
variable {X : Cx} {a : Addr} {oe : Obj} {cls : Value} {d : Option Addr} {pn : List (Addr × Obj)}
theorem Cau.hotC (c : Cau X a oe cls d) : HotC X := ⟨_, c.hot, c.inn⟩
theorem Cau.pin1 (c : Cau X a oe cls d) : Pin1 X (a, oe) := ⟨c.hot, c.inn⟩
theorem Cau.blk (c : Cau X a oe cls d) {s : Shared} {H : Hp} {sc : Scope} {ce : Env} {fp : List Addr} : Cau (hotBlk X (a, oe) s H sc ce fp) a oe cls d := ⟨c.hot, List.mem_singleton.mpr rfl, c.z⟩
theorem cau_suite (hz : L2N.Zn cls d oe) (hf : ∃ vs, oe.data = .fields vs) : Cau (X.suite a ((a, oe) :: pn)) a oe cls d := ⟨⟨rfl, hf.elim fun vs h => ⟨vs, h, hz.2.2 vs h⟩⟩, List.mem_cons_self, hz⟩
end
/-! ### what a def promises when it is called there -/
abbrev SpP := Addr → Value → Option Addr → Sp
structure FnP (P : Program) (w : World) (K : PySem.W.Frag) (mg : Str → Option Value) (base : Heap) (k : Nat) (f : Addr) (fd : FuncData) (ps : List Str) (sp : SpP) : Prop where
  len : ∀ a cls d vs H Q E, sp a cls d vs H Q E → vs.length = ps.length
  run : ∀ (A : Around) (outer : List Env) (s : Shared) (H : Hp) (args : Args) (us : List Value) (vs : List V) (Q : VK) (a : Addr) (oe : Obj) (cls : Value) (d : Option Addr), RoomH k A → Hot1 A (a, oe) → L2N.Zn cls d oe → PinOk outer H s (a, oe) → Env0 P w K mg base A outer s H → BindsTo s fd args (ps.zip us) → Vals vs us →
    sp a cls d vs H Q E0 → codeAny (model P w) A (.call (.ref f) args) (CR CX0 outer P w H s Q E0) s
section
variable {P : Program} {w : World} {K : PySem.W.Frag} {mg : Str → Option Value} {base : Heap} {k : Nat} {f : Addr} {fd : FuncData} {N ps : List Str} {x qual : Str} {st : Stmt} {sp : SpP}
/-- a parameter is a local of the def, or a cell that was made for it -/
theorem par_kind {sc : Scope} {us : List Value} {n : Nat} (S : FnScope N ps sc) : ∀ y ∈ ps.zip us, sc.names.lookup y.1 = some .local ∨ (sc.names.lookup y.1 = some .cell ∧ ((cellsFrom n sc.names []).lookup y.1).isSome = true) := by
  rintro ⟨y, u⟩ hy
  exact (S.par y (List.of_mem_zip hy).1).imp id fun q => ⟨q, PySem.W.cellsFrom_some _ _ _ (.inl q)⟩
theorem okP (F : Fun K x qual st f fd) (S : FnScope N ps (defScope st)) (len : ∀ a cls d vs H Q E, sp a cls d vs H Q E → vs.length = ps.length)
    (body : ∀ (cdv : Value) (A : Around) (outer : List Env) (s : Shared) (H : Hp) (vs : List V) (Q : VK) (a : Addr) (oe : Obj) (cls : Value) (d : Option Addr), Cau (cxH CX0 P w K mg base N qual (defScope st) f cdv A outer s H E0 (a, oe)) a oe cls d → RoomH k (A.deeper (envOfC qual (defScope st) s.heap.objs.size f cdv)) → sp a cls d vs H Q E0 →
      ∃ t, PSs (cxH CX0 P w K mg base N qual (defScope st) f cdv A outer s H E0 (a, oe)) (defBody st) t ∧ t { nx := fun _ H' => Q .non H', rt := Q } (L2.start N vs) H) : FnP P w K mg base (k + 1) f fd ps sp := by
  obtain ⟨oc, od, kV, doc, pm, an, cdv, ct, osl, rfl, lk, code⟩ := F.ex
  refine ⟨len, fun A outer s H args us vs Q a oe cls d room hot z pin e0 bind r h => ?_⟩
  have kin : K.In s.heap := e0.mod.kin.keeps fun b o e => (e0.bs b o e).1
  refine codeAny_call_function room.depth (kin _ _ lk) rfl S.co S.gen rfl (PySem.W.codeRec_of kin code) (bind _ _ _ _ (wpAny_newFunctionEnv_cells S.kind (par_kind S) ?_))
  intro env he s1 entered
  subst he
  obtain ⟨t, ht, q⟩ := body cdv A outer s H vs Q a oe cls d ⟨hot, List.mem_singleton.mpr rfl, z⟩ (room.deeper _) h
  refine ⟨(e0.mod.nolimit.keeps fun b o e => (e0.bs b o e).1).keeps entered.toInCall.keep, codeAny_func (wpAny_mono (ht.run [] s1 _ H _ (inv_startH S pin e0 (len _ _ _ _ _ _ _ h) r entered) q) (fun fl s' hs => ?_) fun _ _ hs => hs)⟩
  match fl, hs with
  | .ret _, ⟨v, _, H', J, rv, q'⟩ => exact ⟨v, H', J.os, J.bare, J.base, J.hok, rv, q'⟩
  | .next, ⟨_, H', J, q'⟩ => exact ⟨.non, H', J.os, J.bare, J.base, J.hok, rfl, q'⟩
  | .brk, ⟨_, _, _, q'⟩ => exact q'.elim
  | .cont, ⟨_, _, _, q'⟩ => exact q'.elim
/-- a def that raises nothing, called where an exception is handled -/
theorem okH {sp : Sp} (F : Fun K x qual st f fd) (S : FnScope N ps (defScope st)) (len : ∀ vs H Q E, sp vs H Q E → vs.length = ps.length)
    (body : ∀ (cdv : Value) (A : Around) (outer : List Env) (s : Shared) (H : Hp) (vs : List V) (Q : VK) (E : XK) (p : Addr × Obj), Pin1 (cxH CX0 P w K mg base N qual (defScope st) f cdv A outer s H E p) p → RoomH k (A.deeper (envOfC qual (defScope st) s.heap.objs.size f cdv)) → sp vs H Q E →
      ∃ t, PSs (cxH CX0 P w K mg base N qual (defScope st) f cdv A outer s H E p) (defBody st) t ∧ t { nx := fun _ H' => Q .non H', rt := Q } (L2.start N vs) H) : FnH P w K mg base CX0 (k + 1) f fd ps sp := by
  obtain ⟨oc, od, kV, doc, pm, an, cdv, ct, osl, rfl, lk, code⟩ := F.ex
  exact fn_ofH lk code S len fun A outer s H vs Q E p hot room h => body cdv A outer s H vs Q E p ⟨hot, List.mem_singleton.mpr rfl⟩ room h
/-- a def that may raise an error whose context is None -/
theorem okN {sp : Sp} (F : Fun K x qual st f fd) (S : FnScope N ps (defScope st)) (len : ∀ vs H Q E, sp vs H Q E → vs.length = ps.length)
    (body : ∀ (cdv : Value) (A : Around) (outer : List Env) (s : Shared) (H : Hp) (vs : List V) (Q : VK) (E : XK), Room k (A.deeper (envOfC qual (defScope st) s.heap.objs.size f cdv)) → sp vs H Q E →
      ∃ t, PSs (cxOf (L2N.CX P w) P w K mg base N qual (defScope st) f cdv A outer s H E) (defBody st) t ∧ t { nx := fun _ H' => Q .non H', rt := Q } (L2.start N vs) H) : FnOk P w K mg base (L2N.CX P w) (k + 1) f fd ps sp := by
  obtain ⟨oc, od, kV, doc, pm, an, cdv, ct, osl, rfl, lk, code⟩ := F.ex
  exact fn_of lk code S len fun A outer s H vs Q E => body cdv A outer s H vs Q E
end
section
variable {X : Cx} {a : Addr} {oe : Obj} {cls : Value} {d : Option Addr} {k : Nat} {f : Addr} {fd : FuncData} {ps : List Str} {sp : SpP} {x n : Str} {q pos : Pos} {e : Expr} {es : List Expr} {te : TE} {t : TA}
/-- f(e, ..) there -/
def tCallP (a : Addr) (cls : Value) (d : Option Addr) (sp : SpP) (t : TA) : TE := fun σ H Q => t σ H fun vs H1 => sp a cls d vs H1 Q E0
theorem passE0 {X : Cx} : Passes CX0 X E0 := fun _ _ _ _ _ _ _ z => z.elim
theorem pe_callP (c : Cau X a oe cls d) (F : FnP X.prog X.w X.K X.mg X.base k f fd ps sp) (hr : RoomH k X.A) (hg : Gl X x) (hm : X.mg x = some (.ref f)) (hk : PySem.W.keepIn X.K (.ref f) = true) (hb : Binds X.K fd ps []) (ha : PA X (e :: es) t)
    (hdb : (x == ("__debug__" : Str)) = false := by decide) (he : starEach (e :: es) X.env = (false, eval e X.env) :: starEach es X.env := by rfl) (hpl : (backTo pos (starEach es X.env)).any (·.1) = false := by rfl) :
    PE X (.Call (.Name x q) (e :: es) [] pos) (tCallP a cls d sp t) where
  run pins s σ H Q I h := by
    refine wpAny_Call_Name_kw (ld_glob I hg hm (PySem.W.callWith_K (h₀ := X.base) I.ok.mod.kin hk (thn (ha.run pos pins s σ H _ I h) fun us s1 got => ?_) he hpl) hdb)
    obtain ⟨vs, H1, J, r, q⟩ := got
    have many : us.length = ps.length := r.length.symm.trans (F.len _ _ _ _ _ _ _ q)
    have b := hb s1 us J.kIn (by rw [List.append_nil]; exact many)
    rw [List.append_nil] at b
    have here := J.pin (a, oe) (List.mem_append_left _ c.inn)
    have pin : PinOk X.stack H1 s1 (a, oe) := ⟨here.1, here.2.1, fun hm => (List.mem_cons.mp (J.stkSub a hm)).elim here.2.2.1 here.2.2.2.1, here.2.2.2.2⟩
    refine ⟨J.kIn, wpAny_call (codeAny_mono (F.run X.A X.stack s1 H1 ⟨us, []⟩ us vs Q a oe cls d hr c.hot c.z pin J.env0 b r q) fun res s' post => ?_)⟩
    match res, post with
    | .error _, z => exact z.elim
    | .ok (.ret _), z => exact J.after z
    | .ok .next, z => exact z.elim
    | .ok .brk, z => exact z.elim
    | .ok .cont, z => exact z.elim
/-- the error's dict, as the abstract heap has it -/
def DxOk (d : Option Addr) (H : Hp) : Prop := ∀ dd, d = some dd → ∃ fs, H dd = some (.xd fs)
theorem inst_at {pins : List (Addr × Obj)} {σ : L2.St} {H : Hp} {s : Shared} {D : Addr} (c : Cau X a oe cls d) (I : Inv X pins σ H s) (ec : cls = .ref D) (hd : DxOk d H) : ∃ od, PySem.W.InstAt s.heap a oe D od ∧ (d = none → od = none) := by
  subst ec
  obtain ⟨_, vs, hv, _⟩ := c.hot
  have at1 := (I.pin (a, oe) (List.mem_append_left _ c.inn)).1
  have no : PySem.W.notCls oe = true := by unfold PySem.W.notCls; rw [show oe.data = .fields vs from hv] <;> rfl
  cases d with
  | none => exact ⟨none, ⟨at1, c.z.1, no, by rw [c.z.2.1]; trivial⟩, fun _ => rfl⟩
  | some dd =>
    obtain ⟨fs, e⟩ := hd dd rfl
    obtain ⟨mA, ns, _⟩ := (I.hok dd _ e : ObjOk X.prog X.w H s.heap dd (.xd fs))
    obtain ⟨od, ho, _⟩ := lookIn_ns ns
    exact ⟨some od, ⟨at1, c.z.1, no, by rw [c.z.2.1]; exact ho⟩, fun z => nomatch z⟩
/-- isinstance(e, C) of the handled error -/
def rIsC (K : PySem.W.Frag) (a : Addr) (cls : Value) (d : Option Addr) : List V → Hp → VK → Prop := fun xs H Q => ∃ (D : Addr) (c : V) (cv : Value) (b : Bool), xs = [.ref a, c] ∧ cls = .ref D ∧ L2.ExcC K D ∧ DxOk d H ∧ (∀ u, RelV c u → u = cv) ∧ PySem.W.kitOne K (.ref D) cv = some b ∧ Q (.bl b) H
theorem call_isC (c : Cau X a oe cls d) : CallR X (.builtin "isinstance") (rIsC X.K a cls d) := by
  rintro pins s σ H xs us Q I r ⟨D, cv, u0, b, rfl, ec, ex, hd, hcv, hk, q⟩
  obtain ⟨od, at1, _⟩ := inst_at c I ec hd
  match r with
  | .cons rx (.cons rt .nil) =>
    cases rx
    cases hcv _ rt
    have cl : (PySem.W.clsIn X.K D).isSome = true := by
      obtain ⟨cd, hc, _⟩ := PySem.W.any_some ex.hd
      rw [hc]; rfl
    exact PySem.W.kia_one (PySem.W.kitx_exc cl ex.hg ex.hk ex.hs ex.ha ex.hn ex.ht ex.hm) I.kIn at1 hk (fun z => nomatch z) fun tk => ⟨.bl b, H, I.kept (t' := tk) fun _ _ z => z, rfl, q⟩
/-- e.n of the handled error -/
def tFldC (K : PySem.W.Frag) (a : Addr) (cls : Value) (d : Option Addr) (n : Str) (te : TE) : TE := fun σ H Q => te σ H fun x H1 => x = .ref a ∧ ∃ (D dd : Addr) (fs : List (Str × V)) (v : V), cls = .ref D ∧ XfC K D ∧ PySem.W.findIn K (.ref D) n = some none ∧ d = some dd ∧ H1 dd = some (.xd fs) ∧ fs.lookup n = some v ∧ Q v H1
theorem pe_fldC (c : Cau X a oe cls d) (he : PE X e te) (hb : attributeBase e n X.env (eval e X.env) = eval e X.env := by rfl) : PE X (.Attribute e n pos) (tFldC X.K a cls d n te) where
  run pins s σ H Q I h := by
    refine attr_of hb (thn (he.run pins s σ H _ I h) fun u s1 got => ?_)
    obtain ⟨x, H1, J, rx, rfl, D, dd, fs, v, rfl, T, no, rfl, e, l, q⟩ := got
    cases rx
    obtain ⟨mA, ns, rel⟩ := (J.hok dd _ e : ObjOk X.prog X.w H1 s1.heap dd (.xd fs))
    obtain ⟨od, ho, look⟩ := lookIn_ns ns
    obtain ⟨u, hu, ru⟩ := RelO.some_of (v := v) (o := mA n) (by rw [← l]; exact rel n)
    obtain ⟨_, vs, hv, _⟩ := c.hot
    have at1 : PySem.W.InstAt s1.heap a oe D (some od) := ⟨(J.pin (a, oe) (List.mem_append_left _ c.inn)).1, c.z.1, by unfold PySem.W.notCls; rw [show oe.data = .fields vs from hv] <;> rfl, by rw [c.z.2.1]; exact ho⟩
    exact HandSPX.exc_get J.kIn at1 T.ga T.gg T.exC (PySem.W.findObj_own T.hdC no rfl (by rw [look, hu])) (handed_of ru) ⟨v, H1, J.tok _, ru, q⟩
end
theorem units_of {k : Nat} {A : Around} (r : RoomH k A) : A.units + 64 < cLine := by have := r.un; omega
theorem takes0N {X : Cx} : L2N.Takes X (fun _ _ _ _ => False) := fun _ _ x => by
  obtain ⟨_, _, _, _, _, _, _, _, _, _, _, _, _, _, _, _, q⟩ := x
  exact q.elim
/-! ### raising -/
section
variable {X : Cx} {C : Addr} {x : Str} {p p1 p2 pos : Pos} {e : Expr} {es : List Expr} {te : TE} {ta : TA}
/-- X(e), X an own class without __init__ -/
theorem pmk1 {bmB : List Value} {B newId initId : String} (F : ExcBaseFacts B newId initId bmB) (q : PySem.W.excIn X.K C bmB newId = true) (gC : X.mg x = some (.ref C)) (kC : PySem.W.keepIn X.K (.ref C) = true) (r : Raises X (.ref C)) (hg : Gl X x) (he : PE X e te)
    (hdb : (x == ("__debug__" : Str)) = false := by decide) (hs : starEach [e] X.env = (false, eval e X.env) :: starEach [] X.env := by rfl) :
    L2N.PMk X (.Call (.Name x p) [e] [] pos) (fun σ H Q => te σ H fun v H1 => ∃ u, [v] = [u] ∧ Q (.ref C) none H1) := fun pins s σ H Q I h =>
  wpAny_Call_Name_kw (ld_glob I hg gC (PySem.W.callWith_K (h₀ := X.base) I.ok.mod.kin kC (thn ((pa_cons he pa_nil (hs := hs)).run pos pins s σ H (fun vs H1 => ∃ u, vs = [u] ∧ Q (.ref C) none H1) I h) fun us s1 got => by
    obtain ⟨vs, H1, J, r1, u, rfl, q1⟩ := got
    obtain ⟨bm, N, nm, qn, bs, hdct, sn, sub, ab, col, dd, k0, k1, k2, k3, k5, mN, hC, hN, hni, T⟩ := exc_obj J.kIn q
    refine ⟨J.kIn, wpAny_call_exc_subT F T hC hN hni (fun h' a made => L2N.mk_of J made r q1 (J.hok.gone made.new)) ?_⟩
    show us.length ≤ sizeLine
    rw [← r1.length]
    exact (by decide : 1 ≤ sizeLine)) hs (by rfl)) hdb)
end
end Q

/-! Errors with an __init__ of their own: made, with the text that they are made of; a list in an f-string. -/
namespace Q
open PySem PySem.Spec PyProof.Rows L2 HotX L2H
section
variable {prog : Program} {w : World} {A : Around} {E : Value → Shared → Prop} {s : Shared}
theorem list_text_len (ts : List Str) : (listText ts).length ≤ (ts.map (·.length)).sum + 2 * ts.length + 2 := by
  have h := textFrom_len_le ts 0 "["
  have e : (listText ts).length = (textFrom 0 "[" ts).length + 1 := by unfold listText; rw [strLen_append]; rfl
  have e1 : ((("[" : String) : Str)).length = 1 := rfl
  omega
/-- list.__repr__, whatever is being shown around it: some text that is not long -/
theorem list_repr_some {a : Addr} {o : Obj} {items : Array Value} {n : Nat} {ts : List Str} {Q : Value → Shared → Prop} (ha : s.heap.get? a = some o) (hc : o.cls = .type "list") (hd : o.data = .seq items n) (hlen : ts.length = items.size)
    (hT : ∀ (i : Nat) (x : Value), items[i]? = some x → ∃ t, ts[i]? = some t ∧ ReprIs prog w x t) (hsz : (listText ts).length ≤ sizeLine)
    (h : ∀ (m : Str) (h' : Heap) (u tk : Tok), m.length ≤ (listText ts).length + 5 → (∀ b o, s.heap.get? b = some o → h'.get? b = some o) → Q (.str m u) { s with heap := h', toks := tk }) : wpAny (model prog w) A (call (.builtin "list.__repr__") [.ref a]) Q E s := by
  refine wpAny_call (codeAny_call_builtin F.slot_list_repr.plain F.entry_list_repr (F.slot_list_repr.check _ _ _ _ _ _ _ _ ⟨o, ha, hc⟩ (F.args_list_repr_1 _) ?_))
  show wpAny _ _ (Builtin.listReprAt 0 ⟨[.ref a], []⟩) _ _ s
  unfold Builtin.listReprAt
  refine wpAny_bind (wpAny_of_eq (a := ((Value.ref a : Value), ([] : List Value))) (by first | rfl | (simp only [slotArgs]; rfl)) ?_)
  refine wpAny_bind (wpAny_listItems ha hd ?_)
  by_cases none_there : items.isEmpty = true
  · rw [if_pos none_there]
    refine wpAny_bind (wpAny_rule (wpAny_bind (wpAny_mkStr (wpAny_pure ?_) (by decide +kernel))))
    exact h "[]" s.heap _ _ (Nat.le_trans (by decide +kernel : ((("[]" : String) : Str)).length ≤ 5) (Nat.le_add_left _ _)) fun _ _ e => e
  · rw [if_neg none_there]
    refine wpAny_bind (wpAny_stack_any fun st => ?_)
    dsimp only
    split
    · refine wpAny_bind (wpAny_rule (wpAny_bind (wpAny_mkStr (wpAny_pure ?_) (by decide +kernel))))
      exact h "[...]" s.heap _ _ (Nat.le_trans (by decide +kernel : ((("[...]" : String) : Str)).length ≤ 5) (Nat.le_add_left _ _)) fun _ _ e => e
    · refine wpAny_bind (m := newList []) ( wpAny_newObj_type (wpAny_pure ⟨F.quiet_list_repr_loop _, ?_⟩))
      exact codeAny_list_repr_start (P := s.heap.objs.size) (Nat.ne_of_lt (Heap.lt_size ha)) hlen hT (Heap.get?_push_of_some _ ha) hd (Heap.get?_push_size _ rfl) (fun h' u tk k => h _ h' u tk (Nat.le_add_right _ _) fun b o e => k b o (Nat.ne_of_lt (Heap.lt_size e)) (Heap.get?_push_of_some _ e)) (by omega)
end
section
variable {X : Cx} {C L f : Addr} {x : Str} {p p1 p2 p3 pos apos : Pos} {e o : Expr} {es : List Expr} {te to : TE} {ta : TA} {CX : CXT} {k : Nat} {fd : FuncData} {ps : List Str} {sp : Sp} {mc : Value}
/-- {xs}, xs a list of small numbers: some text -/
def tFmtL (K : PySem.W.Frag) (te : TE) : TE := fun σ H Q => te σ H fun v H1 => ∃ (a : Addr) (ns : List Int), v = .ref a ∧ SqL K H1 a (ns.map V.int) ∧ ns.length ≤ 100 ∧ (∀ n ∈ ns, n.natAbs < 10 ^ 6) ∧ ∀ m : Str, m.length ≤ 2000 → Q (.str m) H1
theorem repr_ints {prog : Program} {w : World} : ∀ {ns : List Int} {us : List Value}, Vals (ns.map V.int) us → (∀ n ∈ ns, n.natAbs < 10 ^ 6) → ∀ (i : Nat) (v : Value), us[i]? = some v → ∃ t, (ns.map fun n => Str.ofString (toString n))[i]? = some t ∧ ReprIs prog w v t
  | [], _, .nil, _ => fun i v e => by simp at e
  | n :: ns, _, .cons r rs, h => fun i v e => by
    cases i with
    | zero =>
      obtain ⟨t, rfl⟩ := r
      cases e
      have hn := h n List.mem_cons_self
      refine ⟨_, rfl, ReprIs.int t ?_⟩
      by_cases h0 : n.natAbs = 0
      · rw [h0]; decide
      · exact (Nat.log2_lt h0).mpr (Nat.lt_trans hn (Nat.lt_of_lt_of_le (by decide : 10 ^ 6 < 2 ^ 20) (Nat.pow_le_pow_right (by decide) (by decide))))
    | succ i => exact repr_ints rs (fun n hn => h n (List.mem_cons_of_mem _ hn)) i v e
theorem texts_small {ns : List Int} (h : ∀ n ∈ ns, n.natAbs < 10 ^ 6) : ((ns.map fun n => Str.ofString (toString n)).map (·.length)).sum ≤ 7 * ns.length := by
  induction ns with
  | nil => exact Nat.le_refl _
  | cons n ns ih =>
    have h1 : (Str.ofString (toString n)).length ≤ 7 := by rw [PySem.ofString_length]; exact int_text_length_le10 (k := 6) (by decide) (h n List.mem_cons_self)
    have h2 := ih fun m hm => h m (List.mem_cons_of_mem _ hm)
    simp only [List.map_cons, List.sum_cons, List.length_cons]
    omega
theorem pe_fmtL (hu : X.A.units + 2 < cLine) (he : PE X e te) : PE X (.FormattedValue e (-1) none pos) (tFmtL X.K te) where
  run pins s σ H Q I h := by
    refine wpAny_FormattedValue_plain (thn (he.run pins s σ H _ I h) fun v s1 got => ?_)
    obtain ⟨_, H1, J, r, a, ns, rfl, hq, hl, hn, q⟩ := got
    cases r
    obtain ⟨its, rv, pl, _⟩ := J.list hq
    obtain ⟨o, ho, hc, n, hd⟩ := pl.isList
    have len := list_text_len (ns.map fun n => Str.ofString (toString n))
    have sm := texts_small hn
    rw [List.length_map] at len
    have many := rv.length
    rw [List.length_map] at many
    have line : 2000 ≤ sizeLine := by decide
    refine wpAny_formatField_slot (fun _ _ => nofun) hu ⟨o, ho, hc⟩ F.slot_list_format F.slot_list_str F.slot_list_repr.toG (list_repr_some (s := { s1 with toks := s1.toks + 1 }) (ts := ns.map fun n => Str.ofString (toString n)) ho hc hd (by rw [List.length_map, many]; simp) (fun i y e => repr_ints rv hn i y (by simpa using e)) (by omega) fun m h' u tk hm keep => ⟨m, u, rfl, .str m, H1, J.kept (t' := tk) keep, ⟨u, rfl⟩, q m (by omega)⟩)
/-- L.__init__(self, ..), L an own class whose __init__ is ValueError's -/
theorem pe_binit {pl : Sem Bool} (hg : Gl X x) (hm : X.mg x = some (.ref L)) (rd : ClX.CRead X.K L mc) (at_ : PySem.W.findCls X.K (.ref L) mc "__init__" = some (.val (.builtin "ValueError.__init__"))) (ha : PA X (e :: es) ta) (hdb : (x == ("__debug__" : Str)) = false := by decide)
    (form : eval (.Call (.Attribute (.Name x p1) "__init__" p2) (e :: es) [] pos) X.env = (do
      let ov ← eval (.Name x p1) X.env
      standAt p2.atName
      let (f, first) ← holding [ov] (getMethod ov "__init__" pl)
      callWith pos f first (backTo pos (starEach (e :: es) X.env)) (backToKw pos (keywordEach [] X.env))) := by rfl)
    (he : starEach (e :: es) X.env = (false, eval e X.env) :: starEach es X.env := by rfl) (hpl : (backTo pos (starEach es X.env)).any (·.1) = false := by rfl) :
    PE X (.Call (.Attribute (.Name x p1) "__init__" p2) (e :: es) [] pos) (tVeI X.K ta) where
  run pins s σ H Q I h := by
    have call : ∀ s1, Inv X pins σ H s1 → wpAny (model X.prog X.w) X.A (callWith pos (Value.builtin "ValueError.__init__") [] (backTo pos (starEach (e :: es) X.env)) []) (EP X pins σ Q) X.xe s1 := fun s1 I1 => by
      refine PyProof.Rows.callWith_method1 (thn (ha.run pos pins s1 σ H _ I1 h) fun us s2 got => ?_) he hpl
      obtain ⟨vs, H2, J, r, a, D, ws, rfl, hl, T, ea, q⟩ := got
      match us, r with
      | _ :: ur, .cons ra rw' =>
        cases ra
        exact oinit_ok T J ea (by rw [← Paired.length rw', sizeLine_eq]; omega) fun s3 J3 => ⟨.non, H2, J3, rfl, q⟩
    exact PySem.W.methodCall_KW (ld_glob I hg hm (PySem.W.method_cls I.kIn rd.ga (PySem.W.cls_value I.kIn rd.rd at_ rfl (call _ (I.tok _)))) hdb) form
/-- C(e, ..) by C's own __init__, for L2N.ps_raise -/
theorem pmk_oexN (T : OexC X.K C) (iC : PySem.W.findIn X.K (.ref C) "__init__" = some (some (.ref f))) (tI : PySem.W.typeIn X.K (.ref f) = some (.type "function")) (F1 : FnOk X.prog X.w X.K X.mg X.base CX0 k f fd ps sp) (hr : Room (k + 1) X.A) (hb : Binds X.K fd ps [])
    (hg : Gl X x) (hm : X.mg x = some (.ref C)) (ha : PA X (e :: es) ta) (hdb : (x == ("__debug__" : Str)) = false := by decide) (he : starEach (e :: es) X.env = (false, eval e X.env) :: starEach es X.env := by rfl) (hpl : (backTo pos (starEach es X.env)).any (·.1) = false := by rfl) :
    L2N.PMk X (.Call (.Name x p) (e :: es) [] pos) (tMkO C sp [] ta) := fun pins s σ H Q I h => by
  obtain ⟨nm, q, N, bs, bm, sn, sub, ab, col, dd, k0, k1, k2, k3, k5, hC, hbm⟩ := T.cls
  refine wpAny_Call_Name_kw (ld_glob I hg hm (PySem.W.callWith_K (h₀ := X.base) I.ok.mod.kin T.kC (thn (ha.run pos pins s σ H _ I h) fun us s1 got => ?_) he hpl) hdb)
  obtain ⟨vs, H1, J, r, few, q1⟩ := got
  refine ⟨J.kIn, ?_⟩
  obtain ⟨hp, g, dr, tk, os⟩ := s1
  show wpAny _ _ (call (.ref C) us) _ _ _
  -- the tuple of the arguments, and the error, laid one behind the other
  have here : ∀ b o, hp.get? b = some o → ((hp.push (PySem.W.kdv_tup us)).push (PySem.HandSPX.excO C hp.objs.size)).get? b = some o := fun b o z => Heap.get?_push_of_some _ (Heap.get?_push_of_some _ z)
  have laid : ((hp.push (PySem.W.kdv_tup us)).push (PySem.HandSPX.excO C hp.objs.size)).get? (hp.objs.size + 1) = some (PySem.HandSPX.excO C hp.objs.size) := by heap_get
  have J2 := J.laid (t' := tk) (a := hp.objs.size + 1) (o := exo (hp.objs.size + 1) C none) here (Nat.le_succ _) (exo_ok laid)
  have want := q1 (hp.objs.size + 1) (J.hok.fresh (Nat.le_succ _))
  rw [List.append_nil] at want
  have r2 : Vals (V.ref (hp.objs.size + 1) :: vs) (Value.ref (hp.objs.size + 1) :: us) := .cons rfl r
  have bound := hb ⟨_, g, dr, tk, os⟩ (Value.ref (hp.objs.size + 1) :: us) J2.kIn (by rw [List.append_nil, ← r2.length]; exact F1.len _ _ _ _ want)
  rw [List.append_nil] at bound
  have ran := F1.run _ X.stack _ _ ⟨Value.ref (hp.objs.size + 1) :: us, []⟩ _ _ _ (fun _ _ _ => False) (hr.make C us []) (J2.env0.make C us []) bound r2 want
  refine wpAny_call (PySem.HandSPX.call_own F.excBase_ValueError (fun Y => PySem.HandSPX.refsVE_contains Y bm hbm) (J.kIn _ _ hC) (PySem.W.looks_findIn J.kIn iC) (fun self => PySem.W.bind_fn J.kIn self tI) (by rw [← Paired.length r, sizeLine_eq]; omega) (codeAny_mono ran fun res s' post => ?_))
  match res, post with
  | .error _, z => exact z.elim
  | .ok .next, z => exact z.elim
  | .ok .brk, z => exact z.elim
  | .ok .cont, z => exact z.elim
  | .ok (.ret u), ⟨v, H2, os2, bare, un, hok, rv, ev, d, fs, ea, ed, hd1, q2⟩ =>
    subst ev
    obtain ⟨h2, g2, d2, t2, os'⟩ := s'
    obtain ⟨t0, G, J3, kG, ge, hoe, na⟩ := mk_end0 (d2 := d2) (t2 := t2) J (Nat.le_succ _) here un hok os2 bare ea ed hd1
    exact ⟨rv, hp.objs.size + 1, _, _, ⟨G, g2, d2, t2, os'⟩, _, .ref C, some d, rfl, J3, kG, ge, hoe, ⟨rfl, rfl, fun vs hv => by cases hv; rfl⟩, rfl, rfl, na, rfl, bare, raises_own T.exC T.tyC, q2⟩
/-- C(e, ..) that may raise, the slots told to who wishes -/
theorem pe_makeS {E : L2.St → XK} (M : Mk X.K C f) (F : FnOk X.prog X.w X.K X.mg X.base CX k f fd ps sp) (hr : Room (k + 1) X.A) (hg : Gl X x) (hm : X.mg x = some (.ref C)) (hb : Binds X.K fd ps []) (hx : ∀ σ, L2.PassesAt CX X σ (E σ)) (ha : PA X (e :: es) ta) (hdb : (x == ("__debug__" : Str)) = false := by decide)
    (he : starEach (e :: es) X.env = (false, eval e X.env) :: starEach es X.env := by rfl) (hpl : (backTo pos (starEach es X.env)).any (·.1) = false := by rfl) :
    PE X (.Call (.Name x p) (e :: es) [] pos) (fun σ => tMake C sp [] (E σ) ta σ) where
  run pins s σ H Q I h := by
    refine wpAny_Call_Name_kw (ld_glob I hg hm (PySem.W.callWith_K (h₀ := X.base) I.ok.mod.kin M.kp (thn (ha.run pos pins s σ H _ I h) fun us s1 got => ?_) he hpl) hdb)
    obtain ⟨vs, H1, J, r, q⟩ := got
    show _ ∧ wpAny _ _ (call (.ref C) us) _ _ _
    have want := q (s1.heap.objs.size + 1) s1.heap.objs.size (J.hok.fresh (Nat.le_succ _)) (J.hok.fresh (Nat.le_refl _)) (Nat.ne_of_lt (Nat.lt_succ_self _))
    rw [List.append_nil] at want
    have J2 := Inv.made (C := C) J
    have r2 : Vals (V.ref (s1.heap.objs.size + 1) :: vs) (Value.ref (s1.heap.objs.size + 1) :: us) := .cons rfl r
    have bound := hb _ (Value.ref (s1.heap.objs.size + 1) :: us) J2.kIn (by rw [List.append_nil, ← r2.length]; exact F.len _ _ _ _ want)
    rw [List.append_nil] at bound
    refine ⟨J.kIn, wpAny_call (make_map (f := f) J.kIn M.makes M.init (beq_iff_eq.mp M.fn) (codeAny_mono (F.run _ X.stack _ _ ⟨Value.ref (s1.heap.objs.size + 1) :: us, []⟩ _ _ _ (E σ) (hr.make C us []) (J2.env0.make C us []) bound r2 want) fun res s' post => ?_))⟩
    match res, post with
    | .error z, c => exact hx σ pins _ _ z s' J2 c
    | .ok .next, z => exact z.elim
    | .ok .brk, z => exact z.elim
    | .ok .cont, z => exact z.elim
    | .ok (.ret u), c =>
      obtain ⟨v, H', J3, rv, ev, q3⟩ := J2.after c
      subst ev
      exact ⟨rv, .ref (s1.heap.objs.size + 1), H', J3, rfl, q3⟩
end
end Q

/-! Errors in worlds: raised, looked at where they are handled. -/
namespace Q
open PySem PySem.Spec PyProof.Rows L2 HotX L2H
section
variable {F : Fr} {K : PySem.W.Frag} {σ : L2.St} {W W1 : Wd F} {ta tb tc te tl : TE} {tt tu : TT} {α β γ δ : Type} {r : Rp α} {s : Rp β} {t : Rp γ} {q : Rp δ} {D : Ends} {tz tx ty : TS}
/-! ### where an error is handled -/
theorem DxOk.up {d : Option Addr} {G H : Hp} (e : Ex G H) (h : DxOk d G) : DxOk d H := fun dd z => (h dd z).elim fun fs k => ⟨fs, e _ _ k⟩
theorem ev_isC {a D C : Addr} {d : Option Addr} {cls : Value} {i : Nat} {b : Bool} (hi : σ[i]? = some (some (.ref a))) (ec : cls = .ref D) (ex : L2.ExcC K D) (hd : DxOk d W.G) (hk : PySem.W.kitOne K (.ref D) (.ref C) = some b) :
    EvR (tCB (rIsC K a cls d) (tCons (tVar i) (tCons (tC (.ref C)) tNil))) σ W rBool b := fun W1 l Q q => ⟨_, hi, D, .ref C, .ref C, b, rfl, ec, ex, (hd.up l.ex).up W1.gh, fun u h => h, hk, q _ W1 (Le.refl _) rfl⟩
theorem ev_isCb {a D : Addr} {n : String} {d : Option Addr} {cls : Value} {i : Nat} {b : Bool} (hi : σ[i]? = some (some (.ref a))) (ec : cls = .ref D) (ex : L2.ExcC K D) (hd : DxOk d W.G) (hk : PySem.W.kitOne K (.ref D) (.type n) = some b) :
    EvR (tCB (rIsC K a cls d) (tCons (tVar i) (tCons (tC (.ty n)) tNil))) σ W rBool b := fun W1 l Q q => ⟨_, hi, D, .ty n, .type n, b, rfl, ec, ex, (hd.up l.ex).up W1.gh, fun u h => h, hk, q _ W1 (Le.refl _) rfl⟩
theorem ev_fldC {a D dd : Addr} {cls : Value} {n : Str} {i : Nat} {fs : List (Str × V)} {v : V} {x : α} (hi : σ[i]? = some (some (.ref a))) (ec : cls = .ref D) (xf : XfC K D) (hn : PySem.W.findIn K (.ref D) n = some none) (hd : W.G dd = some (.xd fs)) (hl : fs.lookup n = some v) (hv : r.rel W.G v x) :
    EvR (tFldC K a cls (some dd) n (tVar i)) σ W r x := fun W1 l Q q => ⟨_, hi, rfl, D, dd, fs, v, ec, xf, hn, rfl, W1.gh _ _ (l.ex _ _ hd), hl, q v W1 (Le.refl _) (r.mono l.ex hv)⟩
/-- calls there -/
theorem ev_callH1 {pre : α → Prop} {f : α → β} {E : L2.St → XK} {x : α} (ha : EvR ta σ W r x) (hp : pre x) : EvR (tCallS (Fn1 r s pre f) E (tCons ta tNil)) σ W s (f x) := fun W1 l Q q =>
  ha W1 l _ fun v W2 l2 hv => ⟨W2.G, v, x, rfl, W2.gh, hv, hp, fun u W3 hu => q u (W2.back W3) (l2.trans (W2.back_le W3)) hu⟩
theorem ev_callH2 {pre : α → β → Prop} {f : α → β → γ} {E : L2.St → XK} {x : α} {y : β} (ha : EvR ta σ W r x) (hb : EvR tb σ W s y) (hp : pre x y) : EvR (tCallS (Fn2 r s t pre f) E (tCons ta (tCons tb tNil))) σ W t (f x y) := fun W1 l Q q =>
  ha W1 l _ fun v W2 l2 hv => hb W2 (l.trans l2) _ fun w W3 l3 hw => ⟨W3.G, v, w, x, y, rfl, W3.gh, r.mono l3.ex hv, hw, hp, fun u W4 hu => q u (W3.back W4) ((l2.trans l3).trans (W3.back_le W4)) hu⟩
theorem ev_callH3 {pre : α → β → γ → Prop} {f : α → β → γ → δ} {E : L2.St → XK} {x : α} {y : β} {z : γ} (ha : EvR ta σ W r x) (hb : EvR tb σ W s y) (hc : EvR tc σ W t z) (hp : pre x y z) : EvR (tCallS (Fn3 r s t q pre f) E (tCons ta (tCons tb (tCons tc tNil)))) σ W q (f x y z) := fun W1 l Q k =>
  ha W1 l _ fun v W2 l2 hv => hb W2 (l.trans l2) _ fun w W3 l3 hw => hc W3 ((l.trans l2).trans l3) _ fun u W4 l4 hu => ⟨W4.G, v, w, u, x, y, z, rfl, W4.gh, r.mono (l3.ex.trans l4.ex) hv, s.mono l4.ex hw, hu, hp, fun u W5 h5 => k u (W4.back W5) (((l2.trans l3).trans l4).trans (W4.back_le W5)) h5⟩
/-! ### of which of the law's six classes an error is -/
structure Kits (K : PySem.W.Frag) (D c1 c2 c3 c4 c5 c6 : Addr) (b1 b2 b3 b4 b5 b6 : Bool) : Prop where
  k1 : PySem.W.kitOne K (.ref D) (.ref c1) = some b1
  k2 : PySem.W.kitOne K (.ref D) (.ref c2) = some b2
  k3 : PySem.W.kitOne K (.ref D) (.ref c3) = some b3
  k4 : PySem.W.kitOne K (.ref D) (.ref c4) = some b4
  k5 : PySem.W.kitOne K (.ref D) (.ref c5) = some b5
  k6 : PySem.W.kitOne K (.ref D) (.ref c6) = some b6
  kv : PySem.W.kitOne K (.ref D) (.type "ValueError") = some true
  ec : L2.ExcC K D
abbrev isWords : List Str := ["net", "state", "deed", "cut", "plan", "text"]
def SpIs (K : PySem.W.Frag) (c1 c2 c3 c4 c5 c6 : Addr) : SpP := fun a cls d vs H Q _ => ∃ (G : Hp) (D : Addr) (w : Str) (b1 b2 b3 b4 b5 b6 : Bool), vs = [.ref a, .str w] ∧ Ex G H ∧ cls = .ref D ∧ DxOk d G ∧ Kits K D c1 c2 c3 c4 c5 c6 b1 b2 b3 b4 b5 b6 ∧
  ∀ W : Wd (pF G H), Q (.bl (decide ([b1, b2, b3, b4, b5, b6] = isWords.map fun z => decide (w = z)))) W.H
theorem ev_is {a D c1 c2 c3 c4 c5 c6 : Addr} {d : Option Addr} {cls : Value} {i : Nat} {w : Str} {b1 b2 b3 b4 b5 b6 : Bool} (hi : σ[i]? = some (some (.ref a))) (ec : cls = .ref D) (hd : DxOk d W.G) (hk : Kits K D c1 c2 c3 c4 c5 c6 b1 b2 b3 b4 b5 b6) (hw : EvR tb σ W rStr w) :
    EvR (tCallP a cls d (SpIs K c1 c2 c3 c4 c5 c6) (tCons (tVar i) (tCons tb tNil))) σ W rBool (decide ([b1, b2, b3, b4, b5, b6] = isWords.map fun z => decide (w = z))) := fun W1 l Q q =>
  ⟨_, hi, hw W1 l _ fun v W2 l2 hv => ⟨W2.G, D, w, b1, b2, b3, b4, b5, b6, by rw [show v = .str w from hv], W2.gh, ec, hd.up (l.trans l2).ex, hk, fun W3 => q _ (W2.back W3) (l2.trans (W2.back_le W3)) rfl⟩⟩
/-! ### raising without a dict -/
theorem s_raise1 {C : Addr} {E : XK} {P : α → Prop} (h : EvN te σ W r P) (k : ∀ W1 : Wd F, Le W W1 → E (.ref C) none W1.H) : te σ W.H fun v H1 => ∃ u, [v] = [u] ∧ E (.ref C) none H1 := h W (Le.refl _) _ fun v W1 x l _ _ => ⟨v, rfl, k W1 l⟩
/-! ### texts that nobody asks for -/
theorem ev_fmtS {x : Str} (h : EvR te σ W rStr x) (hz : x.length ≤ 1000) : EvN (tFmt te) σ W rStr (fun z => z.length ≤ 1000) := fun W1 l Q q => h W1 l _ fun v W2 l2 hv => .inl ⟨x, hv, Nat.le_trans hz (by decide), q _ W2 x l2 rfl hz⟩
theorem log_small {i : Int} (h : i.natAbs < 10 ^ 9) : i.natAbs.log2 < 1920 := by
  by_cases h0 : i.natAbs = 0
  · rw [h0]; decide
  · exact Nat.lt_trans ((Nat.log2_lt h0).mpr (Nat.lt_trans h (by decide : 10 ^ 9 < 2 ^ 30))) (by decide)
theorem ev_fmtI {x : Int} (h : EvR te σ W rInt x) (hz : x.natAbs < 10 ^ 9) : EvN (tFmt te) σ W rStr (fun z => z.length ≤ 1000) := fun W1 l Q q => h W1 l _ fun v W2 l2 hv => .inr ⟨x, hv, log_small hz, q _ W2 _ l2 rfl (Nat.le_trans (by
  show (Str.ofString (toString x)).length ≤ 10
  rw [PySem.ofString_length]; exact int_text_length_le10 (k := 9) (by decide) hz) (by decide))⟩
theorem ev_fmtL {xs : List Int} (h : EvR te σ W (rList rInt) xs) (hl : xs.length ≤ 100) (hn : ∀ n ∈ xs, n.natAbs < 10 ^ 6) : EvN (tFmtL K te) σ W rStr (fun z => z.length ≤ 2000) := fun W1 l Q q => h W1 l _ fun v W2 l2 hv => by
  obtain ⟨a, vs, rfl, h1, h2⟩ := hv
  cases All2.ints h2
  exact ⟨a, xs, rfl, sqL_of W2.gh h1, hl, hn, fun m hm => q _ W2 m l2 rfl hm⟩
theorem ev_strN {x : Str} (hz : x.length ≤ 1000) : EvN (tC (.str x)) σ W rStr (fun z => z.length ≤ 1000) := fun W1 l Q q => q _ W1 x (Le.refl _) rfl hz
/-- the parts of an f-string, each of at most so many signs -/
inductive EvJs (σ : L2.St) (W : Wd F) : List TE → Nat → Prop
  | nil : EvJs σ W [] 0
  | cons {te : TE} {ts : List TE} {n m : Nat} (h : EvN te σ W rStr (fun z => z.length ≤ n)) (r : EvJs σ W ts m) : EvJs σ W (te :: ts) (n + m)
theorem ev_js {ts : List TE} {n : Nat} (h : EvJs σ W ts n) : ∀ (acc : Str), acc.length + n ≤ 100000 → ∀ W1 : Wd F, Le W W1 → ∀ Q : Str → Hp → Prop, (∀ z (W2 : Wd F), Le W1 W2 → Q z W2.H) → tJs ts acc σ W1.H Q := by
  induction h with
  | nil => exact fun acc _ W1 l Q q => q acc W1 (Le.refl _)
  | cons h r ih =>
    intro acc ha W1 l Q q
    refine h W1 l _ fun v W2 x l2 hv hx => ⟨x, hv, ?_, ?_⟩
    · rw [strLen_append]; exact Nat.le_trans (show acc.length + x.length ≤ 100000 by omega) (by decide)
    · exact ih (acc ++ x) (by rw [strLen_append]; omega) W2 (l.trans l2) Q fun z W3 l3 => q z W3 (l2.trans l3)
theorem ev_joined {ts : List TE} {n : Nat} (h : EvJs σ W ts n) (hn : n ≤ 100000) : EvN (fun σ H Q => tJs ts Str.empty σ H fun out H1 => Q (.str out) H1) σ W rStr (fun _ => True) := fun W1 l Q q => ev_js h Str.empty (by show 0 + n ≤ _; omega) W1 l _ fun z W2 l2 => q _ W2 z l2 rfl trivial
/-! ### raising by the class's own __init__ -/
/-- behind such an __init__: a the error, d its dict -/
structure Mid (a d : Addr) (G H G' H' : Hp) : Prop where
  ex : Ex G G'
  gh : Ex G' H'
  kp : ∀ b, b ≠ a → b ≠ d → G b = none → H b ≠ none → G' b = none ∧ H' b = H b
  ga : G' a = none
  gd : G' d = none
  hd : H d = none
  ne : d ≠ a
theorem Mid.wd {W : Wd F} {a d : Addr} {o : HO} {G' H' : Hp} {fs : List (Str × V)} (m : Mid a d W.G (upd W.H a o) G' H') (ha : W.H a = none) : ∃ W' : Wd F, W'.G = upd G' d (.xd fs) ∧ W'.H = upd (L2.del H' a) d (.xd fs) ∧ Le W W' := by
  have hd : W.H d = none := by have := m.hd; rwa [upd_ne m.ne] at this
  have kp : ∀ b, W.G b = none → W.H b ≠ none → upd G' d (.xd fs) b = none ∧ upd (L2.del H' a) d (.xd fs) b = W.H b := fun b g n => by
    have ba : b ≠ a := fun z => n (z ▸ ha)
    have bd : b ≠ d := fun z => n (z ▸ hd)
    obtain ⟨h1, h2⟩ := m.kp b ba bd g (by rw [upd_ne ba]; exact n)
    exact ⟨(upd_ne bd).trans h1, (upd_ne bd).trans ((del_ne ba).trans (h2.trans (upd_ne ba)))⟩
  have ex : Ex W.G (upd G' d (.xd fs)) := m.ex.trans (Ex.new m.gd)
  refine ⟨⟨upd G' d (.xd fs), upd (L2.del H' a) d (.xd fs), fun b u e => ?_, W.gg.trans ex, fun b n g z => ?_, fun b n => ?_, ?_⟩, rfl, rfl, ex, fun b n g z => kp b g z⟩
  · by_cases bd : b = d
    · subst bd; rw [upd_same] at e ⊢; exact e
    · rw [upd_ne bd] at e ⊢
      rw [del_ne (ne_of_none e m.ga)]; exact m.gh b u e
  · obtain ⟨h1, h2⟩ := W.kp b n g z
    obtain ⟨h3, h4⟩ := kp b h1 (by rw [h2]; exact z)
    exact ⟨h3, h4.trans h2⟩
  · exact (kp b (W.mg b n) (F.has _ _ W.iv n)).1
  · exact F.st _ _ (fun b n => (kp b (W.mg b n) (F.has _ _ W.iv n)).2) W.iv
/-- what such an __init__ promises: x what is handed in, fs the dict -/
def SpXI {α : Type} (C : Addr) (Pre : Hp → List V → α → Prop) (Post : Hp → α → List (Str × V) → Prop) : Sp := fun vs H Q _ => ∃ (G : Hp) (a : Addr) (rest : List V) (x : α), vs = .ref a :: rest ∧ Ex G H ∧ G a = none ∧ H a = some (exo a C none) ∧ Pre G rest x ∧
  ∀ (G' H' : Hp) (d : Addr) (fs : List (Str × V)), Mid a d G H G' H' → H' a = some (exo a C (some d)) → H' d = some (exd d fs) → Post G' x fs → Q .non H'
/-- its arguments -/
def EvLP (ta : TA) (σ : L2.St) (W : Wd F) (Pre : Hp → List V → α → Prop) (x : α) : Prop := ∀ W1 : Wd F, Le W W1 → ∀ Q : List V → Hp → Prop, (∀ vs (W2 : Wd F), Le W1 W2 → vs.length ≤ 1000 → Pre W2.G vs x → Q vs W2.H) → ta σ W1.H Q
theorem s_raiseX {C : Addr} {E : XK} {t : TA} {Pre : Hp → List V → α → Prop} {Post : Hp → α → List (Str × V) → Prop} {x : α} (h : EvLP t σ W Pre x) (pm : ∀ {G G' : Hp} {fs}, Ex G G' → Post G x fs → Post G' x fs)
    (k : ∀ (W1 : Wd F) (d : Addr) (fs : List (Str × V)), Le W W1 → W1.G d = some (.xd fs) → Post W1.G x fs → E (.ref C) (some d) W1.H) : tMkO C (SpXI C Pre Post) [] t σ W.H fun cls d H' => E cls d H' := h W (Le.refl _) _ fun vs W2 l2 few pre => ⟨few, fun a ha => by
  rw [List.append_nil]
  refine ⟨W2.G, a, vs, x, rfl, W2.gh.trans (Ex.new ha), W2.g ha, upd_same, pre, fun G' H' d fs m ea ed post => ⟨rfl, d, fs, ea, ed, ?_, ?_⟩⟩
  · have := m.hd; rwa [upd_ne m.ne] at this
  · obtain ⟨W', e1, e2, l⟩ := m.wd ha (fs := fs)
    rw [← e2]
    exact k W' d fs (l2.trans l) (by rw [e1]; exact upd_same) (pm (by rw [e1]; exact Ex.new m.gd) post)⟩
/-- LightError.__init__(self, e) at the beginning of such an __init__ -/
theorem q_veinit {G H : Hp} {gh : Ex G H} {te : TE} {a C : Addr} {i : Nat} {α : Type} {r : Rp α} {P : α → Prop} {σ : L2.St} {D : Ends} {tz : TS} (hi : σ[i]? = some (some (.ref a))) (ga : G a = none) (ha : H a = some (exo a C none)) (T : OexC K C) (h : EvN te σ (Wd.in G H gh) r P)
    (k : ∀ W1 : Wd (pF G H), W1.H a = some (exo a C none) → W1.G a = none → tz D σ W1.H) : tSeq (tDrop (tVeI K (tCons (tVar i) (tCons te tNil)))) tz D σ H :=
  ⟨_, hi, h (Wd.in G H gh) (Le.refl _) _ fun v W1 x l _ _ => by
    obtain ⟨h1, h2⟩ := W1.kp a (fun z => z) ga (by rw [show (pF G H).H0 a = H a from rfl, ha]; exact fun z => nomatch z)
    exact ⟨a, C, [v], rfl, by simp, T, h2.trans ha, k W1 (h2.trans ha) h1⟩⟩
/-- self.f = e, the first field, and the second -/
theorem ost_first {G H : Hp} {σ : L2.St} {W : Wd (pF G H)} {te : TE} {a C : Addr} {i : Nat} {f : Str} {v : V} {D : Ends} (hi : σ[i]? = some (some (.ref a))) (ea : W.H a = some (exo a C none)) (T : OexC K C) (hn : PySem.W.findIn K (.ref C) f = some none) (h : ∀ Q : VK, Q v W.H → te σ W.H Q)
    (k : ∀ d, W.H d = none → d ≠ a → D.nx σ (upd (upd W.H d (exd d [(f, v)])) a (exo a C (some d)))) : tOst K f (tVar i) te D σ W.H := h _ ⟨_, hi, a, C, rfl, T, hn, .inl ⟨ea, k⟩⟩
end
theorem passE0At {X : Cx} {σ : L2.St} : L2.PassesAt CX0 X σ E0 := fun _ _ _ _ _ _ z => z.elim
theorem pe_fldE {X : Cx} {a : Addr} {oe : Obj} {cls : Value} {d : Option Addr} {n : Str} {pos : Pos} {e : Expr} {te : TE} (K : PySem.W.Frag) (he : PE X e te) (hb : attributeBase e n X.env (eval e X.env) = eval e X.env) (hK : X.K = K) (c : Cau X a oe cls d) : PE X (.Attribute e n pos) (tFldC K a cls d n te) := hK ▸ pe_fldC c he hb
end Q

/-! lambdas that are handed to a def: errors told as L2N tells them, a default, more arguments -/
namespace Q
open PySem PySem.Spec PyProof.Rows L2 LamX
/-- a lambda's scope: what is its own is none of the maker's names -/
structure LamT (N : List Str) (sc lam : Scope) : Prop where
  kind : lam.kind = .function
  co : lam.isCoroutine = false
  gen : lam.isGenerator = false
  cell : ∀ y ∈ lam.names, y.2 ≠ .cell
  own : ∀ y ∈ lam.names, y.2 = .local → y.1 ∉ N
  free : ∀ y ∈ lam.names, y.2 = .free → sc.names.lookup y.1 = some .cell ∨ sc.names.lookup y.1 = some .free
def lamTB (N : List Str) (sc lam : Scope) : Bool := decide (lam.kind = .function) && (!lam.isCoroutine && (!lam.isGenerator && lam.names.all fun y =>
  !decide (y.2 = .cell) && ((!decide (y.2 = .local) || !decide (y.1 ∈ N)) && (!decide (y.2 = .free) || (decide (sc.names.lookup y.1 = some .cell) || decide (sc.names.lookup y.1 = some .free))))))
theorem lamT_by {N : List Str} {sc lam : Scope} (h : lamTB N sc lam = true) : LamT N sc lam := by
  unfold lamTB at h
  simp only [Bool.and_eq_true, Bool.or_eq_true, Bool.not_eq_true', decide_eq_true_eq, decide_eq_false_iff_not, List.all_eq_true] at h
  obtain ⟨a, b, c, d⟩ := h
  exact { kind := a, co := b, gen := c, cell := fun y hy => (d y hy).1, own := fun y hy e => ((d y hy).2.1).resolve_left (fun z => z e), free := fun y hy e => ((d y hy).2.2).resolve_left (fun z => z e) }
section
variable {X : Cx} {pins : List (Addr × Obj)} {σ : L2.St} {H HZ : Hp} {s s1 : Shared} {lam : Scope}
theorem LamT.has (L : LamT X.N X.env.scope lam) (ok : X.Ok) : ∀ y ∈ lam.names, y.2 = .free → ∃ c, X.env.cells.lookup y.1 = some c := fun y hy e => ok.has _ (L.free y hy e)
/-- the context of such a lambda's body -/
def inLam (X : Cx) (A : Around) (outer : List Env) (s : Shared) (H : Hp) (E : XK) (lam : Scope) (f c : Addr) : Cx :=
  { prog := X.prog, w := X.w, K := X.K, mg := X.mg, base := X.base, A := A.deeper (lamEnv X lam s.heap.objs.size f c), N := X.N, s_0 := s, H_0 := H, env := lamEnv X lam s.heap.objs.size f c, outer := outer, stack := lamEnv X lam s.heap.objs.size f c :: outer, ex := [], fn := fun _ => false, calm := true, pn := [],
    xe := fun e s' => wpAny (model X.prog X.w) (A.deeper (lamEnv X lam s.heap.objs.size f c)) (leaving (lamEnv X lam s.heap.objs.size f c) e) (fun _ t => L2N.CX X.prog X.w outer H s E e t) (fun e' t => L2N.CX X.prog X.w outer H s E e' t) s' }
theorem lam_enter {A : Around} {outer : List Env} {E : XK} {f c' : Addr} {h₁ : Heap} {tk : Nat} {m : Str → Option Value} (I : Inv X pins σ H s) (L : LamT X.N X.env.scope lam) (e0 : Env0 X.prog X.w X.K X.mg X.base A outer s1 HZ) (quiet : A.handled = none)
    (un : Un (frs X.stack) [] H HZ s.heap s1.heap) (ns : h₁.Ns s1.heap.objs.size m) (kp : ∀ b o, s1.heap.get? b = some o → h₁.get? b = some o) :
    Inv (inLam X A outer s1 HZ E lam f c') [] σ HZ { s1 with heap := h₁, toks := tk } := by
  have mine : ∀ {y : Str} {c : Addr}, (cloFrom X.env.cells lam.names []).lookup y = some c → X.env.cells.lookup y = some c := fun {y c} e => by
    rcases cloFrom_mem (PySem.mem_of_lookup e) with z | ⟨z, ec⟩
    · exact absurd z List.not_mem_nil
    · obtain ⟨c1, z1⟩ := L.has I.ok (y, .free) z rfl
      have z1 : X.env.cells.lookup y = some c1 := z1
      have : c = c1 := by rw [ec, z1] <;> rfl
      rw [this]; exact z1
  have given : ∀ {y : Str}, lam.names.lookup y = some .free → ∃ c, (cloFrom X.env.cells lam.names []).lookup y = some c := fun {y} e => mem_lookup (cloFrom_has (cells := X.env.cells) (acc := []) (PySem.mem_of_lookup e : (y, NameKind.free) ∈ lam.names))
  have still : ∀ {c : Addr} {v : Option Value}, H c = none → s.heap.IsCell c v → h₁.IsCell c v := fun {c v} n z => by
    obtain ⟨o, ho, hd⟩ := z
    obtain ⟨sl, e⟩ := un.any ho n List.not_mem_nil
    exact ⟨_, kp _ _ e, hd⟩
  have none_ : ∀ {b : Addr}, ¬ b ∈ (inLam X A outer s1 HZ E lam f c').ex := fun {b} z => nomatch (show b ∈ ([] : List Addr) from z)
  have hok : (inLam X A outer s1 HZ E lam f c').Ok :=
    { mod := e0.mod, kind := L.kind, glob := rfl, blt := rfl, above := Nat.le_refl _,
      inj := fun y z c e1 e2 => I.ok.inj y z c (mine e1) (mine e2),
      has := fun y hy => by
        rcases (show lam.names.lookup y = some .cell ∨ lam.names.lookup y = some .free from hy) with z | z
        · exact absurd rfl (L.cell _ (PySem.mem_of_lookup z))
        · exact given z
      cab := fun y c z _ => nomatch (show false = true from z)
      hd := fun _ => quiet, frames := Around.frames_deeper e0.frames, stk := .inr ⟨rfl, rfl⟩, exf := fun b z => absurd z none_, bs := e0.bs, bsz := e0.bsz, noex := fun b _ _ => none_, exfs := fun b z => absurd z none_, funs := e0.funs, frf := e0.frf }
  exact
    { ok := hok, os := rfl, bare := e0.bare, base := Un.kept kp,
      loc := ⟨_, ns, fun i y v e1 e2 vis => by
        rcases (show Vis lam y from vis) with z | z | z
        · exact absurd (List.mem_of_getElem? e1) (L.own _ (PySem.mem_of_lookup z) rfl)
        · exact absurd rfl (L.cell _ (PySem.mem_of_lookup z))
        · obtain ⟨_, _, look⟩ := I.loc
          have out := L.free _ (PySem.mem_of_lookup z) rfl
          obtain ⟨u, rv, at_⟩ := look i y v e1 e2 (.inr out)
          obtain ⟨c2, e3⟩ := given z
          refine ⟨u, rv, .inr ⟨.inr z, c2, e3, ?_⟩⟩
          rcases at_ with ⟨k, _⟩ | ⟨_, c3, e4, ic⟩
          · have k : X.env.scope.names.lookup y = some .local := k
            rcases out with o | o <;> cases k.symm.trans o
          · cases (mine e3).symm.trans e4
            exact still (I.freeC y _ e4) ic⟩
      cell := fun y c e => (I.cell y c (mine e)).elim fun v z => ⟨v, still (I.freeC y c (mine e)) z⟩
      free := e0.hok.fresh (Nat.le_refl _)
      freeC := fun y c e => (I.cell y c (mine e)).elim fun v z => z.elim fun o ho => un.free c o ho.1 (I.freeC y c (mine e)) List.not_mem_nil
      pin := fun q z => nomatch (show q ∈ ([] : List (Addr × Obj)) from z)
      hok := e0.hok.kept kp, len := I.len }
/-- the function object of such a lambda -/
abbrev lamO (X : Cx) (params : Arguments) (body : Expr) (lam : Scope) (dV doc pm : Value) (c' : Addr) (ctv : Value) : Obj := PySem.W.kdv_obj "<lambda>" (X.env.qual ++ "<lambda>") params (.expr body) lam (cloFrom X.env.cells lam.names []) dV doc pm c' ctv
/-- what stood and was told of nowhere stands -/
def Stays (X : Cx) (H : Hp) (s s' : Shared) : Prop := ∀ b o, s.heap.get? b = some o → H b = none → b ∉ frs X.stack → s'.heap.get? b = some o
/-- x(), in the def that got the lambda -/
theorem pe_actN {CXg : CXT} {Eg : XK} {Ng : List Str} {qg : Str} {sg : Scope} {g f c' : Addr} {cdg dV doc pm ctv : Value} {params : Arguments} {body : Expr} {k i : Nat} {a : Str} {pn : List (Addr × Obj)} {xe : Value → Shared → Prop} {W : WX} {t : XK → TE} {p1 p2 : Pos} {binds : List (Str × Value)}
    (I : Inv X pins σ H s) (L : LamT X.N X.env.scope lam) (hf : s.heap.get? f = some (lamO X params body lam dV doc pm c' ctv)) (hfn : H f = none) (hfr : f ∉ frs X.stack)
    (hb : ∀ s' : Shared, Stays X H s s' → BindsTo s' (PySem.W.kdv_fn "<lambda>" (X.env.qual ++ "<lambda>") params (.expr body) lam (cloFrom X.env.cells lam.names []) dV doc pm (.ref c') ctv) ⟨[], []⟩ binds) (hloc : ∀ y ∈ binds, lam.names.lookup y.1 = some .local)
    (tk : L2N.Takes ((cxOf CXg X.prog X.w X.K X.mg X.base Ng qg sg g cdg X.A X.stack s H Eg).tr pn xe) W) (hr : Room (k + 1) (X.A.deeper (envOfC qg sg s.heap.objs.size g cdg)))
    (hbody : ∀ (A : Around) (outer : List Env) (s : Shared) (H : Hp) (E : XK), Room k (A.deeper (lamEnv X lam s.heap.objs.size f c')) → PE (inLam X A outer s H E lam f c') body (t E))
    (hN : Ng[i]? = some a) (hv : Vis sg a) (hd : (a == ("__debug__" : Str)) = false := by decide) (hcd : (a == ("__classdict__" : Str)) = false := by decide) :
    PE ((cxOf CXg X.prog X.w X.K X.mg X.base Ng qg sg g cdg X.A X.stack s H Eg).tr pn xe) (.Call (.Name a p1) [] [] p2)
      (fun σZ HZ Q => σZ[i]? = some (some (.ref f)) ∧ HZ c' = some (CodeO c' (X.env.qual ++ "<lambda>")) ∧ t (fun cls d H' => W cls d σZ H') σ HZ Q) := ⟨fun pinsZ sZ σZ HZ Q IZ want => by
  obtain ⟨slot, code, rest⟩ := want
  refine wpAny_Call_Name_kw (thn ((pe_var (pos := p1) (i := i) hN hv hd hcd).run pinsZ sZ σZ HZ (fun v H1 => v = .ref f ∧ H1 = HZ) IZ ⟨.ref f, slot, rfl, rfl⟩) ?_)
  rintro u s1 ⟨v, H1, J, ru, rfl, rfl⟩
  obtain rfl : u = Value.ref f := ru
  have stays : Stays X H s s1 := fun b o e n z => J.base.keep b o e n z (fun z => nomatch (show b ∈ ([] : List Addr) from z))
  have fAt := stays f _ hf hfn hfr
  obtain ⟨⟨oc, vs, t, co, cd, cn⟩, _, _⟩ := J.hok c' _ code
  refine PySem.W.callWith_F0 ⟨_, _, _, _, fAt⟩ (wpAny_call (codeAny_mono (R := CR (L2N.CX X.prog X.w) (envOfC qg sg s.heap.objs.size g cdg :: X.stack) X.prog X.w H1 s1 Q (fun cls d H' => W cls d σZ H')) ?run fun r s' got => ?_))
  case run =>
    refine PySem.W.kla_callFunE hr.depth fAt rfl L.co L.gen rfl ⟨c', oc, vs, t, rfl, co, cd, cn⟩ (hb s1 stays _ _ _ _ (wpAny_newFunctionEnv L.cell hloc (fun h₁ ns sb => ⟨J.nolimit.fresh _ sb, ?_⟩) L.kind))
    have kp : ∀ b o, s1.heap.get? b = some o → h₁.get? b = some o := fun b o e => sb.extBut b o (Nat.ne_of_lt (Heap.lt_size e)) (Heap.get?_push_of_some _ e)
    have I2 : Inv (inLam X (X.A.deeper (envOfC qg sg s.heap.objs.size g cdg)) (envOfC qg sg s.heap.objs.size g cdg :: X.stack) s1 H1 (fun cls d H' => W cls d σZ H') lam f c') [] σ H1 { s1 with heap := h₁, toks := s1.toks + binds.length } := lam_enter I L J.env0 hr.hd J.base ns kp
    refine PySem.W.kla_codeExpr (wpAny_mono ((hbody _ _ s1 H1 _ (hr.deeper _)).run [] _ _ H1 Q I2 rest) (fun w' s' z => ?_) fun _ _ z => z)
    obtain ⟨x, H', I3, rw', q⟩ := z
    exact ⟨x, H', I3.os, I3.bare, I3.base, I3.hok, rw', q⟩
  match r, got with
  | .error e, z => exact L2N.passAt tk σZ pinsZ H1 s1 e s' J z
  | .ok (.ret u), z => exact J.after z
  | .ok .next, z => exact z.elim
  | .ok .brk, z => exact z.elim
  | .ok .cont, z => exact z.elim⟩
end
theorem frs_more {e : Env} {l : List Env} {b : Addr} (h : b ∈ frs l) : b ∈ frs (e :: l) := by
  unfold frs at *
  rw [List.filterMap_cons]
  split
  · exact h
  · exact List.mem_cons_of_mem _ h
/-- what is pinned for a while -/
structure PinAt (X : Cx) (H : Hp) (s : Shared) (p : Addr × Obj) : Prop where
  at_ : s.heap.get? p.1 = some p.2
  off : H p.1 = none
  loc : p.1 ≠ X.env.locals
  fr : p.1 ∉ frs X.stack
  cell : ∀ v, p.2.data ≠ .cell v
/-- nothing turned, or the table at P has grown by a row, whose code object is new -/
def ExtP (P : Addr) (q : Str) (H H' : Hp) : Prop := H' = H ∨ ∃ (ps : Array Value) (c1 : Addr) (pos : Pos), H P = some (.tbl ps) ∧ H c1 = none ∧ H' = upd (upd H P (.tbl (ps ++ #[rawInt pos.line, rawInt pos.col, .ref c1]))) c1 (CodeO c1 q)
theorem ExtP.refl (P : Addr) (q : Str) (H : Hp) : ExtP P q H H := .inl rfl
theorem ExtP.keeps {P : Addr} {q : Str} {H H' : Hp} (e : ExtP P q H H') {b : Addr} {o : HO} (n : b ≠ P) (h : H b = some o) : H' b = some o := by
  rcases e with rfl | ⟨ps, c1, pos, h1, h2, rfl⟩
  · exact h
  · rw [upd_ne (ne_of_none h h2), upd_ne n]; exact h
theorem ExtP.n {P : Addr} {q : Str} {H H' : Hp} (e : ExtP P q H H') : ExtN H H' := fun b o h n => by
  rcases e with rfl | ⟨ps, c1, pos, h1, h2, rfl⟩
  · exact h
  · rw [upd_ne (ne_of_none h h2), upd_ne fun z => by subst z; exact n ps (Option.some.inj (h.symm.trans h1))]; exact h
/-- the lambda is made: f its function, c' its code; ps what must stay for its call -/
def MkLam (X : Cx) (P : Addr) (T : List (Addr × Str)) (params : Arguments) (body : Expr) (lam : Scope) (pos : Pos) : Prop :=
  ∀ (pins : List (Addr × Obj)) (s : Shared) (σ : L2.St) (H : Hp) (Q : Value → Shared → Prop), Inv X pins σ H s → Tabs T H →
    (∀ (f c' : Addr) (dV doc pm ctv : Value) (binds : List (Str × Value)) (ps : List (Addr × Obj)) (H1 : Hp) (s' : Shared), Inv X pins σ H1 s' → ExtP P (X.env.qual ++ "<lambda>") H H1 → Tabs T H1 → (∀ p ∈ (f, lamO X params body lam dV doc pm c' ctv) :: ps, PinAt X H1 s' p) →
      H1 c' = some (CodeO c' (X.env.qual ++ "<lambda>")) → (∀ y ∈ binds, lam.names.lookup y.1 = some .local) →
      (∀ s2 : Shared, (∀ p ∈ ps, s2.heap.get? p.1 = some p.2) → BindsTo s2 (PySem.W.kdv_fn "<lambda>" (X.env.qual ++ "<lambda>") params (.expr body) lam (cloFrom X.env.cells lam.names []) dV doc pm (.ref c') ctv) ⟨[], []⟩ binds) → Q (.ref f) s') →
    wpAny (model X.prog X.w) X.A (eval (.Lambda params body lam pos) X.env) Q X.xe s
/-- the def that calls what it got: a calls it; TT what it makes of the lambda's reading and of its other arguments -/
def GivesN (X : Cx) (k : Nat) (Ng : List Str) (x : Str) (sg : Scope) (g : Addr) (cdg : Value) (bg : List Stmt) (a : Str) (q : Str) (TT : (XK → Hp → VK → Prop) → List V → Hp → VK → Prop) : Prop :=
  ∀ (f c' : Addr) (s : Shared) (H : Hp) (vs : List V) (Q : VK) (tl : XK → Hp → VK → Prop), Room (k + 1) (X.A.deeper (envOfC x sg s.heap.objs.size g cdg)) →
    (∀ (W : WX) (pn : List (Addr × Obj)) (xe : Value → Shared → Prop) (p1 p2 : Pos), L2N.Takes ((cxOf C8.CX0 X.prog X.w X.K X.mg X.base Ng x sg g cdg X.A X.stack s H C8.E0).tr pn xe) W →
      PE ((cxOf C8.CX0 X.prog X.w X.K X.mg X.base Ng x sg g cdg X.A X.stack s H C8.E0).tr pn xe) (.Call (.Name a p1) [] [] p2) (fun σZ HZ Q => σZ[0]? = some (some (.ref f)) ∧ HZ c' = some (CodeO c' q) ∧ tl (fun cls d H' => W cls d σZ H') HZ Q)) →
    H c' = some (CodeO c' q) → TT tl vs H Q →
    ∃ t, PSs (cxOf C8.CX0 X.prog X.w X.K X.mg X.base Ng x sg g cdg X.A X.stack s H C8.E0).nox bg t ∧ t { nx := fun _ H' => Q .non H', rt := Q } (L2.start Ng (.ref f :: vs)) H
def tLamN (P : Addr) (T : List (Addr × Str)) (q : Str) (TT : (XK → Hp → VK → Prop) → List V → Hp → VK → Prop) (t : XK → TE) (ta : TA) : TE := fun σ H Q => Tabs T H ∧ ∀ (H1 : Hp) (c' : Addr), ExtP P q H H1 → Tabs T H1 → H1 c' = some (CodeO c' q) → ta σ H1 fun vs H2 => H2 c' = some (CodeO c' q) ∧ TT (fun E H' Q' => t E σ H' Q') vs H2 Q
section
variable {X : Cx}
/-- x(lambda: body, e ..) -/
theorem pe_lamcallN {P : Addr} {T : List (Addr × Str)} {TT : (XK → Hp → VK → Prop) → List V → Hp → VK → Prop} {x a : Str} {bs : List Str} {g : Addr} {k : Nat} {pg : Arguments} {bg : List Stmt} {sg : Scope} {dVg kVg docg pmg cdv ctg oc : Value} {an od : Option Addr} {osl : Array (Option Value)} {Ng : List Str}
    {params : Arguments} {body : Expr} {lam : Scope} {t : XK → TE} {ta : TA} {es : List Expr} {p lpos pos : Pos} (hg : Gl X x) (hm : X.mg x = some (.ref g)) (hk : PySem.W.keepIn X.K (.ref g) = true)
    (lk : X.K.lookup g = some ⟨oc, od, .func (PySem.W.fnOf x x pg bg sg dVg kVg docg pmg an cdv ctg), osl⟩) (hcg : PySem.W.codeIn X.K cdv x = true) (hb : L2.Binds X.K (PySem.W.fnOf x x pg bg sg dVg kVg docg pmg an cdv ctg) (a :: bs) []) (Sg : FnScope Ng (a :: bs) sg) (hNg : Ng[0]? = some a) (hva : Vis sg a)
    (hG : GivesN X k Ng x sg g cdv bg a (X.env.qual ++ "<lambda>") TT) (mk : MkLam X P T params body lam lpos) (ha : PA X es ta) (hl : ∀ (vs : List V) (H : Hp) (tl : XK → Hp → VK → Prop) (Q : VK), TT tl vs H Q → vs.length = bs.length) (hr : Room (k + 2) X.A) (L : LamT X.N X.env.scope lam)
    (hbody : ∀ (A : Around) (outer : List Env) (s : Shared) (H : Hp) (E : XK) (f c' : Addr), Room k (A.deeper (lamEnv X lam s.heap.objs.size f c')) → PE (inLam X A outer s H E lam f c') body (t E))
    (one : starEach (.Lambda params body lam lpos :: es) X.env = (false, eval (.Lambda params body lam lpos) X.env) :: starEach es X.env := by rfl) (pl : (backTo pos (starEach es X.env)).any (·.1) = false := by rfl)
    (hdb : (x == ("__debug__" : Str)) = false := by decide) (hd : (a == ("__debug__" : Str)) = false := by decide) (hcd : (a == ("__classdict__" : Str)) = false := by decide) :
    PE X (.Call (.Name x p) (.Lambda params body lam lpos :: es) [] pos) (tLamN P T (X.env.qual ++ "<lambda>") TT t ta) := ⟨fun pins s σ H Q I want => by
  obtain ⟨tabs, want⟩ := want
  refine wpAny_Call_Name_kw (ld_glob I hg hm (PySem.W.callWith_K (h₀ := X.base) I.ok.mod.kin hk ?_ one pl) hdb)
  refine Calls.spliced_cons (mk pins s σ H _ I tabs fun f c' dV doc pm' ctv binds ps H1 s1 I1 ext tabs1 held code local_ bind => ?_)
  have I2 : Inv X (((f, lamO X params body lam dV doc pm' c' ctv) :: ps) ++ pins) σ H1 s1 := ⟨I1.ok, I1.os, I1.bare, I1.base, I1.loc, I1.cell, I1.free, I1.freeC, fun q hq => by
    rcases List.mem_append.mp hq with z | z
    · exact I1.pin q (List.mem_append_left _ z)
    · rcases List.mem_append.mp z with z | z
      · have h := held q z
        exact ⟨h.at_, h.off, h.loc, fun y => h.fr (by rcases I1.ok.stk with e | ⟨e, _⟩ <;> rw [e] <;> first | exact y | exact frs_more y), h.cell⟩
      · exact I1.pin q (List.mem_append_right _ z), I1.hok, I1.len⟩
  refine wpAny_mono (ha.run pos _ s1 σ H1 _ I2 (want H1 c' ext tabs1 code)) (fun us s2 got => ?_) fun _ _ z => z
  obtain ⟨vs, H2, J, rv, code2, tt⟩ := got
  have pinned : ∀ q ∈ (f, lamO X params body lam dV doc pm' c' ctv) :: ps, s2.heap.get? q.1 = some q.2 ∧ H2 q.1 = none ∧ q.1 ∉ frs X.stack := fun q hq => by
    obtain ⟨h1, h2, h3, h4, _⟩ := J.pin q (List.mem_append_right _ (List.mem_append_left _ hq))
    exact ⟨h1, h2, fun z => (List.mem_cons.mp (J.stkSub _ z)).elim h3 h4⟩
  obtain ⟨fAt, fOff, fFr⟩ := pinned _ List.mem_cons_self
  have rv2 : Vals (V.ref f :: vs) (Value.ref f :: us) := .cons rfl rv
  have len : (V.ref f :: vs).length = (a :: bs).length := by rw [List.length_cons, List.length_cons, hl vs H2 _ Q tt]
  have bound := hb s2 (Value.ref f :: us) J.kIn (by rw [List.append_nil, ← rv2.length]; exact len)
  rw [List.append_nil] at bound
  have run : codeAny (model X.prog X.w) X.A (.call (.ref g) ⟨Value.ref f :: us, []⟩) (CR C8.CX0 X.stack X.prog X.w H2 s2 Q C8.E0) s2 :=
    run_ofS (N := Ng) (ps := a :: bs) lk hcg Sg hr J.env0 bound rv2 len fun hr' => by
      obtain ⟨t', ht', hq'⟩ := hG f c' s2 H2 vs Q (fun E H' Q' => t E σ H' Q') hr' (fun W pn xe p1 p2 tk => pe_actN (i := 0) J L fAt fOff fFr (fun s3 st => bind s3 fun q hq => let h := pinned q (List.mem_cons_of_mem _ hq); st _ _ h.1 h.2.1 h.2.2) local_ tk hr' (fun A outer s H E hr2 => hbody A outer s H E f c' hr2) hNg hva hd hcd) code2 tt
      exact ⟨t', ht'.nox, hq'⟩
  refine ⟨J.kIn, wpAny_call (codeAny_mono run fun r s3 z => ?_)⟩
  match r, z with
  | .error e, z => exact (show False from z).elim
  | .ok (.ret u), z =>
    obtain ⟨v, H3, J3, rv3, q3⟩ := J.after z
    exact ⟨v, H3, ⟨J3.ok, J3.os, J3.bare, J3.base, J3.loc, J3.cell, J3.free, J3.freeC, fun q hq => J3.pin q (by rcases List.mem_append.mp hq with y | y; exact List.mem_append_left _ y; exact List.mem_append_right _ (List.mem_append_right _ y)), J3.hok, J3.len⟩, rv3, q3⟩
  | .ok .next, z => exact z.elim
  | .ok .brk, z => exact z.elim
  | .ok .cont, z => exact z.elim⟩
theorem not_locals {pins : List (Addr × Obj)} {σ : L2.St} {H : Hp} {s : Shared} {f : Addr} {o : Obj} (I : Inv X pins σ H s) (h : s.heap.get? f = some o) (hd : ∀ es ep, o.data ≠ .dict es ep) : f ≠ X.env.locals := fun z => by
  obtain ⟨m, ⟨o', es, ep, e1, e2, _⟩, _⟩ := I.loc
  rw [← z, h] at e1
  cases e1
  exact hd _ _ e2
/-- a table grown by one row: what stays, what is told of the tables, what is free -/
theorem tab_grown {T : List (Addr × Str)} {P c' : Addr} {q : Str} {ps : Array Value} {pos : Pos} {H0 : Hp} (hu : ∀ p ∈ T, p.1 = P → p.2 = q) (tabs : Tabs T H0) (hP : H0 P = some (.tbl ps)) (ht : PySem.TriplesOk ps.toList) (ha : ∀ p' cv, codeAmong p' ps.toList = some cv → ∃ c0, cv = .ref c0 ∧ H0 c0 = some (CodeO c0 q)) (cOff : H0 c' = none) :
    ExtP P q H0 (upd (upd H0 P (.tbl (ps ++ #[rawInt pos.line, rawInt pos.col, .ref c']))) c' (CodeO c' q)) ∧ Tabs T (upd (upd H0 P (.tbl (ps ++ #[rawInt pos.line, rawInt pos.col, .ref c']))) c' (CodeO c' q)) ∧
      ∀ {b : Addr}, b ≠ c' → H0 b = none → upd (upd H0 P (.tbl (ps ++ #[rawInt pos.line, rawInt pos.col, .ref c']))) c' (CodeO c' q) b = none := by
  have ext : ExtP P q H0 (upd (upd H0 P (.tbl (ps ++ #[rawInt pos.line, rawInt pos.col, .ref c']))) c' (CodeO c' q)) := .inr ⟨ps, c', pos, hP, cOff, rfl⟩
  have Pc : P ≠ c' := ne_of_none hP cOff
  have list : (ps ++ #[rawInt pos.line, rawInt pos.col, .ref c']).toList = ps.toList ++ [rawInt pos.line, rawInt pos.col, .ref c'] := by simp
  have nt : ∀ {c0 : Addr} {r : Str}, H0 c0 = some (CodeO c0 r) → c0 ≠ P := fun {c0 r} e z => by
    rw [z, hP] at e
    exact codeO_ne ps (Option.some.inj e).symm
  refine ⟨ext, fun p hp => ?_, fun {b} ne e => (upd_ne ne).trans ((upd_ne (fun z => by rw [z, hP] at e; cases e)).trans e)⟩
  by_cases e : p.1 = P
  · rw [hu p hp e, e]
    refine ⟨_, (upd_ne Pc).trans upd_same, by rw [list]; exact PySem.TriplesOk_snoc _ _ _ _ ht, fun p' cv hcv => ?_⟩
    rw [list] at hcv
    rcases among_app _ ht hcv with z | z
    · obtain ⟨c0, z1, z2⟩ := ha p' cv z
      exact ⟨c0, z1, ext.keeps (nt z2) z2⟩
    · exact ⟨c', z, upd_same⟩
  · obtain ⟨ps', a1, a2, a3⟩ := tabs p hp
    refine ⟨ps', (upd_ne (ne_of_none a1 cOff)).trans ((upd_ne e).trans a1), a2, fun p' cv hcv => ?_⟩
    obtain ⟨c0, z1, z2⟩ := a3 p' cv hcv
    exact ⟨c0, z1, ext.keeps (nt z2) z2⟩
theorem mk_plain {T : List (Addr × Str)} {c P : Addr} {params : Arguments} {body : Expr} {lam : Scope} {pos : Pos} (TB : TabB X.base X.mg c P) (hcode : X.env.code = .ref c) (hm : (P, X.env.qual ++ "<lambda>") ∈ T) (hu : ∀ p ∈ T, p.1 = P → p.2 = X.env.qual ++ "<lambda>") (hdef : defaultsOf params X.env = ([], [])) (L : LamT X.N X.env.scope lam)
    (hbind : ∀ (q : Str) (cl : List (Str × Addr)) (pm cv ctv : Value), bindArgs (PySem.W.kla_fn "<lambda>" q params body lam cl pm cv ctv) ⟨[], []⟩ = pure []) : MkLam X P T params body lam pos := fun pins s σ H Q I tabs h => by
  obtain ⟨ps, hP, ht, ha⟩ := tabs _ hm
  have hP : H P = some (.tbl ps) := hP
  have at_P : s.heap.get? P = some (PySem.W.tabObj ps) := I.hok P _ hP
  have clos : closureFor lam X.env = pure (cloFrom X.env.cells lam.names []) := closure_ok (L.has I.ok)
  have nofr : ∀ {b : Addr}, s.heap.objs.size ≤ b → b ∉ frs X.stack := fun {b} hb z => (List.mem_cons.mp (I.stkSub _ z)).elim (fun e => absurd (e ▸ I.lt : b < s.heap.objs.size) (Nat.not_lt.mpr hb)) (fun e => I.nofs hb e)
  refine PySem.W.kla_eval hdef ?_
  cases among : codeAmong pos ps.toList with
  | some cv =>
    obtain ⟨c', rfl, hco⟩ := ha pos cv among
    refine PySem.W.kla_makeFunctionHit (mg := X.mg) (c := c) (P := P) (ps := ps) clos I.ok.glob (I.mod.glob.keeps I.bk) hcode (TB.code.keeps I.bk) at_P ht among (TB.bm.keeps I.bk) fun ctv h' tk keep size => ?_
    have J : Inv X pins σ H { s with heap := h'.push (lamO X params body lam .none .none ((X.mg "__name__").getD .none) c' ctv), toks := tk } := I.kept fun b o e => Heap.get?_push_of_some _ (keep b o e)
    have fAt : (h'.push (lamO X params body lam .none .none ((X.mg "__name__").getD .none) c' ctv)).get? h'.objs.size = some (lamO X params body lam .none .none ((X.mg "__name__").getD .none) c' ctv) := Heap.get?_push_size _ rfl
    refine h h'.objs.size c' .none .none ((X.mg "__name__").getD .none) ctv [] [] H _ J (ExtP.refl P _ H) tabs (fun p hp => ?_) hco (fun y hy => nomatch hy) fun s2 _ => .of_eq (hbind _ _ _ _ _)
    rw [List.mem_singleton.mp hp]
    exact ⟨fAt, I.hok.fresh size, not_locals J fAt (fun es ep => nofun), nofr size, fun v => nofun⟩
  | none =>
    refine PySem.W.kla_makeFunction (mg := X.mg) (c := c) (P := P) (ps := ps) clos I.ok.glob (I.mod.glob.keeps I.bk) hcode (TB.code.keeps I.bk) at_P ht among TB.gP (TB.bm.keeps I.bk) fun c' ctv h' tk other ge lt made grown => ?_
    obtain ⟨_, oc, vs, t, e2, hoc, hcd, hcn⟩ := made
    cases e2
    have size : s.heap.objs.size ≤ h'.objs.size := Nat.le_trans ge (Nat.le_of_lt lt)
    have cOff : H c' = none := I.hok.fresh ge
    have J := inv_table (t' := tk) (more := #[rawInt pos.line, rawInt pos.col, .ref c']) (h' := h'.push (lamO X params body lam .none .none ((X.mg "__name__").getD .none) c' ctv)) I hP (fun b o hb e => Heap.get?_push_of_some _ (other b o hb e)) (Heap.get?_push_of_some _ grown) ge ⟨oc, vs, t, Heap.get?_push_of_some _ hoc, hcd, hcn⟩
    have fAt : (h'.push (lamO X params body lam .none .none ((X.mg "__name__").getD .none) c' ctv)).get? h'.objs.size = some (lamO X params body lam .none .none ((X.mg "__name__").getD .none) c' ctv) := Heap.get?_push_size _ rfl
    obtain ⟨ext, tabs1, off⟩ := tab_grown (pos := pos) (q := X.env.qual ++ "<lambda>") hu tabs hP ht ha cOff
    refine h h'.objs.size c' .none .none ((X.mg "__name__").getD .none) ctv [] [] _ _ J ext tabs1 (fun p hp => ?_) upd_same (fun y hy => nomatch hy) fun s2 _ => .of_eq (hbind _ _ _ _ _)
    rw [List.mem_singleton.mp hp]
    exact ⟨fAt, off (Nat.ne_of_gt lt) (I.hok.fresh size), not_locals J fAt (fun es ep => nofun), nofr size, fun v => nofun⟩
/-- a lambda with one default, a whole number -/
theorem mk_default {T : List (Addr × Str)} {c P : Addr} {params : Arguments} {body d0 : Expr} {lam : Scope} {pos : Pos} {i : Int} {y : Str} (TB : TabB X.base X.mg c P) (hcode : X.env.code = .ref c) (hm : (P, X.env.qual ++ "<lambda>") ∈ T) (hu : ∀ p ∈ T, p.1 = P → p.2 = X.env.qual ++ "<lambda>")
    (hd0 : params.defaults = [d0]) (hk0 : params.kw_defaults = []) (he0 : PE X d0 (tC (.int i))) (L : LamT X.N X.env.scope lam) (hy : lam.names.lookup y = some .local)
    (hbind : ∀ (q : Str) (cl : List (Str × Addr)) (doc pm cv ctv : Value) (t0 : Addr), ∃ kk : Option (Array Value) → Sem (List (Str × Value)), bindArgs (PySem.W.kdv_fn "<lambda>" q params (.expr body) lam cl (.ref t0) doc pm cv ctv) ⟨[], []⟩ = seqItems? (.ref t0) >>= kk ∧ ∀ v : Value, kk (some #[v]) = pure [(y, v)]) : MkLam X P T params body lam pos := fun pins s σ H Q I tabs h => by
  refine PySem.W.kdv_lam (by rw [hd0]; rfl) hk0 ?_
  rw [hd0]
  refine PySem.W.kdv_all1 (thn (he0.run pins s σ H (fun v H1 => v = .int i ∧ H1 = H) I ⟨rfl, rfl⟩) ?_)
  rintro u s0 ⟨v, H0, I0, ru, rfl, rfl⟩
  obtain ⟨tok, rfl⟩ := ru
  refine PySem.W.kdv_all0 ?_
  rw [makeFunction_eq]
  simp only [List.zip_nil_right, List.filterMap_nil, List.isEmpty_nil, if_true, pure_bind, List.isEmpty_cons, Bool.false_eq_true, if_false]
  refine wpAny_bind (wpAny_newTextTuple ?_)
  -- the tuple of the default stands at t0
  have I1 : Inv X pins σ H0 { s0 with heap := s0.heap.push (PySem.W.kdv_tup [.int i tok]) } := I0.kept (t' := s0.toks) fun b o e => Heap.get?_push_of_some _ e
  have t0At : (s0.heap.push (PySem.W.kdv_tup [.int i tok])).get? s0.heap.objs.size = some (PySem.W.kdv_tup [.int i tok]) := Heap.get?_push_size _ rfl
  have t0Off : H0 s0.heap.objs.size = none := I0.hok.fresh (Nat.le_refl _)
  have nofr : ∀ {b : Addr}, s0.heap.objs.size ≤ b → b ∉ frs X.stack := fun {b} hb z => (List.mem_cons.mp (I0.stkSub _ z)).elim (fun e => absurd (e ▸ I0.lt : b < s0.heap.objs.size) (Nat.not_lt.mpr hb)) (fun e => I0.nofs hb e)
  have bind : ∀ (c' : Addr) (doc pm ctv : Value) (s2 : Shared), s2.heap.get? s0.heap.objs.size = some (PySem.W.kdv_tup [.int i tok]) → BindsTo s2 (PySem.W.kdv_fn "<lambda>" (X.env.qual ++ "<lambda>") params (.expr body) lam (cloFrom X.env.cells lam.names []) (.ref s0.heap.objs.size) doc pm (.ref c') ctv) ⟨[], []⟩ [(y, .int i tok)] := fun c' doc pm ctv s2 e => by
    obtain ⟨kk, h1, h2⟩ := hbind (X.env.qual ++ "<lambda>") (cloFrom X.env.cells lam.names []) doc pm (.ref c') ctv s0.heap.objs.size
    exact BindsTo.of_defaults rfl e rfl h1 (h2 _)
  have loc1 : ∀ z ∈ ([(y, Value.int i tok)] : List (Str × Value)), lam.names.lookup z.1 = some .local := fun z hz => by rw [List.mem_singleton.mp hz]; exact hy
  obtain ⟨ps, hP, ht, ha⟩ := tabs _ hm
  have hP : H0 P = some (.tbl ps) := hP
  have bk1 : ∀ b o, X.base.get? b = some o → (s0.heap.push (PySem.W.kdv_tup [.int i tok])).get? b = some o := I1.bk
  have at_P : (s0.heap.push (PySem.W.kdv_tup [.int i tok])).get? P = some (PySem.W.tabObj ps) := I1.hok P _ hP
  have clos : closureFor lam X.env = pure (cloFrom X.env.cells lam.names []) := closure_ok (L.has I0.ok)
  cases among : codeAmong pos ps.toList with
  | some cv =>
    obtain ⟨c', rfl, hco⟩ := ha pos cv among
    refine PySem.W.kdv_makeTailHit (mg := X.mg) (c := c) (P := P) (ps := ps) clos I0.ok.glob (I1.mod.glob.keeps bk1) hcode (TB.code.keeps bk1) at_P ht among (TB.bm.keeps bk1) fun ctv doc h' tk keep size => ?_
    have J : Inv X pins σ H0 { s0 with heap := h'.push (lamO X params body lam (.ref s0.heap.objs.size) doc ((X.mg "__name__").getD .none) c' ctv), toks := tk } := I1.kept fun b o e => Heap.get?_push_of_some _ (keep b o e)
    have big : s0.heap.objs.size < h'.objs.size := Heap.lt_size (keep _ _ t0At)
    have fAt : (h'.push (lamO X params body lam (.ref s0.heap.objs.size) doc ((X.mg "__name__").getD .none) c' ctv)).get? h'.objs.size = some (lamO X params body lam (.ref s0.heap.objs.size) doc ((X.mg "__name__").getD .none) c' ctv) := Heap.get?_push_size _ rfl
    have tAt := Heap.get?_push_of_some (lamO X params body lam (.ref s0.heap.objs.size) doc ((X.mg "__name__").getD .none) c' ctv) (keep _ _ t0At)
    refine h h'.objs.size c' (.ref s0.heap.objs.size) doc ((X.mg "__name__").getD .none) ctv [(y, .int i tok)] [(s0.heap.objs.size, PySem.W.kdv_tup [.int i tok])] H0 _ J (ExtP.refl P _ H0) tabs (fun p hp => ?_) hco loc1 fun s2 held => bind c' doc ((X.mg "__name__").getD .none) ctv s2 (held _ List.mem_cons_self)
    rcases List.mem_cons.mp hp with rfl | hp
    · exact ⟨fAt, I0.hok.fresh (Nat.le_of_lt big), not_locals J fAt (fun es ep => nofun), nofr (Nat.le_of_lt big), fun v => nofun⟩
    · rw [List.mem_singleton.mp hp]
      exact ⟨tAt, t0Off, not_locals J tAt (fun es ep => nofun), nofr (Nat.le_refl _), fun v => nofun⟩
  | none =>
    refine PySem.W.kdv_makeTail (mg := X.mg) (c := c) (P := P) (ps := ps) clos I0.ok.glob (I1.mod.glob.keeps bk1) hcode (TB.code.keeps bk1) at_P ht among TB.gP (TB.bm.keeps bk1) fun c' ctv doc h' tk other ge lt made grown => ?_
    obtain ⟨_, oc, vs, t, e2, hoc, hcd, hcn⟩ := made
    cases e2
    have size1 : s0.heap.objs.size < (s0.heap.push (PySem.W.kdv_tup [.int i tok])).objs.size := Heap.lt_size t0At
    have ge0 : s0.heap.objs.size < c' := Nat.lt_of_lt_of_le size1 ge
    have cOff : H0 c' = none := I0.hok.fresh (Nat.le_of_lt ge0)
    have big : s0.heap.objs.size < h'.objs.size := Nat.lt_trans ge0 lt
    have J := inv_table (t' := tk) (more := #[rawInt pos.line, rawInt pos.col, .ref c']) (h' := h'.push (lamO X params body lam (.ref s0.heap.objs.size) doc ((X.mg "__name__").getD .none) c' ctv)) I1 hP (fun b o hb e => Heap.get?_push_of_some _ (other b o hb e)) (Heap.get?_push_of_some _ grown) ge ⟨oc, vs, t, Heap.get?_push_of_some _ hoc, hcd, hcn⟩
    obtain ⟨ext, tabs1, off⟩ := tab_grown (pos := pos) (q := X.env.qual ++ "<lambda>") hu tabs hP ht ha cOff
    have fAt : (h'.push (lamO X params body lam (.ref s0.heap.objs.size) doc ((X.mg "__name__").getD .none) c' ctv)).get? h'.objs.size = some (lamO X params body lam (.ref s0.heap.objs.size) doc ((X.mg "__name__").getD .none) c' ctv) := Heap.get?_push_size _ rfl
    have tP : s0.heap.objs.size ≠ P := fun z => by rw [z, hP] at t0Off; cases t0Off
    have tAt := Heap.get?_push_of_some (lamO X params body lam (.ref s0.heap.objs.size) doc ((X.mg "__name__").getD .none) c' ctv) (other _ _ tP t0At)
    refine h h'.objs.size c' (.ref s0.heap.objs.size) doc ((X.mg "__name__").getD .none) ctv [(y, .int i tok)] [(s0.heap.objs.size, PySem.W.kdv_tup [.int i tok])] _ _ J ext tabs1 (fun p hp => ?_) upd_same loc1 fun s2 held => bind c' doc ((X.mg "__name__").getD .none) ctv s2 (held _ List.mem_cons_self)
    rcases List.mem_cons.mp hp with rfl | hp
    · exact ⟨fAt, off (Nat.ne_of_gt lt) (I0.hok.fresh (Nat.le_of_lt big)), not_locals J fAt (fun es ep => nofun), nofr (Nat.le_of_lt big), fun v => nofun⟩
    · rw [List.mem_singleton.mp hp]
      exact ⟨tAt, off (Nat.ne_of_lt ge0) t0Off, not_locals J tAt (fun es ep => nofun), nofr (Nat.le_refl _), fun v => nofun⟩
end
end Q

/-! a def whose code object is known; a def that tries what it got -/
namespace Q
open PySem PySem.Spec PyProof.Rows L2 LamX
structure FunC (K : PySem.W.Frag) (x qual : Str) (st : Stmt) (f : Addr) (fd : FuncData) (c : Addr) : Prop where
  ex : ∃ (oc : Value) (od : Option Addr) (kV doc pm : Value) (an : Option Addr) (ct : Value) (osl : Array (Option Value)),
    fd = PySem.W.fnOf x qual (defArgs st) (defBody st) (defScope st) .none kV doc pm an (.ref c) ct ∧ K.lookup f = some ⟨oc, od, .func fd, osl⟩ ∧ PySem.W.codeIn K (.ref c) qual = true
section
variable {P : Program} {w : World} {K : PySem.W.Frag} {mg : Str → Option Value} {base : Heap}
theorem okC {x qual : Str} {st : Stmt} {f c : Addr} {fd : FuncData} {N ps : List Str} {k : Nat} {sp : Sp} (F : FunC K x qual st f fd c) (S : FnScope N ps (defScope st)) (len : ∀ vs H Q E, sp vs H Q E → vs.length = ps.length)
    (body : ∀ (A : Around) (outer : List Env) (s : Shared) (H : Hp) (vs : List V) (Q : VK) (E : XK), Room k (A.deeper (envOfC qual (defScope st) s.heap.objs.size f (.ref c))) → sp vs H Q E →
      ∃ t, PSs (cxOf CX0 P w K mg base N qual (defScope st) f (.ref c) A outer s H E).nox (defBody st) t ∧ t { nx := fun _ H' => Q .non H', rt := Q } (L2.start N vs) H) : FnOk P w K mg base CX0 (k + 1) f fd ps sp := by
  obtain ⟨oc, od, kV, doc, pm, an, ct, osl, rfl, lk, code⟩ := F.ex
  exact fn_of lk code S len fun A outer s H vs Q E hr h => (body A outer s H vs Q E hr h).elim fun t z => ⟨t, z.1.nox, z.2⟩
end
/-- told of a lambda that raises a state's refusal with a word: True behind it -/
def TTst (C : Addr) : (XK → Hp → VK → Prop) → List V → Hp → VK → Prop := fun tl vs H Q => ∃ wd : Str, vs = [.str wd] ∧
  ∀ (E : XK) (Q' : VK), (∀ (H' : Hp) (dd : Addr) (fs : List (Str × V)), H' dd = some (.xd fs) → fs.lookup ("why" : Str) = some (.str wd) → (∀ H'', Ex H' H'' → Q (.bl true) H'') → E (.ref C) (some dd) H') → tl E H Q'
/-- the body of a try that calls what was got -/
theorem pss_act {X : Cx} {W : WX} {a : Str} {p1 p2 p3 : Pos} {f c' : Addr} {q : Str} {tl : XK → Hp → VK → Prop} (act : PE X (.Call (.Name a p1) [] [] p2) (fun σZ HZ Q => σZ[0]? = some (some (.ref f)) ∧ HZ c' = some (CodeO c' q) ∧ tl (fun cls d H' => W cls d σZ H') HZ Q)) :
    PSs X [.Expr (.Call (.Name a p1) [] [] p2) p3] (fun D σ H => σ[0]? = some (some (.ref f)) ∧ H c' = some (CodeO c' q) ∧ tl (fun cls d H' => W cls d σ H') H fun _ H' => D.nx σ H') := ⟨fun pins s σ H D I h => (pss_one (ps_expr act)).run pins s σ H D I h⟩
end Q

/-! set(xs), xs a list of whole numbers, as a set that sorted may walk. -/
namespace Q
open PySem PySem.Spec PyProof.Rows L2
section
variable {P : Program} {w : World} {A : Around} {E : Value → Shared → Prop} {s : Shared}
abbrev emptyS (w : World) : Obj := { cls := .type "set", dict := none, data := .set #[] 0 (.fresh 0 0 (!w.params.followText "set-order")) }
/-- the empty set at S is filled from the list at l -/
theorem set_filled {S l : Addr} {items : Array Value} {ns : List Int} {R : Value → Shared → Prop} (hS : s.heap.get? S = some (emptyS w)) (lS : l ≠ S) (quiet : A.handled = none) (hl : s.heap.IsList l items) (are : IntsAre items.toList ns) (few : ns.length + 1 < scanBound)
    (h : ∀ (h' : Heap) (tk c : Nat), SetR w h' S (fun j => decide (j ∈ ns)) c → c ≤ ns.length → (∀ b o, b ≠ S → s.heap.get? b = some o → h'.get? b = some o) → R .none { s with heap := h', toks := tk }) :
    wpAny (model P w) A.in1 (Builtin.«set.__init__» ⟨[.ref S, .ref l], []⟩) (fun fin s' => match fin with | .done f => wants R E (.ok f) s' | .again c' => c'.quiet = true ∧ codeAny (model P w) A c' (wants R E) s') (fun e s' => wants R E (.error e) s') s := by
  have size : items.size = ns.length := by rw [← IntsAre.length are, Array.length_toList]
  have val : ∀ (i : Nat) (v : Value), items[i]? = some v → ∃ k t, ns[i]? = some k ∧ v = .int k t := fun i v hv => by
    have hi : i < ns.length := by rw [← size]; exact (Array.getElem?_eq_some_iff.mp hv).1
    obtain ⟨t, e⟩ := IntsAre.int_at are i v (by rw [Array.getElem?_toList]; exact hv)
    exact ⟨ns[i], t, List.getElem?_eq_getElem hi, by rw [e, List.getD_eq_getElem?_getD, List.getElem?_eq_getElem hi] <;> rfl⟩
  obtain ⟨⟨c1, dct, dat, sl⟩, at_l, hc, nl, hd⟩ := hl
  cases (show c1 = .type "list" from hc)
  cases (show dat = .seq items nl from hd)
  have list : s.heap.IsList l items := ⟨_, at_l, rfl, nl, rfl⟩
  have ns1 := F.sub_list_set
  have ns2 := F.sub_list_frozenset
  have ne : (Value.type "list" == Value.type "dict") = false := by decide
  unfold Builtin.«set.__init__» noKeywords Builtin.Frozenset.updateFrom
  generalize hPI : pyIter = PI
  wp_walk
  subst hPI
  refine wpAny_pyIter_list list (wpAny_bind (wpAny_runValue ?_))
  have It := Nat.ne_of_lt (Heap.lt_size at_l)
  have SIt := Nat.ne_of_lt (Heap.lt_size hS)
  refine set_update_ints ((Walks.list (by simp [quiet]) s.heap.objs.size l It items).toS) S (by simp only [List.mem_cons, List.mem_singleton, List.not_mem_nil, or_false, not_or]; exact ⟨SIt, Ne.symm lS⟩) ns size few val (items.size - 0) 0 _ (by omega) (Nat.zero_le _)
    ⟨⟨_, Heap.get?_push_size _ rfl, rfl, rfl⟩, list.push _⟩ ⟨0, Nat.le_refl 0, setR_new_at (Heap.get?_push_of_some _ hS)⟩ fun s' c moved hc' made => ?_
  obtain ⟨h', g2, d', tk', os'⟩ := s'
  cases (show g2 = s.gens from moved.gens)
  cases (show d' = s.drawn from moved.drawn)
  cases (show os' = s.os from moved.os)
  show wpAny (model P w) _ (pure ()) _ _ _
  refine wpAny_pure ?_
  show wpAny (model P w) _ (ret Value.none) _ _ _
  refine wpAny_pure ?_
  exact h h' tk' c made (size ▸ hc') fun b o hb e => moved.heap b o (by simp only [List.mem_cons, List.mem_singleton, List.not_mem_nil, or_false, not_or]; exact ⟨hb, Nat.ne_of_lt (Heap.lt_size e)⟩) (Heap.get?_push_of_some _ e)
/-- set(xs) -/
theorem call_set_lst {l : Addr} {items : Array Value} {ns : List Int} {Q : Value → Shared → Prop} (quiet : A.handled = none) (hl : s.heap.IsList l items) (are : IntsAre items.toList ns) (few : ns.length + 1 < scanBound)
    (h : ∀ (h' : Heap) (tk c : Nat), SetR w h' s.heap.objs.size (fun j => decide (j ∈ ns)) c → c ≤ ns.length → (∀ b o, s.heap.get? b = some o → h'.get? b = some o) → Q (.ref s.heap.objs.size) { s with heap := h', toks := tk }) :
    wpAny (model P w) A (call (.type "set") [.ref l]) Q E s := by
  have lt : l < s.heap.objs.size := hl.elim fun o e => Heap.lt_size e.1
  have hS : (s.heap.push (emptyS w)).get? s.heap.objs.size = some (emptyS w) := Heap.get?_push_size _ rfl
  obtain ⟨c, tl, hmro⟩ := F.called_set.mro
  have f1 := F.called_set.made
  have f2 := F.called_set.sub
  have f3 := F.called_set.notType
  have f4 := F.called_set.canCreate
  have f5 := F.typeCall_set_1 (.ref l)
  have f6 := F.called_set.init.lookup
  have f7 := F.called_set.init.bind (.ref s.heap.objs.size)
  refine wpAny_call (codeAny_of_tree (wpAny_pure ⟨Code.quiet_builtin _ (by decide +kernel), codeAny_builtin F.entry_type_call ?_⟩ : wpAny _ _ (callAny (.type "set") _) _ _ _))
  rw [Around.under_plain (weight_type_call_type "set" [.ref l] []) rfl]
  repeat (any_goals (first | assumption | wp_step))
  refine codeAny_mono (code_set_led1 (.ref l) (E := E) (Q₁ := fun obj s₁ => obj = .ref s.heap.objs.size ∧ s₁ = { s with heap := s.heap.push (emptyS w) }) ⟨rfl, rfl⟩) fun r s₁ hr => ?_
  match r, hr with
  | .error e, z => exact z
  | .ok .next, z => exact z.elim
  | .ok .brk, z => exact z.elim
  | .ok .cont, z => exact z.elim
  | .ok (.ret obj), ⟨e1, e2⟩ =>
    subst e1; subst e2
    have hT : Shared.TypeIs { s with heap := s.heap.push (emptyS w) } (.ref s.heap.objs.size) "set" := ⟨_, hS, rfl⟩
    repeat (any_goals (first | assumption | wp_step))
    refine codeAny_mono (codeAny_call_builtin (R := wants (fun r s₂ => r = .none ∧ ∃ h' tk c, s₂ = { s with heap := h', toks := tk } ∧ SetR w h' s.heap.objs.size (fun j => decide (j ∈ ns)) c ∧ c ≤ ns.length ∧ (∀ b o, s.heap.get? b = some o → h'.get? b = some o)) E) F.called_set.init.plain F.entry_set_init (check_set_init_1 hT ?fill)) fun r₂ s₂ hr₂ => ?after
    case fill =>
      exact set_filled (s := { s with heap := s.heap.push (emptyS w) }) hS (Nat.ne_of_lt lt) (by simp [quiet]) (hl.push _) are few fun h' tk c made hc keep => ⟨rfl, h', tk, c, rfl, made, hc, fun b o e => keep b o (Nat.ne_of_lt (Heap.lt_size e)) (Heap.get?_push_of_some _ e)⟩
    match r₂, hr₂ with
    | .error e, z => exact z
    | .ok .next, z => exact z.elim
    | .ok .brk, z => exact z.elim
    | .ok .cont, z => exact z.elim
    | .ok (.ret _), ⟨e1, h', tk, c', e2, made, hc', keep⟩ =>
      subst e1; subst e2
      repeat (any_goals (first | assumption | wp_step))
      exact h h' tk c' made hc' keep
end
section
variable {X : Cx}
def rSetI (K : PySem.W.Frag) (w : World) : List V → Hp → VK → Prop := fun xs H Q => ∃ (a : Addr) (ns : List Int), xs = [.ref a] ∧ SqL K H a (ns.map V.int) ∧ ns.length ≤ 4000 ∧ ∀ (p : Addr) (c : Nat), H p = none → c ≤ ns.length → Q (.ref p) (upd H p (SetO w p (fun j => decide (j ∈ ns)) c))
theorem cr_setI (hc : X.calm = true) : CallR X (.type "set") (rSetI X.K X.w) := by
  rintro pins s σ H xs us Q I r ⟨a, ns, rfl, hq, few, q⟩
  obtain rfl := Vals.ref1 r
  obtain ⟨its, rv, pl, _⟩ := I.list hq
  refine call_set_lst (I.ok.hd hc) pl.isList (by simpa using rv.ints) (by unfold scanBound; omega) fun h' tk c made hc' keep => ⟨.ref s.heap.objs.size, _, ?_, rfl, q _ c (I.hok.fresh (Nat.le_refl _)) hc'⟩
  exact I.laid (t' := tk) keep (Nat.le_refl _) (setO_new made)
end
end Q

/-! what is lent for a while; dicts and lists of one's own from calls; lists gone back over; dicts gone over by a for; xs[i] += e -/
namespace Q
open PySem L2
section
variable {F : Fr}
/-- what W1 froze beyond W is one's own again -/
def Wd.melt (W W1 W2 : Wd F) : Wd F where
  G := fun a => match W.G a, W1.G a with
    | none, some _ => none
    | _, _ => W2.G a
  H := W2.H
  gh := fun a o e => by
    have e : (match W.G a, W1.G a with | none, some _ => none | _, _ => W2.G a) = some o := e
    split at e
    · cases e
    · exact W2.gh a o e
  gg := fun a o e => by
    show (match W.G a, W1.G a with | none, some _ => none | _, _ => W2.G a) = some o
    rw [W.gg a o e]
    exact W2.gg a o e
  kp := fun a m g n => by
    obtain ⟨h1, h2⟩ := W2.kp a m g n
    refine ⟨?_, h2⟩
    show (match W.G a, W1.G a with | none, some _ => none | _, _ => W2.G a) = none
    split
    · rfl
    · exact h1
  mg := fun a m => by
    show (match W.G a, W1.G a with | none, some _ => none | _, _ => W2.G a) = none
    split
    · rfl
    · exact W2.mg a m
  iv := W2.iv
theorem melt_le {W W1 W2 : Wd F} (x : Ex W.G W1.G) (e : W1.H = W.H) (l : Le W1 W2) : Le W (W.melt W1 W2) := ⟨fun a o h => by
    show (match W.G a, W1.G a with | none, some _ => none | _, _ => W2.G a) = some o
    rw [h]
    exact l.ex a o (x a o h), fun a m g n => by
    cases h : W1.G a with
    | none =>
      obtain ⟨h1, h2⟩ := l.kp a m h (by rw [e]; exact n)
      refine ⟨?_, by rw [← e]; exact h2⟩
      show (match W.G a, W1.G a with | none, some _ => none | _, _ => W2.G a) = none
      rw [g, h]
      exact h1
    | some o =>
      refine ⟨?_, ?_⟩
      · show (match W.G a, W1.G a with | none, some _ => none | _, _ => W2.G a) = none
        rw [g, h]
      · show W2.H a = W.H a
        rw [W2.gh a o (l.ex a o h), ← e, W1.gh a o h]⟩
theorem melt_own {W W1 W2 : Wd F} {q : Addr} {o : HO} (x : Own W2 q o) : Own (W.melt W1 W2) q o := ⟨by
    show (match W.G q, W1.G q with | none, some _ => none | _, _ => W2.G q) = none
    split
    · rfl
    · exact x.g, x.h, x.z⟩
end
section
variable {F : Fr} {K : PySem.W.Frag} {σ : L2.St} {W W1 : Wd F} {ta tb te tc tl ti tk tv : TE} {α β γ δ : Type} {r : Rp α} {s : Rp β} {t : Rp γ} {D : Ends} {tz tx ty : TS}
/-- a dict of one's own, told by a predicate -/
def EvODN (te : TE) (σ : L2.St) (W : Wd F) (r : Rp α) (P : List (Int × α) → Prop) : Prop := ∀ W1 : Wd F, Le W W1 → ∀ Q : VK, (∀ p (W2 : Wd F) xs, Le W1 W2 → W1.H p = none → OwnD W2 p r xs → P xs → Q (.ref p) W2.H) → te σ W1.H Q
theorem s_retO {xs : List α} (h : EvO te σ W r xs) (k : ∀ p (W1 : Wd F), OwnL W1 p r xs → D.rt (.ref p) W1.H) : tRet te D σ W.H := h W (Le.refl _) _ fun p vs W1 l hp x a => k p W1 ⟨vs, x, a⟩
theorem q_asgODN {i : Nat} {P : List (Int × α) → Prop} (h : EvODN te σ W r P) (k : ∀ p (W1 : Wd F) xs, Le W W1 → W.H p = none → OwnD W1 p r xs → P xs → tz D (σ.set i (some (.ref p))) W1.H) : tSeq (tAsg te (gName i)) tz D σ W.H :=
  h W (Le.refl _) _ fun p W1 xs l hp o hP => k p W1 xs l hp o hP
/-- what stands where a tuple stands stands -/
def Mt (r : Rp α) : Prop := ∀ {G G' : Hp}, (∀ a vs, G a = some (.tup vs) → G' a = some (.tup vs)) → ∀ v x, r.rel G v x → r.rel G' v x
theorem mt_int : Mt rInt := fun _ _ _ h => h
theorem mt_t2 (m : Mt r) (n : Mt s) : Mt (rT2 r s) := fun e v x ⟨a, u, w, h1, h2, h3, h4⟩ => ⟨a, u, w, h1, e _ _ h2, m e _ _ h3, n e _ _ h4⟩
theorem mt_opt (m : Mt r) : Mt (rOpt r) := fun e v x h => by
  cases x with
  | none => exact h
  | some y => exact m e _ _ h
/-- no tuple was frozen -/
def Tp (W W1 : Wd F) : Prop := ∀ a vs, W1.G a = some (.tup vs) → W.G a = some (.tup vs)
theorem Tp.refl (W : Wd F) : Tp W W := fun _ _ h => h
theorem Tp.trans {A B C : Wd F} (x : Tp A B) (y : Tp B C) : Tp A C := fun a vs h => x a vs (y a vs h)
theorem tp_frz {p : Addr} {o : HO} (x : Own W p o) (h : ∀ vs, o ≠ .tup vs) : Tp W (W.frz p o x) := fun a vs e => by
  have e : upd W.G p o a = some (.tup vs) := e
  by_cases ha : a = p
  · subst ha; rw [upd_same] at e; exact absurd (Option.some.inj e) (h vs)
  · rwa [upd_ne ha] at e
theorem melt_tup {W W1 W2 : Wd F} (tp : Tp W W1) (l : Le W1 W2) : ∀ a vs, W2.G a = some (.tup vs) → (W.melt W1 W2).G a = some (.tup vs) := fun a vs h => by
  show (match W.G a, W1.G a with | none, some _ => none | _, _ => W2.G a) = some (.tup vs)
  split
  · rename_i o e1 e2
    have := l.ex a o e2
    rw [h] at this
    cases this
    rw [tp a vs e2] at e1
    cases e1
  · exact h
theorem OwnD.melt {W W1 W2 : Wd F} {q : Addr} {xs : List (Int × α)} (m : Mt r) (tp : Tp W W1) (l : Le W1 W2) (x : OwnD W2 q r xs) : OwnD (W.melt W1 W2) q r xs := let ⟨kvs, h1, h2⟩ := x.ex; ⟨kvs, melt_own h1, ⟨h2.1, fun i x e => let ⟨v, a, b⟩ := h2.2 i x e; ⟨v, a, m (melt_tup tp l) _ _ b⟩⟩⟩
theorem OwnL.fzT {p : Addr} {xs : List α} (h : OwnL W p r xs) : ∃ W1 : Wd F, W1.H = W.H ∧ Kp p W W1 ∧ Tp W W1 ∧ (rList r).rel W1.G (.ref p) xs := by
  obtain ⟨vs, h1, h2⟩ := h.ex
  exact ⟨W.frz p _ h1, rfl, ⟨(W.frz_wk h1).ex, fun q u ne x => x.frz ne h1⟩, tp_frz h1 (fun vs => nofun), p, vs, rfl, W.frz_at h1, h2.imp fun _ _ => r.mono (W.frz_wk h1).ex⟩
theorem OwnDL.fzT {p : Addr} {n : Nat} {as : Nat → Addr} {f : Nat → List α} (o : OwnDL W p n as r f) : ∃ W1 : Wd F, W1.H = W.H ∧ Wk W W1 ∧ Tp W W1 ∧ (rDict (rList r)).rel W1.G (.ref p) ((List.range n).map fun (i : Nat) => ((i : Int), f i)) := by
  have step : ∀ m, m ≤ n → ∃ W1 : Wd F, W1.H = W.H ∧ Wk W W1 ∧ Tp W W1 ∧ (∀ i, i < m → (rList r).rel W1.G (.ref (as i)) (f i)) ∧ (∀ i, m ≤ i → i < n → OwnL W1 (as i) r (f i)) ∧ Own W1 p (.dK (keysOf n as)) := by
    intro m
    induction m with
    | zero => intro _; exact ⟨W, rfl, Wk.refl _, Tp.refl _, fun i hi => absurd hi (Nat.not_lt_zero _), fun i _ hi => o.l i hi, o.d⟩
    | succ m ih =>
      intro hm
      obtain ⟨W1, e1, k1, t1, a1, b1, c1⟩ := ih (by omega)
      obtain ⟨W2, e2, kp, t2, r2⟩ := (b1 m (Nat.le_refl _) (by omega)).fzT
      refine ⟨W2, e2.trans e1, k1.trans ⟨kp.ex⟩, t1.trans t2, fun i hi => ?_, fun i hi hn => ?_, kp.kp _ _ (o.ne m (by omega)).symm c1⟩
      · by_cases h : i = m
        · rw [h]; exact r2
        · exact (rList r).mono kp.ex (a1 i (by omega))
      · exact (b1 i (by omega) hn).kp kp fun z => by have := o.inj _ _ hn (by omega) z; omega
  obtain ⟨W1, e1, k1, t1, a1, _, c1⟩ := step n (Nat.le_refl _)
  refine ⟨W1.frz p _ c1, e1, k1.trans (W1.frz_wk c1), t1.trans (tp_frz c1 fun vs => nofun), p, keysOf n as, rfl, W1.frz_at c1, ?_⟩
  refine ⟨by unfold keysOf; simp, fun i x hx => ?_⟩
  rw [List.getElem?_map] at hx
  cases e : (List.range n)[i]? with
  | none => rw [e] at hx; cases hx
  | some j =>
    rw [e] at hx
    cases hx
    have hj : j < n := List.mem_range.mp (List.mem_of_getElem? e)
    exact ⟨.ref (as j), by unfold keysOf; rw [List.getElem?_map, e]; rfl, (rList r).mono (W1.frz_wk c1).ex (a1 j hj)⟩
/-- a dict of lists of one's own, lent to a call -/
theorem lentDL {p : Addr} {n : Nat} {as : Nat → Addr} {f : Nat → List α} {P : List (Int × β) → Prop} (m : Mt s) (o : OwnDL W p n as r f)
    (h : ∀ W' : Wd F, Wk W W' → (rDict (rList r)).rel W'.G (.ref p) ((List.range n).map fun (i : Nat) => ((i : Int), f i)) → EvODN te σ W' s P) : EvODN te σ W s P := fun W1 l Q q => by
  obtain ⟨W2, e, wk, tp, hr⟩ := (o.up l).fzT
  rw [← e]
  refine h W2 ⟨l.ex.trans wk.ex⟩ hr W2 (Le.refl _) Q fun q' W3 xs l3 hq od hP => ?_
  exact q q' (W1.melt W2 W3) xs (melt_le wk.ex e l3) (by rw [← e]; exact hq) (od.melt m tp l3) hP
theorem EvODN.fz {P : List (Int × α) → Prop} (h : EvODN te σ W r P) : EvN te σ W (rDict r) P := fun W1 l Q q => h W1 l Q fun p W2 xs l2 hp o hP => by
  obtain ⟨kvs, h1, h2⟩ := o.ex
  exact q (.ref p) (W2.frz p _ h1) xs (le_frz l2 hp h1) ⟨p, kvs, rfl, W2.frz_at h1, h2.mono (W2.frz_wk h1).ex⟩ hP
def SpReachedO : Sp := fun vs H Q _ => ∃ (G : Hp) (v u : V) (steps : StepsD) (ss : List Int), vs = [v, u] ∧ Ex G H ∧ rStepsD.rel G v steps ∧ (rList rInt).rel G u ss ∧ (StepsOk steps ∧ ss.Nodup ∧ ∀ k ∈ ss, k ∈ keysD steps) ∧ ∀ p (W : Wd (pF G H)) zs, OwnD W p (rOpt rPr) zs → CameR steps ss zs → Q (.ref p) W.H
theorem ev_reachedO {steps : StepsD} {ss : List Int} {E : XK} (ha : EvR ta σ W rStepsD steps) (hb : EvR tb σ W (rList rInt) ss) (hp : StepsOk steps ∧ ss.Nodup ∧ ∀ k ∈ ss, k ∈ keysD steps) : EvODN (tCall SpReachedO [] E (tCons ta (tCons tb tNil))) σ W (rOpt rPr) (CameR steps ss) := fun W1 l Q q =>
  ha W1 l _ fun v W2 l2 hv => hb W2 (l.trans l2) _ fun u W3 l3 hu => ⟨W3.G, v, u, steps, ss, rfl, W3.gh, rStepsD.mono l3.ex hv, hu, hp, fun p W4 zs od hc => by
    obtain ⟨kvs, h1, h2⟩ := od.ex
    exact q p (W3.back W4) zs ((l2.trans l3).trans (W3.back_le W4)) (le_fresh (l2.trans l3) h1.z) od.back hc⟩
def SpNeedsO (C : Addr) : Sp := fun vs H Q _ => ∃ (G : Hp) (v : V) (n : NetD), vs = [v] ∧ Ex G H ∧ (rNet C).rel G v n ∧ ∀ p (W : Wd (pF G H)), OwnL W p rInt n.needs → Q (.ref p) W.H
theorem eo_needs {C : Addr} {n : NetD} {m : Str} {E : XK} (h1 : ¬ m = "_needs") (h2 : ¬ m = "_sources") (h3 : ¬ m = "_lines") (h : EvR ta σ W (rNet C) n) : EvO (tMeth C m (SpNeedsO C) [] E ta tNil) σ W rInt n.needs := fun W1 l Q q =>
  h W1 l _ fun v W2 l2 hv => by
    obtain ⟨a, dx, p, p2, u, rfl, g2, g3, g4, g5⟩ := id hv
    exact ⟨a, dx, _, rfl, W2.gh _ _ g2, nf_none _ _ _ h1 h2 h3, W2.G, _, n, rfl, W2.gh, hv, fun p W3 o => by
      obtain ⟨vs, o1, o2⟩ := o.ex
      exact q p vs (W2.back W3) (l2.trans (W2.back_le W3)) (le_fresh l2 o1.z) o1.back o2⟩
/-! xs[i] += e, xs of one's own -/
def rGetO : V → V → Hp → VK → Prop := fun o i H Q => ∃ p xs k v, o = .ref p ∧ i = .int k ∧ H p = some (.lst xs) ∧ 0 ≤ k ∧ xs[k.toNat]? = some v ∧ Q v H
theorem get_own {X : Cx} : PGet X rGetO := by
  intro pins s σ H o i ov iv Q I ro ri h
  obtain ⟨p, xs, k, v, rfl, rfl, hp, h0, hx, q⟩ := h
  cases ro
  obtain ⟨t, rfl⟩ := ri
  obtain ⟨its, n, r, ho, hz⟩ := I.lst hp
  obtain ⟨w, ew, rw'⟩ := r.get hx
  have hn := line63
  have hl := r.length
  have hi := (List.getElem?_eq_some_iff.mp hx).1
  exact wpAny_getItem_list (items := its.toArray) ⟨_, ho, rfl, n, rfl⟩ h0 (by omega) (by simpa using ew) ⟨v, H, I, rw', q⟩
theorem s_augL {i : Nat} {p : Addr} {xs : List Int} {k a : Int} (hi : σ[i]? = some (some (.ref p))) (o : OwnL W p rInt xs) (hb : EvR tb σ W rInt k) (h : EvR te σ W rInt a) (hk : 0 ≤ k ∧ k < (xs.length : Int))
    (c : ∀ W1 : Wd F, Kp p W W1 → OwnL W1 p rInt (xs.set k.toNat (xs.getD k.toNat 0 + a)) → D.nx σ W1.H) : tAugS (tVar i) tb te rGetO (ipI fun i j => i + j) rSetL D σ W.H := by
  refine ⟨_, hi, hb W (Le.refl _) _ fun u W1 l hu => ?_⟩
  have hu : u = .int k := hu
  subst hu
  obtain ⟨vs, o1, o2⟩ := o.ex
  have o1' := o1.up l
  have hx : xs[k.toNat]? = some (xs.getD k.toNat 0) := by
    rw [List.getD_eq_getElem?_getD, List.getElem?_eq_getElem (by omega)]; rfl
  obtain ⟨v, hv, hr⟩ := o2.2 _ _ hx
  have hr : v = .int (xs.getD k.toNat 0) := hr
  subst hr
  refine ⟨p, vs, k, _, rfl, rfl, o1'.h, hk.1, hv, ?_⟩
  refine h W1 l _ fun y W2 l2 hy => ?_
  have hy : y = .int a := hy
  subst hy
  refine ⟨_, _, rfl, rfl, p, vs, k, k.toNat, rfl, rfl, (o1'.up l2).h, ?_, ?_⟩
  · unfold ixN
    rw [if_pos hk.1, if_pos (by rw [o2.1]; exact hk.2)]
  · have o3 := o1'.up l2
    exact c (W2.put p _ o3.z o3.g) ⟨l.ex.trans l2.ex, fun q u ne x => ((x.up l).up l2).put ne _ _⟩ ⟨_, W2.put_at o3.z o3.g, (o2.imp fun _ _ h => h).set rfl _⟩
/-! for x in reversed(xs) -/
theorem s_forRev {xs : List α} {g : TG} (h : EvR tl σ W (rList r) xs) (k : ∀ W1 : Wd F, Le W W1 → LoopL W1 r xs.reverse g tx D D.nx σ) : tFor (iRev K (tCons tl tNil)) g tx D σ W.H := by
  refine h W (Le.refl _) _ fun v W1 l hv => ?_
  obtain ⟨a, vs, rfl, h1, h2⟩ := hv
  obtain ⟨P, h0, hs, hd⟩ := k W1 l
  refine ⟨a, vs, rfl, sqL_of W1.gh h1, for_it walk_rev (fun i => Nx W1 (P i)) ⟨W1, rfl, Wk.refl _, h0⟩ ?_ ?_ ?_⟩
  · rintro i σ' _ _ ⟨W2, rfl, l2, _⟩
    exact sqL_of W2.gh (l2.ex _ _ h1)
  · rintro i y σ' _ _ hi ⟨W2, rfl, l2, p⟩ ⟨rfl, hy⟩
    obtain ⟨x, hx, hr⟩ := h2.getv hy
    refine hs i x y σ' W2 l2 ?_ (r.mono l2.ex hr) p
    rw [List.getElem?_reverse (by rw [← h2.1]; exact hi), ← h2.1]
    exact hx
  · rintro σ' _ ⟨W2, rfl, l2, p⟩
    rw [h2.1, ← List.length_reverse] at p
    exact hd σ' W2 l2 p
theorem q_forRev {xs : List α} {g : TG} (h : EvR tl σ W (rList r) xs) (k : ∀ W1 : Wd F, Le W W1 → LoopL W1 r xs.reverse g tx D (tz D) σ) : tSeq (tFor (iRev K (tCons tl tNil)) g tx) tz D σ W.H := s_forRev (D := { D with nx := tz D }) h k
/-! sorted(d) -/
abbrev rSortedDI : List V → Hp → VK → Prop := fun xs H Q => ∃ (a : Addr) (kvs : List (Key × V)) (ks : List Int), xs = [.ref a] ∧ Rd H a (.dK kvs) ∧ kvs.map (·.1) = ks.map Sum.inl ∧ ks.length < 64 ∧ ∀ (ys : List Int) (p : Addr), ys.Perm ks → ys.Pairwise (· ≤ ·) → H p = none → Q (.ref p) (upd H p (.lst (ys.map V.int)))
theorem dictR_keys {G : Hp} {kvs : List (Key × V)} {xs : List (Int × α)} (h : DictR r G kvs xs) : kvs.map (·.1) = (keysD xs).map Sum.inl := by
  refine DictR.ind (P := fun kvs xs => kvs.map (·.1) = (keysD xs).map (Sum.inl : Int → Key)) rfl (fun v x kvs xs hr _ ih => ?_) h
  rw [List.map_cons, ih]
  rfl
theorem eo_sortedD {P : List (Int × α) → Prop} {R : List Int → Prop} (ha : EvN ta σ W (rDict r) P) (hl : ∀ xs, P xs → xs.length < 64) (hR : ∀ xs ys, P xs → ys.Perm (keysD xs) → ys.Pairwise (· ≤ ·) → R ys) : EvON (tCB rSortedDI (tCons ta tNil)) σ W rInt R := fun W1 l Q q => ha W1 l _ fun v W2 xs l2 hv hP => by
  obtain ⟨a, kvs, rfl, h1, h2⟩ := hv
  exact ⟨a, kvs, keysD xs, rfl, .inl (W2.gh _ _ h1), dictR_keys h2, by simpa [keysD] using hl xs hP, fun ys p hp hs hf => q p _ (W2.own p _ hf) ys (l2.trans (W2.own_le hf)) (le_fresh l2 hf) (W2.own_at hf) (All2.ofInts ys) (hR xs ys hP hp hs)⟩
/-! for k in d, d frozen: locked while it is gone over; nothing of one's own is changed within -/
def tLkD (D : Ends) (d : Addr) (u x : HO) (W : Wd F) : Ends := ⟨fun σ' H' => H' d = some x ∧ D.nx σ' (upd H' d u), fun v H' => H' d = some x ∧ D.rt v (upd H' d u), fun σ' H' => H' d = some x ∧ D.bk σ' (upd H' d u), fun σ' H' => H' d = some x ∧ D.ct σ' (upd H' d u)⟩
theorem s_forK {i : Nat} {g : TG} {d : Addr} {kvs : List (Key × V)} {xs : List (Int × α)} (hi : σ[i]? = some (some (.ref d))) (hd : W.G d = some (.dK kvs)) (hr : DictR r W.G kvs xs) (P : Nat → L2.St → Prop) (h0 : P 0 σ)
    (hs : ∀ od (m : Nat) x σ' (W1 : Wd (F.er d (W.gm hd))), Le (W.lk d (.dK kvs) (.frz od (.dK kvs)) hd) W1 → xs[m]? = some x → P m σ' → g (.int x.1) σ' W1.H fun σ2 H2 =>
      tx { tLkD D d (.dK kvs) (.frz od (.dK kvs)) W with nx := fun σ3 H3 => ∃ W3 : Wd (F.er d (W.gm hd)), W3.H = H3 ∧ Le (W.lk d (.dK kvs) (.frz od (.dK kvs)) hd) W3 ∧ P (m + 1) σ3, ct := fun σ3 H3 => ∃ W3 : Wd (F.er d (W.gm hd)), W3.H = H3 ∧ Le (W.lk d (.dK kvs) (.frz od (.dK kvs)) hd) W3 ∧ P (m + 1) σ3, bk := (tLkD D d (.dK kvs) (.frz od (.dK kvs)) W).nx } σ2 H2)
    (he : ∀ σ' (W1 : Wd F), Le W W1 → P xs.length σ' → D.nx σ' W1.H) : tLock (tFor (iKeys (tVar i)) g tx) D σ W.H := by
  refine ⟨d, .dK kvs, W.gh _ _ hd, True.intro, fun od => ?_⟩
  refine ⟨_, hi, d, od, rfl, .inl ⟨kvs, upd_same, for_it (walk_keys (d := d) (o := od) (kvs := kvs)) (fun m σ' H' => ∃ W1 : Wd (F.er d (W.gm hd)), W1.H = H' ∧ Le (W.lk d (.dK kvs) (.frz od (.dK kvs)) hd) W1 ∧ P m σ') ⟨W.lk d (.dK kvs) (.frz od (.dK kvs)) hd, rfl, Le.refl _, h0⟩ ?_ ?_ ?_⟩⟩
  · rintro m σ' _ _ ⟨W1, rfl, l1, _⟩
    exact W1.gh _ _ (l1.ex _ _ upd_same)
  · rintro m y σ' _ _ hm ⟨W1, rfl, l1, p⟩ ⟨rfl, k, v, e1, rfl⟩
    have hm' : m < xs.length := by rw [← hr.1]; exact hm
    obtain ⟨v', e2, _⟩ := hr.2 m _ (List.getElem?_eq_getElem hm')
    rw [e1] at e2
    cases e2
    exact hs od m xs[m] σ' W1 l1 (List.getElem?_eq_getElem hm') p
  · rintro σ' _ ⟨W1, rfl, l1, p⟩
    rw [hr.1] at p
    exact ⟨W1.gh _ _ (l1.ex _ _ upd_same), he σ' (W.ul d (.dK kvs) (.frz od (.dK kvs)) hd W1 l1) (W.ul_le hd W1 l1) p⟩
theorem q_forK {i : Nat} {g : TG} {d : Addr} {kvs : List (Key × V)} {xs : List (Int × α)} (hi : σ[i]? = some (some (.ref d))) (hd : W.G d = some (.dK kvs)) (hr : DictR r W.G kvs xs) (P : Nat → L2.St → Prop) (h0 : P 0 σ)
    (hs : ∀ od (m : Nat) x σ' (W1 : Wd (F.er d (W.gm hd))), Le (W.lk d (.dK kvs) (.frz od (.dK kvs)) hd) W1 → xs[m]? = some x → P m σ' → g (.int x.1) σ' W1.H fun σ2 H2 =>
      tx { tLkD D d (.dK kvs) (.frz od (.dK kvs)) W with nx := fun σ3 H3 => ∃ W3 : Wd (F.er d (W.gm hd)), W3.H = H3 ∧ Le (W.lk d (.dK kvs) (.frz od (.dK kvs)) hd) W3 ∧ P (m + 1) σ3, ct := fun σ3 H3 => ∃ W3 : Wd (F.er d (W.gm hd)), W3.H = H3 ∧ Le (W.lk d (.dK kvs) (.frz od (.dK kvs)) hd) W3 ∧ P (m + 1) σ3, bk := (tLkD { D with nx := tz D } d (.dK kvs) (.frz od (.dK kvs)) W).nx } σ2 H2)
    (he : ∀ σ' (W1 : Wd F), Le W W1 → P xs.length σ' → tz D σ' W1.H) : tSeq (tLock (tFor (iKeys (tVar i)) g tx)) tz D σ W.H := s_forK (D := { D with nx := tz D }) hi hd hr P h0 hs he
theorem s_retK {d : Addr} {kvs : List (Key × V)} {hd : W.G d = some (.dK kvs)} {od : Obj} {W1 : Wd (F.er d (W.gm hd))} {P : α → Prop} {D2 : Ends} (l : Le (W.lk d (.dK kvs) (.frz od (.dK kvs)) hd) W1) (n : Nt r isZ) (h : EvN te σ W1 r P)
    (hD : ∀ v H', D2.rt v H' = (H' d = some (.frz od (.dK kvs)) ∧ D.rt v (upd H' d (.dK kvs))))
    (k : ∀ v (W3 : Wd F) x, Le W W3 → r.rel W3.G v x → P x → D.rt v W3.H) : tRet te D2 σ W1.H := h W1 (Le.refl _) _ fun v W2 x l2 hv hx => by
  rw [hD]
  have g : W2.G d = some (.frz od (.dK kvs)) := (l.trans l2).ex _ _ upd_same
  exact ⟨W2.gh _ _ g, k v (W.ul d (.dK kvs) (.frz od (.dK kvs)) hd W2 (l.trans l2)) x (W.ul_le hd W2 (l.trans l2)) (n _ _ _ _ _ _ g ⟨_, _, rfl⟩ hv) hx⟩
/-! a dict that may be locked, read -/
def rDictZ {α : Type} (r : Rp α) : Rp (List (Int × α)) := ⟨fun G v xs => ∃ a kvs, v = .ref a ∧ (G a = some (.dK kvs) ∨ ∃ od, G a = some (.frz od (.dK kvs))) ∧ DictR r G kvs xs, fun e ⟨a, kvs, h1, h2, h3⟩ => ⟨a, kvs, h1, h2.imp (e _ _) (fun ⟨od, h⟩ => ⟨od, e _ _ h⟩), h3.mono e⟩⟩
theorem dictZ {G : Hp} {v : V} {xs : List (Int × α)} (h : (rDict r).rel G v xs) : (rDictZ r).rel G v xs := let ⟨a, kvs, h1, h2, h3⟩ := h; ⟨a, kvs, h1, .inl h2, h3⟩
theorem ev_dictZ {xs : List (Int × α)} (h : EvR te σ W (rDict r) xs) : EvR te σ W (rDictZ r) xs := fun W1 l Q q => h W1 l Q fun v W2 l2 hv => q v W2 l2 (dictZ hv)
theorem ev_dgetZ {xs : List (Int × α)} {k : Int} {x : α} (ha : EvR ta σ W (rDictZ r) xs) (hb : EvR tb σ W rInt k) (hx : dlook xs k = some x) : EvR (tDGet ta tb) σ W r x := fun W1 l Q q =>
  ha W1 l _ fun v W2 l2 hv => hb W2 (l.trans l2) _ fun w W3 l3 hw => by
    have hw : w = .int k := hw
    subst hw
    obtain ⟨d, kvs, rfl, hd, hr⟩ := hv
    rcases hr.look (k := k) with ⟨e, _⟩ | ⟨u, y, e, e2, hr⟩
    · rw [hx] at e; cases e
    · rw [hx] at e; cases e
      refine ⟨d, u, rfl, .inl ⟨kvs, Sum.inl k, ?_, rfl, e2.symm⟩, q u W3 (l2.trans l3) (r.mono l3.ex hr)⟩
      rcases hd with h | ⟨od, h⟩
      · exact .inl (W3.gh _ _ (l3.ex _ _ h))
      · exact .inr ⟨od, W3.gh _ _ (l3.ex _ _ h)⟩
abbrev SpWayToZ : Sp := FnN2 (rDictZ (rOpt rPr)) rInt (rList rInt) (fun came p => (∃ steps srcs, CameI steps srcs came) ∧ came.length ≤ 1000 ∧ p ∈ keysD came) (fun came p zs => ∃ s, WayB came p zs.reverse s ∧ dlook came s = some none)
/-! sets of whole numbers of one's own -/
structure OwnS (w : World) (W : Wd F) (p : Addr) (xs : List Int) : Prop where
  ex : ∃ (S : Int → Bool) (n : Nat), Own W p (SetO w p S n) ∧ (∀ j, S j = decide (j ∈ xs)) ∧ n ≤ xs.length
theorem OwnS.up {w : World} {p : Addr} {xs : List Int} (l : Le W W1) (h : OwnS w W p xs) : OwnS w W1 p xs := let ⟨S, n, a, b⟩ := h.ex; ⟨S, n, a.up l, b⟩
theorem q_asgS0 {w : World} {i : Nat} (k : ∀ p (W1 : Wd F), Le W W1 → W.H p = none → OwnS w W1 p [] → tz D (σ.set i (some (.ref p))) W1.H) : tSeq (tAsg (tCB (rSet0 w) tNil) (gName i)) tz D σ W.H :=
  ⟨rfl, fun p hp => k p (W.own p _ hp) (W.own_le hp) hp ⟨_, 0, W.own_at hp, fun j => by simp, Nat.zero_le _⟩⟩
theorem ev_sin {w : World} {i : Nat} {p : Addr} {xs : List Int} {k : Int} (ha : EvR ta σ W rInt k) (hi : σ[i]? = some (some (.ref p))) (o : OwnS w W p xs) : EvR (tOp (rSIn w) ta (tVar i)) σ W rBool (decide (k ∈ xs)) := fun W1 l Q q =>
  ha W1 l _ fun v W2 l2 hv => by
    have hv : v = .int k := hv
    subst hv
    obtain ⟨S, n, a, b, _⟩ := ((o.up l).up l2).ex
    exact ⟨_, hi, k, p, S, n, rfl, rfl, a.h, q _ W2 l2 (by rw [b k]; rfl)⟩
theorem s_sadd {w : World} {i : Nat} {p : Addr} {xs : List Int} {k : Int} (hi : σ[i]? = some (some (.ref p))) (o : OwnS w W p xs) (hb : EvR tb σ W rInt k) (hz : xs.length < 4000)
    (c : ∀ W1 : Wd F, Kp p W W1 → OwnS w W1 p (xs ++ [k]) → D.nx σ W1.H) : tDrop (tSAdd w (tVar i) (tCons tb tNil)) D σ W.H := by
  obtain ⟨S, n, a, b, hn⟩ := o.ex
  refine ⟨_, hi, ⟨p, S, n, rfl, a.h⟩, hb W (Le.refl _) _ fun v W1 l hv => ?_⟩
  have hv : v = .int k := hv
  subst hv
  have a1 := a.up l
  refine ⟨p, k, S, n, rfl, rfl, a1.h, Nat.lt_of_le_of_lt (show n + 1 ≤ 4000 by omega) (by decide), ?_⟩
  refine c (W1.put p _ a1.z a1.g) ⟨l.ex, fun q u ne x => (x.up l).put ne _ _⟩ ⟨_, _, W1.put_at a1.z a1.g, fun j => ?_, ?_⟩
  · rw [b j]
    by_cases h1 : j ∈ xs <;> by_cases h2 : j = k <;> simp [h1, h2]
  · rw [List.length_append]
    split
    · omega
    · simp; omega
end
end Q

namespace Q
open PySem L2
/-! ### what lines join, rings, sources joined, what lines bear: by the law's own reckoning -/
abbrev Pl (n : Nat) (p : Int) : Prop := 0 ≤ p ∧ p < (n : Int)
abbrev conn (n : Nat) (ls : List Ln) (S : List Int) (a b : Int) : Prop := lab n ls S a = lab n ls S b
abbrev del1 (S : List Int) (l : Int) : List Int := S.filter fun x => !decide (x = l)
section
variable {n : Nat} {ls : List Ln} {S S' : List Int} {a b c m l : Int}
theorem mem_del1 : c ∈ del1 S l ↔ c ∈ S ∧ c ≠ l := by simp [del1, List.mem_filter]
theorem nums_sub (nb : Nums ls.length S') (h : ∀ l ∈ S, l ∈ S') : Nums ls.length S := fun l hl => nb l (h l hl)
theorem del1_nums (nb : Nums ls.length S) : Nums ls.length (del1 S l) := nums_sub nb fun x hx => (mem_del1.mp hx).1
theorem ends_pl (ok : LinesOk n ls) (nb : Nums ls.length S) (h : l ∈ S) : Pl n (lineAt ls l).1 ∧ Pl n (lineAt ls l).2.1 := let b := ok.l2 _ (lineAt_mem (nb l h)); ⟨b.1, b.2.1⟩
theorem conn_mono (ok : LinesOk n ls) (nb : Nums ls.length S') (h : ∀ l ∈ S, l ∈ S') (ha : Pl n a) (hb : Pl n b) (e : conn n ls S a b) : conn n ls S' a b :=
  ((lab_ind ok (fun x => lab n ls S' x = lab n ls S' a) S (nums_sub nb h) (fun l hl => by rw [lab_line ok S' nb l (h l hl)]) a b ha hb e).mp rfl).symm
theorem conn_same (ok : LinesOk n ls) (nb : Nums ls.length S) (h : ∀ l, l ∈ S ↔ l ∈ S') (ha : Pl n a) (hb : Pl n b) : conn n ls S a b ↔ conn n ls S' a b :=
  ⟨conn_mono ok (nums_sub nb fun l hl => (h l).mpr hl) (fun l hl => (h l).mp hl) ha hb, conn_mono ok nb (fun l hl => (h l).mpr hl) ha hb⟩
theorem conn_snoc (ha : Pl n a) (hb : Pl n b) : conn n ls (S ++ [m]) a b ↔ conn n ls S a b ∨ (conn n ls S a (lineAt ls m).1 ∧ conn n ls S b (lineAt ls m).2.1) ∨ (conn n ls S a (lineAt ls m).2.1 ∧ conn n ls S b (lineAt ls m).1) := by
  unfold conn
  rw [lab_snoc ha, lab_snoc hb]
  by_cases h1 : lab n ls S a = lab n ls S (lineAt ls m).2.1 <;> by_cases h2 : lab n ls S b = lab n ls S (lineAt ls m).2.1
  · rw [if_pos h1, if_pos h2]
    exact ⟨fun _ => .inl (h1.trans h2.symm), fun _ => rfl⟩
  · rw [if_pos h1, if_neg h2]
    constructor
    · intro e; exact .inr (.inr ⟨h1, e.symm⟩)
    · rintro (e | ⟨_, e⟩ | ⟨_, e⟩)
      · exact absurd (e.symm.trans h1) h2
      · exact absurd e h2
      · exact e.symm
  · rw [if_neg h1, if_pos h2]
    constructor
    · intro e; exact .inr (.inl ⟨e, h2⟩)
    · rintro (e | ⟨e, _⟩ | ⟨e, _⟩)
      · exact absurd (e.trans h2) h1
      · exact e
      · exact absurd e h1
  · rw [if_neg h1, if_neg h2]
    constructor
    · exact .inl
    · rintro (e | ⟨_, e⟩ | ⟨e, _⟩)
      · exact e
      · exact absurd e h2
      · exact absurd e h1
theorem take_del (nd : S.Nodup) {i : Nat} (h : S[i]? = some l) : ∀ x ∈ S.take i, x ∈ del1 S l := fun x hx => by
  refine mem_del1.mpr ⟨List.mem_of_mem_take hx, fun e => ?_⟩
  subst e
  obtain ⟨j, hj, ej⟩ := List.getElem_of_mem hx
  rw [List.getElem_take] at ej
  rw [List.length_take] at hj
  have := idx_inj nd (List.getElem?_eq_some_iff.mpr ⟨by omega, ej⟩) h
  omega
/-- no ring: line by line in their order; and each of its own, without the others' order -/
theorem ring_free (ok : LinesOk n ls) (S : List Int) : S.Nodup → Nums ls.length S → ((∀ (i : Nat) l, S[i]? = some l → ¬ conn n ls (S.take i) (lineAt ls l).1 (lineAt ls l).2.1) ↔ ∀ l ∈ S, ¬ conn n ls (del1 S l) (lineAt ls l).1 (lineAt ls l).2.1) := by
  intro nd nb
  constructor
  · refine snoc_ind (C := fun S => S.Nodup → Nums ls.length S → (∀ (i : Nat) l, S[i]? = some l → ¬ conn n ls (S.take i) (lineAt ls l).1 (lineAt ls l).2.1) → ∀ l ∈ S, ¬ conn n ls (del1 S l) (lineAt ls l).1 (lineAt ls l).2.1) (fun _ _ _ l h => nomatch h) (fun xs m ih nd nb h l hl c => ?_) S nd nb
    have ndx := (List.nodup_append.mp nd).1
    have nbx : Nums ls.length xs := fun y hy => nb y (List.mem_append_left _ hy)
    have nm : m ∉ xs := fun z => (List.nodup_append.mp nd).2.2 m z m (by simp) rfl
    have hm : ¬ conn n ls xs (lineAt ls m).1 (lineAt ls m).2.1 := by
      have := h xs.length m (by simp)
      rwa [List.take_left] at this
    have em := ends_pl ok nb (show m ∈ xs ++ [m] by simp)
    have el := ends_pl ok nb hl
    rcases List.mem_append.mp hl with hx | hx
    · have ne : m ≠ l := fun e => nm (e ▸ hx)
      have e1 : del1 (xs ++ [m]) l = del1 xs l ++ [m] := by simp [del1, List.filter_append, ne]
      rw [e1, conn_snoc el.1 el.2] at c
      have up : ∀ {x y : Int}, Pl n x → Pl n y → conn n ls (del1 xs l) x y → conn n ls xs x y := fun hx hy e => conn_mono ok nbx (fun z hz => (mem_del1.mp hz).1) hx hy e
      have ll : conn n ls xs (lineAt ls l).1 (lineAt ls l).2.1 := lab_line ok xs nbx l hx
      rcases c with c | ⟨c1, c2⟩ | ⟨c1, c2⟩
      · refine ih ndx nbx (fun i l' e => ?_) l hx c
        have hi := (List.getElem?_eq_some_iff.mp e).1
        have := h i l' (by rw [List.getElem?_append_left hi]; exact e)
        rwa [List.take_append_of_le_length (by omega)] at this
      · exact hm (((up el.1 em.1 c1).symm.trans ll).trans (up el.2 em.2 c2))
      · exact hm ((((up el.1 em.2 c1).symm.trans ll).trans (up el.2 em.1 c2)).symm)
    · rw [List.mem_singleton] at hx
      subst hx
      refine hm (conn_mono ok nbx (fun z hz => ?_) el.1 el.2 c)
      obtain ⟨h1, h2⟩ := mem_del1.mp hz
      rcases List.mem_append.mp h1 with h | h
      · exact h
      · exact absurd (List.mem_singleton.mp h) h2
  · intro h i l e c
    have hl := List.mem_of_getElem? e
    have el := ends_pl ok nb hl
    exact h l hl (conn_mono ok (del1_nums nb) (take_del nd e) el.1 el.2 c)
end
/-- the law's word for a ring -/
def ringM (n : Nat) (ls : List Ln) (S : List Int) : Bool := S.any fun l => decide (lab n ls (del1 S l) (lineAt ls l).1 = lab n ls (del1 S l) (lineAt ls l).2.1)
def dupM (n : Nat) (ls : List Ln) (ss S : List Int) : Bool := !decide ((ss.map (lab n ls S)).Nodup)
def sumAt (needs : List Int) (ps : List Int) : Int := (ps.map fun p => needs.getD p.toNat 0).sum
def hasSrc (n : Nat) (ls : List Ln) (ss S : List Int) (p : Int) : Bool := !decide (((ledM n ls S [p]).filter fun q => decide (q ∈ ss)) = [])
/-- what a line bears, by the law -/
def bearM (n : Nat) (ls : List Ln) (needs ss S : List Int) (l : Int) : Int :=
  if hasSrc n ls ss (del1 S l) (lineAt ls l).2.1 then sumAt needs (ledM n ls (del1 S l) [(lineAt ls l).1])
  else if hasSrc n ls ss (del1 S l) (lineAt ls l).1 then sumAt needs (ledM n ls (del1 S l) [(lineAt ls l).2.1]) else 0
def overM (n : Nat) (ls : List Ln) (needs ss S : List Int) : List Int := S.filter fun l => decide ((lineAt ls l).2.2 < bearM n ls needs ss S l)
def whyM (n : Nat) (ls : List Ln) (needs ss S : List Int) : Str := if ringM n ls S then "ring" else if dupM n ls ss S then "sources" else if overM n ls needs ss S ≠ [] then "over" else ""
section
variable {n : Nat} {ls : List Ln} {needs ss S S' : List Int} {a b c m l : Int}
theorem ringM_false (ok : LinesOk n ls) (nd : S.Nodup) (nb : Nums ls.length S) : ringM n ls S = false ↔ ∀ (i : Nat) l, S[i]? = some l → ¬ conn n ls (S.take i) (lineAt ls l).1 (lineAt ls l).2.1 := by
  rw [ring_free ok S nd nb]
  unfold ringM
  rw [List.any_eq_false]
  constructor
  · intro h l hl; simpa using h l hl
  · intro h l hl; simpa using h l hl
theorem led_same (ok : LinesOk n ls) (nb : Nums ls.length S) (h : ∀ l, l ∈ S ↔ l ∈ S') {bs : List Int} (hb : ∀ b ∈ bs, Pl n b) : ledM n ls S bs = ledM n ls S' bs := by
  unfold ledM
  apply List.filter_congr
  intro p hp
  have hp := mem_rg.mp hp
  apply decide_eq_decide.mpr
  rw [List.mem_map, List.mem_map]
  constructor
  · rintro ⟨b, h1, h2⟩; exact ⟨b, h1, (conn_same ok nb h (hb b h1) hp).mp h2⟩
  · rintro ⟨b, h1, h2⟩; exact ⟨b, h1, (conn_same ok nb h (hb b h1) hp).mpr h2⟩
theorem del1_same (h : ∀ l, l ∈ S ↔ l ∈ S') (x : Int) : ∀ l, l ∈ del1 S x ↔ l ∈ del1 S' x := fun l => by rw [mem_del1, mem_del1, h l]
theorem ring_same (ok : LinesOk n ls) (nb : Nums ls.length S) (h : ∀ l, l ∈ S ↔ l ∈ S') : ringM n ls S = ringM n ls S' := by
  unfold ringM
  rw [Bool.eq_iff_iff, List.any_eq_true, List.any_eq_true]
  have key : ∀ x ∈ S, (conn n ls (del1 S x) (lineAt ls x).1 (lineAt ls x).2.1 ↔ conn n ls (del1 S' x) (lineAt ls x).1 (lineAt ls x).2.1) := fun x hx => let e := ends_pl ok nb hx; conn_same ok (del1_nums nb) (del1_same h x) e.1 e.2
  constructor
  · rintro ⟨x, hx, e⟩
    exact ⟨x, (h x).mp hx, decide_eq_true ((key x hx).mp (of_decide_eq_true e))⟩
  · rintro ⟨x, hx, e⟩
    exact ⟨x, (h x).mpr hx, decide_eq_true ((key x ((h x).mpr hx)).mpr (of_decide_eq_true e))⟩
theorem nodup_map {f : Int → Int} {xs : List Int} (nd : xs.Nodup) : (xs.map f).Nodup ↔ ∀ a ∈ xs, ∀ b ∈ xs, f a = f b → a = b := by
  constructor
  · intro h a ha b hb e
    obtain ⟨i, hi, rfl⟩ := List.getElem_of_mem ha
    obtain ⟨j, hj, rfl⟩ := List.getElem_of_mem hb
    have := (List.getElem_inj h (h₀ := by simpa using hi) (h₁ := by simpa using hj)).mp (by rw [List.getElem_map, List.getElem_map]; exact e)
    subst this; rfl
  · intro h
    refine List.pairwise_map.mpr (nd.imp_of_mem fun {a b} ha hb ne e => ne (h a ha b hb e))
theorem dup_iff (nd : ss.Nodup) : dupM n ls ss S = false ↔ ∀ a ∈ ss, ∀ b ∈ ss, conn n ls S a b → a = b := by
  unfold dupM
  rw [Bool.not_eq_false', decide_eq_true_eq, nodup_map nd]
theorem dup_same (ok : LinesOk n ls) (nd : ss.Nodup) (hs : ∀ s ∈ ss, Pl n s) (nb : Nums ls.length S) (h : ∀ l, l ∈ S ↔ l ∈ S') : dupM n ls ss S = dupM n ls ss S' := by
  rw [Bool.eq_iff_iff, ← Bool.not_eq_false, ← Bool.not_eq_false, dup_iff nd, dup_iff nd]
  constructor
  · intro z e; exact z fun a ha b hb k => e a ha b hb ((conn_same ok nb h (hs a ha) (hs b hb)).mp k)
  · intro z e; exact z fun a ha b hb k => e a ha b hb ((conn_same ok nb h (hs a ha) (hs b hb)).mpr k)
theorem bear_same (ok : LinesOk n ls) (nb : Nums ls.length S) (h : ∀ l, l ∈ S ↔ l ∈ S') (hl : l ∈ S) : bearM n ls needs ss S l = bearM n ls needs ss S' l := by
  have e := ends_pl ok nb hl
  have k := del1_same h l
  have one : ∀ {x : Int}, Pl n x → ledM n ls (del1 S l) [x] = ledM n ls (del1 S' l) [x] := fun hx => led_same ok (del1_nums nb) k (by simpa using hx)
  unfold bearM hasSrc
  rw [one e.1, one e.2]
theorem over_mem (ok : LinesOk n ls) (nb : Nums ls.length S) (h : ∀ l, l ∈ S ↔ l ∈ S') : ∀ x, x ∈ overM n ls needs ss S ↔ x ∈ overM n ls needs ss S' := fun x => by
  unfold overM
  rw [List.mem_filter, List.mem_filter, ← h x]
  constructor
  · rintro ⟨h1, h2⟩; exact ⟨h1, by rwa [← bear_same ok nb h h1]⟩
  · rintro ⟨h1, h2⟩; exact ⟨h1, by rwa [bear_same ok nb h h1]⟩
theorem nil_mem {xs ys : List Int} (h : ∀ x, x ∈ xs ↔ x ∈ ys) : xs = [] ↔ ys = [] := by
  rw [List.eq_nil_iff_forall_not_mem, List.eq_nil_iff_forall_not_mem]
  exact ⟨fun z x hx => z x ((h x).mpr hx), fun z x hx => z x ((h x).mp hx)⟩
theorem why_same (ok : LinesOk n ls) (nd : ss.Nodup) (hs : ∀ s ∈ ss, Pl n s) (nb : Nums ls.length S) (h : ∀ l, l ∈ S ↔ l ∈ S') : whyM n ls needs ss S = whyM n ls needs ss S' := by
  unfold whyM
  rw [ring_same ok nb h, dup_same ok nd hs nb h]
  have := nil_mem (over_mem (needs := needs) (ss := ss) ok nb h)
  simp only [ne_eq, this]
end
end Q

namespace Q
open PySem L2
/-! ### what a line bears, as the places are gone back over -/
/-- a place was come to over a line from another -/
abbrev Par (came : CameD) (p l b : Int) : Prop := dlook came p = some (some (l, b))
section
variable {n : Nat} {ls : List Ln} {needs ss S : List Int} {came : CameD} {a b c m l p q : Int}
/-- what goes for a state that may be, as to rings and sources -/
structure Good (n : Nat) (ls : List Ln) (ss S : List Int) : Prop where
  lk : LinesOk n ls
  nb : Nums ls.length S
  nd : S.Nodup
  hs : ∀ s ∈ ss, Pl n s
  ring : ∀ l ∈ S, ¬ conn n ls (del1 S l) (lineAt ls l).1 (lineAt ls l).2.1
  dup : ∀ a ∈ ss, ∀ b ∈ ss, conn n ls S a b → a = b
theorem par_at (c : CameI (stepsM n ls S) ss came) {i : Nat} (h : (keysD came)[i]? = some p) : (dlook came p = some none ∧ p ∈ ss) ∨ ∃ l b j, Par came p l b ∧ j < i ∧ (keysD came)[j]? = some b ∧ l ∈ S ∧ Joins ls l b p := by
  rcases c.at h with h | ⟨l, b, st, j, e, hj, hb, hs, hm⟩
  · exact .inl h
  · obtain ⟨_, rfl⟩ := stepsM_some hs
    obtain ⟨h1, h2⟩ := adj_joins hm
    exact .inr ⟨l, b, j, e, hj, hb, h1, h2⟩
theorem key_at (h : p ∈ keysD came) : ∃ i : Nat, (keysD came)[i]? = some p := by
  obtain ⟨i, hi, e⟩ := List.getElem_of_mem h
  exact ⟨i, by rw [List.getElem?_eq_getElem hi, e]⟩
theorem par_key (e : Par came p l b) : p ∈ keysD came := dlook_isSome.mpr ⟨_, e⟩
theorem par_idx (c : CameI (stepsM n ls S) ss came) {i : Nat} (h : (keysD came)[i]? = some p) (e : Par came p l b) : ∃ j, j < i ∧ (keysD came)[j]? = some b ∧ l ∈ S ∧ Joins ls l b p := by
  rcases par_at c h with ⟨z, _⟩ | ⟨l', b', j, e', r⟩
  · cases z.symm.trans e
  · cases e.symm.trans e'; exact ⟨j, r⟩
theorem key_pl (c : CameI (stepsM n ls S) ss came) (h : p ∈ keysD came) : Pl n p := by
  have := c.ks p h
  rw [stepsM_keys] at this
  exact mem_rg.mp this
theorem joins_ne (lk : LinesOk n ls) (nb : Nums ls.length S) (hl : l ∈ S) (j : Joins ls l a b) : a ≠ b := by
  have := lk.l2 _ (lineAt_mem (nb l hl))
  rcases j with ⟨h1, h2⟩ | ⟨h1, h2⟩
  · rw [← h1, ← h2]; exact this.2.2
  · rw [← h1, ← h2]; exact fun z => this.2.2 z.symm
theorem joins_conn (lk : LinesOk n ls) (nb : Nums ls.length S) (hl : l ∈ S) (j : Joins ls l a b) : conn n ls S a b := by
  have := lab_line lk S nb l hl
  rcases j with ⟨h1, h2⟩ | ⟨h1, h2⟩
  · rw [h1, h2] at this; exact this
  · rw [h1, h2] at this; exact this.symm
/-- a line leads to one place alone -/
theorem par_one (lk : LinesOk n ls) (nb : Nums ls.length S) (c : CameI (stepsM n ls S) ss came) (e : Par came p l b) (e' : Par came q l c') : p = q := by
  obtain ⟨i, hi⟩ := key_at (par_key e)
  obtain ⟨i', hi'⟩ := key_at (par_key e')
  obtain ⟨j, hj, hb, hl, h1⟩ := par_idx c hi e
  obtain ⟨j', hj', hb', _, h2⟩ := par_idx c hi' e'
  have : p = q ∨ (p = c' ∧ b = q) := by
    rcases h1 with ⟨x, y⟩ | ⟨x, y⟩ <;> rcases h2 with ⟨u, v⟩ | ⟨u, v⟩
    · exact .inl (y.symm.trans v)
    · exact .inr ⟨y.symm.trans v, x.symm.trans u⟩
    · exact .inr ⟨x.symm.trans u, y.symm.trans v⟩
    · exact .inl (x.symm.trans u)
  rcases this with h | ⟨h, h'⟩
  · exact h
  · exfalso
    subst h; subst h'
    have := idx_inj c.nd hi hb'
    have := idx_inj c.nd hi' hb
    omega
/-- without a line that led to none so far each place is joined to a source -/
theorem root_free (g : Good n ls ss S) (c : CameI (stepsM n ls S) ss came) (i : Nat) : ∀ p, (keysD came)[i]? = some p → (∀ (m : Nat) q b, m ≤ i → (keysD came)[m]? = some q → ¬ Par came q l b) → ∃ s ∈ ss, conn n ls (del1 S l) s p := by
  induction i using Nat.strongRecOn with
  | ind i ih =>
    intro p h nl
    rcases par_at c h with ⟨_, hp⟩ | ⟨l', b, j, e, hj, hb, hl, jn⟩
    · exact ⟨p, hp, rfl⟩
    · obtain ⟨s, hs, k⟩ := ih j hj b hb fun m q b hm => nl m q b (by omega)
      have ne : l' ≠ l := fun z => nl i p b (Nat.le_refl _) h (z ▸ e)
      exact ⟨s, hs, k.trans (joins_conn g.lk (del1_nums g.nb) (mem_del1.mpr ⟨hl, ne⟩) jn)⟩
theorem up_S (g : Good n ls ss S) (ha : Pl n a) (hb : Pl n b) (h : conn n ls (del1 S l) a b) : conn n ls S a b := conn_mono g.lk g.nb (fun z hz => (mem_del1.mp hz).1) ha hb h
theorem ring_joins (g : Good n ls ss S) (hl : l ∈ S) (j : Joins ls l a b) (h : conn n ls (del1 S l) a b) : False := by
  rcases j with ⟨h1, h2⟩ | ⟨h1, h2⟩
  · exact g.ring l hl (by rw [h1, h2]; exact h)
  · exact g.ring l hl (by rw [h1, h2]; exact h.symm)
theorem before_src (g : Good n ls ss S) (c : CameI (stepsM n ls S) ss came) (e : Par came p l b) : ∃ s ∈ ss, conn n ls (del1 S l) s b := by
  obtain ⟨i, hi⟩ := key_at (par_key e)
  obtain ⟨j, hj, hb, hl, jn⟩ := par_idx c hi e
  refine root_free g c j b hb fun m q b' hm hq e' => ?_
  have := par_one g.lk g.nb c e e'
  subst this
  have := idx_inj c.nd hi hq
  omega
theorem behind_none (g : Good n ls ss S) (c : CameI (stepsM n ls S) ss came) (e : Par came p l b) {s : Int} (hs : s ∈ ss) : ¬ conn n ls (del1 S l) p s := fun h => by
  obtain ⟨i, hi⟩ := key_at (par_key e)
  obtain ⟨j, hj, hb, hl, jn⟩ := par_idx c hi e
  obtain ⟨r, hr, k⟩ := before_src g c e
  have pp := key_pl c (par_key e)
  have pb := key_pl c (List.mem_of_getElem? hb)
  have k2 : conn n ls S r s := ((up_S g (g.hs r hr) pb k).trans (joins_conn g.lk g.nb hl jn)).trans (up_S g pp (g.hs s hs) h)
  have := g.dup r hr s hs k2
  subst this
  exact ring_joins g hl jn (h.trans k).symm
theorem behind_turn (g : Good n ls ss S) (c : CameI (stepsM n ls S) ss came) (e : Par came p l b) {b' l' : Int} (e' : Par came q l' b') (ne : q ≠ p) : conn n ls (del1 S l) p q ↔ conn n ls (del1 S l) p b' := by
  obtain ⟨i, hi⟩ := key_at (par_key e')
  obtain ⟨j, hj, hb, hl, jn⟩ := par_idx c hi e'
  have nl : l' ≠ l := fun z => by subst z; exact ne (par_one g.lk g.nb c e' e)
  have k : conn n ls (del1 S l) b' q := joins_conn g.lk (del1_nums g.nb) (mem_del1.mpr ⟨hl, nl⟩) jn
  exact ⟨fun h => h.trans k.symm, fun h => h.trans k⟩
theorem behind_later (g : Good n ls ss S) (c : CameI (stepsM n ls S) ss came) (e : Par came p l b) {i : Nat} (hi : (keysD came)[i]? = some p) (m : Nat) : ∀ q, m < i → (keysD came)[m]? = some q → ¬ conn n ls (del1 S l) p q := by
  induction m using Nat.strongRecOn with
  | ind m ih =>
    intro q hm hq k
    rcases par_at c hq with ⟨_, hp⟩ | ⟨l', b', j, e', hj, hb, hl, jn⟩
    · exact behind_none g c e hp k
    · have ne : q ≠ p := fun z => by
        subst z
        have := idx_inj c.nd hi hq
        omega
      exact ih j hj b' (by omega) hb ((behind_turn g c e e' ne).mp k)
theorem behind_key (g : Good n ls ss S) (c : CameR (stepsM n ls S) ss came) (e : Par came p l b) (hq : Pl n q) (h : conn n ls (del1 S l) p q) : q ∈ keysD came := by
  have pp := key_pl c.i (par_key e)
  have hp := (reached_led g.lk g.nb g.hs c p).mp (par_key e)
  obtain ⟨_, s, hs, k⟩ := mem_ledM.mp hp
  exact (reached_led g.lk g.nb g.hs c q).mpr (mem_ledM.mpr ⟨hq, s, hs, k.trans (up_S g pp hq h)⟩)
theorem hasSrc_iff (hs : ∀ s ∈ ss, Pl n s) {W : List Int} : hasSrc n ls ss W p = true ↔ ∃ s ∈ ss, conn n ls W p s := by
  unfold hasSrc
  rw [Bool.not_eq_true', decide_eq_false_iff_not]
  constructor
  · intro h
    obtain ⟨q, hq⟩ := List.exists_mem_of_ne_nil _ h
    obtain ⟨h1, h2⟩ := List.mem_filter.mp hq
    obtain ⟨_, b, hb, k⟩ := mem_ledM.mp h1
    rw [List.mem_singleton] at hb
    subst hb
    exact ⟨q, of_decide_eq_true h2, k⟩
  · rintro ⟨s, h, k⟩ z
    have : s ∈ ((ledM n ls W [p]).filter fun q => decide (q ∈ ss)) := List.mem_filter.mpr ⟨mem_ledM.mpr ⟨hs s h, p, by simp, k⟩, decide_eq_true h⟩
    rw [z] at this
    cases this
theorem bear_par (g : Good n ls ss S) (c : CameI (stepsM n ls S) ss came) (e : Par came p l b) : bearM n ls needs ss S l = sumAt needs (ledM n ls (del1 S l) [p]) := by
  obtain ⟨i, hi⟩ := key_at (par_key e)
  obtain ⟨j, hj, hb, hl, jn⟩ := par_idx c hi e
  have f : hasSrc n ls ss (del1 S l) p = false := by
    cases z : hasSrc n ls ss (del1 S l) p with
    | false => rfl
    | true =>
      obtain ⟨s, hs, k⟩ := (hasSrc_iff g.hs).mp z
      exact absurd k (behind_none g c e hs)
  have t : hasSrc n ls ss (del1 S l) b = true := by
    obtain ⟨s, hs, k⟩ := before_src g c e
    exact (hasSrc_iff g.hs).mpr ⟨s, hs, k.symm⟩
  unfold bearM
  rcases jn with ⟨h1, h2⟩ | ⟨h1, h2⟩
  · rw [h1, h2, f, t]; rfl
  · rw [h1, h2, t]; rfl
theorem bear_none (g : Good n ls ss S) (c : CameR (stepsM n ls S) ss came) (hl : l ∈ S) (h : ∀ p b, ¬ Par came p l b) : bearM n ls needs ss S l = 0 := by
  have pe := ends_pl g.lk g.nb hl
  have key : ∀ {x y s : Int}, Joins ls l x y → Pl n x → Pl n y → s ∈ ss → ¬ conn n ls (del1 S l) x s := by
    intro x y s j hx hy hs k
    have kx : x ∈ keysD came := (reached_led g.lk g.nb g.hs c x).mpr (mem_ledM.mpr ⟨hx, s, hs, (up_S g hx (g.hs s hs) k).symm⟩)
    have ky : y ∈ keysD came := (reached_led g.lk g.nb g.hs c y).mpr (mem_ledM.mpr ⟨hy, s, hs, (up_S g hx (g.hs s hs) k).symm.trans (joins_conn g.lk g.nb hl j)⟩)
    obtain ⟨i, hi⟩ := key_at ky
    obtain ⟨r, hr, k2⟩ := root_free g c.i i y hi fun m q b _ _ => h q b
    have := g.dup r hr s hs (((up_S g (g.hs r hr) hy k2).trans (joins_conn g.lk g.nb hl j).symm).trans (up_S g hx (g.hs s hs) k))
    subst this
    exact ring_joins g hl j (k.trans k2)
  have f1 : hasSrc n ls ss (del1 S l) (lineAt ls l).1 = false := by
    cases z : hasSrc n ls ss (del1 S l) (lineAt ls l).1 with
    | false => rfl
    | true =>
      obtain ⟨s, hs, k⟩ := (hasSrc_iff g.hs).mp z
      exact absurd k (key (y := (lineAt ls l).2.1) (.inl ⟨rfl, rfl⟩) pe.1 pe.2 hs)
  have f2 : hasSrc n ls ss (del1 S l) (lineAt ls l).2.1 = false := by
    cases z : hasSrc n ls ss (del1 S l) (lineAt ls l).2.1 with
    | false => rfl
    | true =>
      obtain ⟨s, hs, k⟩ := (hasSrc_iff g.hs).mp z
      exact absurd k (key (y := (lineAt ls l).1) (.inr ⟨rfl, rfl⟩) pe.2 pe.1 hs)
  unfold bearM
  rw [f1, f2]
  rfl
end
/-! the sums -/
theorem sum_perm {xs ys : List Int} (h : xs.Perm ys) : xs.sum = ys.sum := by
  induction h with
  | nil => rfl
  | cons x _ ih => rw [List.sum_cons, List.sum_cons, ih]
  | swap x y l => simp only [List.sum_cons]; omega
  | trans _ _ h1 h2 => exact h1.trans h2
def sumC (C : Int → Bool) (ks B : List Int) : Int := sumAt B (ks.filter C)
theorem sumAt_snoc {B ks : List Int} {k : Int} : sumAt B (ks ++ [k]) = sumAt B ks + B.getD k.toNat 0 := by simp [sumAt]
theorem sumC_snoc {C : Int → Bool} {B ks : List Int} {k : Int} : sumC C (ks ++ [k]) B = sumC C ks B + if C k then B.getD k.toNat 0 else 0 := by
  unfold sumC
  rw [List.filter_append]
  by_cases h : C k
  · rw [if_pos h, List.filter_cons_of_pos h, List.filter_nil, sumAt_snoc]
  · rw [if_neg h, List.filter_cons_of_neg h, List.filter_nil, List.append_nil]; omega
theorem sumC_same {C : Int → Bool} {B B' ks : List Int} (h : ∀ k ∈ ks, C k = true → B.getD k.toNat 0 = B'.getD k.toNat 0) : sumC C ks B = sumC C ks B' := by
  unfold sumC sumAt
  congr 1
  apply List.map_congr_left
  intro k hk
  obtain ⟨h1, h2⟩ := List.mem_filter.mp hk
  exact h k h1 h2
theorem getD_set {B : List Int} {i j : Nat} {v : Int} (h : i < B.length) : (B.set i v).getD j 0 = if i = j then v else B.getD j 0 := by
  rw [List.getD_eq_getElem?_getD, List.getD_eq_getElem?_getD, List.getElem?_set]
  by_cases e : i = j
  · rw [if_pos e, if_pos e, if_pos h]; rfl
  · rw [if_neg e, if_neg e]
theorem sumC_set {C : Int → Bool} {B : List Int} {b : Nat} {v : Int} (hb : b < B.length) : ∀ (ks : List Int), ks.Nodup → (∀ k ∈ ks, 0 ≤ k) → (b : Int) ∈ ks → C (b : Int) = true → sumC C ks (B.set b (B.getD b 0 + v)) = sumC C ks B + v := by
  refine snoc_ind (fun _ _ h => nomatch h) fun xs x ih nd hk hm hc => ?_
  rw [sumC_snoc, sumC_snoc]
  have ndx := (List.nodup_append.mp nd).1
  have hx : x ∉ xs := fun z => (List.nodup_append.mp nd).2.2 x z x (by simp) rfl
  rcases List.mem_append.mp hm with h | h
  · have ne : x ≠ (b : Int) := fun z => hx (z ▸ h)
    have x0 := hk x (by simp)
    rw [ih ndx (fun k h => hk k (List.mem_append_left _ h)) h hc, getD_set hb, if_neg (show ¬ b = x.toNat by omega)]
    omega
  · rw [List.mem_singleton] at h
    subst h
    rw [if_pos hc, if_pos hc, sumC_same (B' := B) fun k hk' _ => ?_, getD_set hb, if_pos (by simp)]
    · simp only [Int.toNat_natCast]; omega
    · have k0 := hk k (List.mem_append_left _ hk')
      rw [getD_set hb, if_neg]
      intro z
      exact hx (by rw [z]; rw [Int.toNat_of_nonneg k0]; exact hk')
section
variable {n : Nat} {ls : List Ln} {needs ss S : List Int} {came : CameD} {a b c m l p q : Int}
abbrev Cb (n : Nat) (ls : List Ln) (S : List Int) (l p : Int) : Int → Bool := fun q => decide (conn n ls (del1 S l) p q)
/-- the sums that stand while the places are gone back over: those from the m-th on are done -/
structure BackI (n : Nat) (ls : List Ln) (needs S : List Int) (came : CameD) (m : Nat) (B : List Int) : Prop where
  len : B.length = n
  sums : ∀ (i : Nat) p l b, i < m → (keysD came)[i]? = some p → Par came p l b → sumC (Cb n ls S l p) ((keysD came).take m) B = sumC (Cb n ls S l p) (keysD came) needs
theorem BackI.start (h : needs.length = n) : BackI n ls needs S came (keysD came).length needs := ⟨h, fun i p l b _ _ _ => by rw [List.take_length]⟩
theorem take_snoc {ks : List Int} {m : Nat} {k : Int} (h : ks[m]? = some k) : ks.take (m + 1) = ks.take m ++ [k] := by rw [List.take_add_one, h]; rfl
theorem BackI.none (g : Good n ls ss S) (c : CameI (stepsM n ls S) ss came) {m : Nat} {B : List Int} {k : Int} (h : BackI n ls needs S came (m + 1) B) (hk : (keysD came)[m]? = some k) (e : dlook came k = some none) : BackI n ls needs S came m B := ⟨h.len, fun i p l b hi hp hpar => by
  rw [← h.sums i p l b (by omega) hp hpar, take_snoc hk, sumC_snoc]
  have : k ∈ ss := by
    rcases par_at c hk with ⟨_, z⟩ | ⟨l, b, j, e', _⟩
    · exact z
    · cases e.symm.trans e'
  have : Cb n ls S l p k = false := decide_eq_false (behind_none g c hpar this)
  rw [this]
  simp⟩
theorem BackI.val (g : Good n ls ss S) (c : CameR (stepsM n ls S) ss came) {m : Nat} {B : List Int} {k : Int} (h : BackI n ls needs S came (m + 1) B) (hk : (keysD came)[m]? = some k) (e : Par came k l b) : B.getD k.toNat 0 = bearM n ls needs ss S l := by
  rw [bear_par g c.i e]
  have h1 := h.sums m k l b (Nat.lt_succ_self m) hk e
  rw [take_snoc hk, sumC_snoc, if_pos (decide_eq_true rfl)] at h1
  have z : sumC (Cb n ls S l k) ((keysD came).take m) B = 0 := by
    unfold sumC
    rw [List.filter_eq_nil_iff.mpr fun q hq => ?_]
    · rfl
    · obtain ⟨j, hj, ej⟩ := List.getElem_of_mem hq
      rw [List.getElem_take] at ej
      rw [List.length_take] at hj
      simpa using behind_later g c.i e hk j q (by omega) (by rw [List.getElem?_eq_getElem (by omega), ej])
  rw [z] at h1
  have : B.getD k.toNat 0 = sumC (Cb n ls S l k) (keysD came) needs := by omega
  rw [this]
  unfold sumC sumAt
  refine sum_perm (List.Perm.map _ ((List.perm_ext_iff_of_nodup (c.i.nd.filter _) ledM_nodup).mpr fun q => ?_))
  rw [List.mem_filter, mem_ledM]
  constructor
  · rintro ⟨h1, h2⟩
    exact ⟨key_pl c.i h1, k, by simp, of_decide_eq_true h2⟩
  · rintro ⟨a1, k', a2, a3⟩
    rw [List.mem_singleton] at a2
    subst a2
    exact ⟨behind_key g c e a1 a3, decide_eq_true a3⟩
theorem BackI.some (g : Good n ls ss S) (c : CameI (stepsM n ls S) ss came) {m : Nat} {B : List Int} {k : Int} (h : BackI n ls needs S came (m + 1) B) (hk : (keysD came)[m]? = some k) (e : Par came k l b) : BackI n ls needs S came m (B.set b.toNat (B.getD b.toNat 0 + B.getD k.toNat 0)) := ⟨by rw [List.length_set]; exact h.len, fun i p l' b' hi hp hpar => by
  obtain ⟨j, hj, hb, hl, jn⟩ := par_idx c hk e
  have pb := key_pl c (List.mem_of_getElem? hb)
  have ne : k ≠ p := fun z => by
    subst z
    have := idx_inj c.nd hk hp
    omega
  rw [← h.sums i p l' b' (by omega) hp hpar, take_snoc hk, sumC_snoc]
  have tw := behind_turn g c hpar e ne
  have bt : ((b.toNat : Nat) : Int) = b := Int.toNat_of_nonneg pb.1
  have bl : b.toNat < B.length := by rw [h.len]; omega
  have mem : b ∈ (keysD came).take m := by
    refine List.mem_iff_getElem?.mpr ⟨j, ?_⟩
    rw [List.getElem?_take, if_pos hj, hb]
  by_cases z : conn n ls (del1 S l') p k
  · rw [if_pos (decide_eq_true z)]
    exact sumC_set bl _ (c.nd.sublist (List.take_sublist _ _)) (fun q hq => (key_pl c (List.mem_of_mem_take hq)).1) (by rw [bt]; exact mem) (by rw [bt]; exact decide_eq_true (tw.mp z))
  · rw [if_neg (by simpa using z)]
    rw [Int.add_zero]
    refine sumC_same fun q hq hc => ?_
    rw [getD_set bl, if_neg]
    intro w
    have q0 := (key_pl c (List.mem_of_mem_take hq)).1
    have : q = b := by omega
    subst this
    exact z (tw.mpr (of_decide_eq_true hc))⟩
/-- the lines that are done -/
def doneL (came : CameD) (m : Nat) (l : Int) : Bool := ((keysD came).drop m).any fun p => match dlook came p with
  | some (some (l', _)) => decide (l' = l)
  | _ => false
theorem doneL_end : doneL came (keysD came).length l = false := by unfold doneL; rw [List.drop_length]; rfl
theorem drop_cons {ks : List Int} {m : Nat} {k : Int} (h : ks[m]? = some k) : ks.drop m = k :: ks.drop (m + 1) := by
  have hm := (List.getElem?_eq_some_iff.mp h)
  obtain ⟨h1, h2⟩ := hm
  rw [List.drop_eq_getElem_cons h1, h2]
theorem doneL_none {m : Nat} {k : Int} (hk : (keysD came)[m]? = some k) (e : dlook came k = some none) : doneL came m l = doneL came (m + 1) l := by
  unfold doneL
  rw [drop_cons hk, List.any_cons, e]
  rfl
theorem doneL_some {m : Nat} {k l' : Int} (hk : (keysD came)[m]? = some k) (e : Par came k l' b) : doneL came m l = (decide (l' = l) || doneL came (m + 1) l) := by
  unfold doneL
  rw [drop_cons hk, List.any_cons, e]
def bearsI (n : Nat) (ls : List Ln) (needs ss S : List Int) (came : CameD) (O : List Int) (m : Nat) : List (Int × Int) := O.map fun l => (l, if doneL came m l then bearM n ls needs ss S l else 0)
theorem bearsI_end {O : List Int} : bearsI n ls needs ss S came O (keysD came).length = O.map fun l => (l, 0) := by
  unfold bearsI
  apply List.map_congr_left
  intro l _
  rw [doneL_end]
  rfl
theorem bearsI_none {O : List Int} {m : Nat} {k : Int} (hk : (keysD came)[m]? = some k) (e : dlook came k = some none) : bearsI n ls needs ss S came O m = bearsI n ls needs ss S came O (m + 1) := by
  unfold bearsI
  apply List.map_congr_left
  intro l _
  rw [doneL_none hk e]
theorem bearsI_some {O : List Int} {m : Nat} {k : Int} (hl : l ∈ O) (hk : (keysD came)[m]? = some k) (e : Par came k l b) : dput (bearsI n ls needs ss S came O (m + 1)) l (bearM n ls needs ss S l) = bearsI n ls needs ss S came O m := by
  unfold dput bearsI
  rw [if_pos (by rw [List.any_map, List.any_eq_true]; exact ⟨l, hl, decide_eq_true rfl⟩), List.map_map]
  apply List.map_congr_left
  intro x _
  rw [doneL_some hk e]
  show (if x = l then (x, bearM n ls needs ss S l) else (x, if doneL came (m + 1) x = true then bearM n ls needs ss S x else 0)) = _
  by_cases z : x = l
  · subst z; simp
  · rw [if_neg z, decide_eq_false (fun w => z w.symm)]; rfl
theorem bearsI_keys {O : List Int} {m : Nat} : keysD (bearsI n ls needs ss S came O m) = O := by unfold bearsI; simp [keysD, Function.comp_def]
theorem bearsI_zero {O : List Int} (hO : ∀ l ∈ O, l ∈ S) (g : Good n ls ss S) (c : CameR (stepsM n ls S) ss came) : bearsI n ls needs ss S came O 0 = O.map fun l => (l, bearM n ls needs ss S l) := by
  unfold bearsI
  apply List.map_congr_left
  intro l hl
  by_cases z : doneL came 0 l = true
  · rw [if_pos z]
  · rw [if_neg z, bear_none g c (hO l hl)]
    intro p b e
    refine z ?_
    unfold doneL
    rw [List.drop_zero, List.any_eq_true]
    exact ⟨p, par_key e, by rw [e]; exact decide_eq_true rfl⟩
theorem dlook_map {β : Type} {f : Int → β} : ∀ {O : List Int}, l ∈ O → dlook (O.map fun l => (l, f l)) l = some (f l)
  | x :: xs, h => by
    rw [List.map_cons, dlook_cons]
    by_cases e : x = l
    · rw [if_pos e, e]
    · rw [if_neg e]
      exact dlook_map (by rcases List.mem_cons.mp h with z | z; exact absurd z.symm e; exact z)
theorem way_in (c : CameI (stepsM n ls S) ss came) {xs : List Int} {p0 : Int} (h : WayB came p0 xs p) : (∀ l ∈ xs, l ∈ S) ∧ ∀ i0 : Nat, (keysD came)[i0]? = some p0 → ∃ i : Nat, (keysD came)[i]? = some p ∧ xs.length + i ≤ i0 := by
  induction h with
  | nil => exact ⟨fun l h => absurd h List.not_mem_nil, fun i0 h => ⟨i0, h, by simp⟩⟩
  | snoc w e ih =>
    obtain ⟨a1, a2⟩ := ih
    obtain ⟨i, hi⟩ := key_at (par_key e)
    obtain ⟨j, hj, hb, hl, _⟩ := par_idx c hi e
    refine ⟨fun l h => ?_, fun i0 h => ?_⟩
    · rcases List.mem_append.mp h with h | h
      · exact a1 l h
      · rw [List.mem_singleton.mp h]; exact hl
    · obtain ⟨i', hi', hle⟩ := a2 i0 h
      have := idx_inj c.nd hi hi'
      refine ⟨j, hb, ?_⟩
      rw [List.length_append]
      simp
      omega
theorem adj_fun {nums : List Int} (ok : LinesOk n ls) (hx : 0 ≤ l ∧ l < (ls.length : Int)) : (fun (m : Nat) => adjM ls (nums ++ [l]) (m : Int)) = fun m => if m = (lineAt ls l).2.1.toNat then (if m = (lineAt ls l).1.toNat then adjM ls nums (m : Int) ++ [(l, (lineAt ls l).2.1)] else adjM ls nums (m : Int)) ++ [(l, (lineAt ls l).1)] else (if m = (lineAt ls l).1.toNat then adjM ls nums (m : Int) ++ [(l, (lineAt ls l).2.1)] else adjM ls nums (m : Int)) := by
  have hln := ok.l2 _ (lineAt_mem hx)
  funext m
  rw [adjM_snoc]
  by_cases c1 : (lineAt ls l).1 = (m : Int)
  · have c2 : ¬ m = (lineAt ls l).2.1.toNat := by omega
    have c3 : m = (lineAt ls l).1.toNat := by omega
    rw [if_pos c1, if_neg c2, if_pos c3]
  · have c3 : ¬ m = (lineAt ls l).1.toNat := by omega
    by_cases c4 : (lineAt ls l).2.1 = (m : Int)
    · have c2 : m = (lineAt ls l).2.1.toNat := by omega
      rw [if_neg c1, if_pos c4, if_pos c2, if_neg c3]
    · have c2 : ¬ m = (lineAt ls l).2.1.toNat := by omega
      rw [if_neg c1, if_neg c4, if_neg c2, if_neg c3, List.append_nil]
end
end Q

namespace Q
open PySem PySem.Spec PyProof.Rows L2 HotX L2H
section
variable {F : Fr} {K : PySem.W.Frag} {σ : L2.St} {W W1 : Wd F} {ta tb te tc tl ti tk tv : TE} {α β γ δ : Type} {r : Rp α} {s : Rp β} {t : Rp γ} {D : Ends} {tz tx ty : TS}
theorem rt2_tup {G : Hp} {v : V} {x y : Int} (h : (rT2 rInt rInt).rel G v (x, y)) : ∃ a, v = .ref a ∧ G a = some (.tup ([x, y].map V.int)) := by
  obtain ⟨a, u, w, rfl, h1, h2, h3⟩ := h
  have h2 : u = .int x := h2
  have h3 : w = .int y := h3
  subst h2; subst h3
  exact ⟨a, rfl, h1⟩
theorem ev_inT2 {x y z : Int} (ha : EvR ta σ W rInt x) (hb : EvR tb σ W (rT2 rInt rInt) (y, z)) : EvR (tOp (rIn K false) ta tb) σ W rBool (decide (x ∈ [y, z])) :=
  ev_op ha hb fun W1 v w Q l hv hw q => by
    obtain ⟨a, rfl, h1⟩ := rt2_tup hw
    have hv : v = .int x := hv
    subst hv
    refine ⟨a, _, rfl, .inr (sqT_of W1.gh h1), rfl, flat_ints [y, z], ?_⟩
    rw [inV_ints]
    exact q _ W1 (Le.refl _) rfl
theorem ev_neg {tn : TE} {x : Int} (h : EvR ta σ W rInt x) (he : tn = fun σ H Q => ta σ H fun x H1 => ∃ i, x = .int i ∧ Q (.int (-i)) H1) : EvR tn σ W rInt (-x) := by
  subst he
  exact fun W1 l Q q => h W1 l _ fun v W2 l2 hv => ⟨x, hv, q _ W2 l2 rfl⟩
theorem ty_t2 : TyR (rT2 r s) "tuple" := fun K G H v x e h => by
  obtain ⟨a, u, w, rfl, h1, _⟩ := h
  exact .base (.tup (e _ _ h1))
theorem ev_lenT2 {x : α × β} (ha : EvR ta σ W (rT2 r s) x) : EvR (tCB (oLenA K) (tCons ta tNil)) σ W rInt 2 := fun W1 l Q q => ha W1 l _ fun v W2 l2 hv => by
  obtain ⟨a, u, w, rfl, h1, _⟩ := hv
  exact .inl ⟨a, [u, w], rfl, .inr (sqT_of W2.gh h1), q _ W2 l2 rfl⟩
theorem rising_eq {xs ys : List Int} (h1 : xs.Pairwise (· < ·)) (h2 : ys.Pairwise (· < ·)) (h : ∀ k, k ∈ xs ↔ k ∈ ys) : xs = ys := by
  induction xs generalizing ys with
  | nil =>
    cases ys with
    | nil => rfl
    | cons y ys => exact absurd ((h y).mpr (by simp)) List.not_mem_nil
  | cons x xs ih =>
    cases ys with
    | nil => exact absurd ((h x).mp (by simp)) List.not_mem_nil
    | cons y ys =>
      have a1 := List.pairwise_cons.mp h1
      have a2 := List.pairwise_cons.mp h2
      have e : x = y := by
        rcases List.mem_cons.mp ((h x).mp (by simp)) with z | z
        · exact z
        · rcases List.mem_cons.mp ((h y).mpr (by simp)) with z2 | z2
          · exact z2.symm
          · have := a1.1 y z2
            have := a2.1 x z
            omega
      subst e
      congr 1
      refine ih a1.2 a2.2 fun k => ⟨fun hk => ?_, fun hk => ?_⟩
      · rcases List.mem_cons.mp ((h k).mp (by simp [hk])) with z | z
        · have := a1.1 k hk; omega
        · exact z
      · rcases List.mem_cons.mp ((h k).mpr (by simp [hk])) with z | z
        · have := a2.1 k hk; omega
        · exact z
theorem eo_sortedSet {w : World} {xs : List Int} (ha : EvR ta σ W (rList rInt) xs) (hx : xs.Pairwise (· < ·)) (hl : xs.length ≤ 60) : EvO (tCB (rSortedSet w) (tCons (tCB (rSetI K w) (tCons ta tNil)) tNil)) σ W rInt xs := fun W1 l Q q => ha W1 l _ fun v W2 l2 hv => by
  obtain ⟨a, vs, rfl, h1, h2⟩ := hv
  have e := All2.ints h2
  subst e
  refine ⟨a, xs, rfl, sqL_of W2.gh h1, by omega, fun p c hp hc => ⟨p, _, c, rfl, upd_same, by omega, fun ns p' a1 a2 a3 hp' => ?_⟩⟩
  have e : ns = xs := rising_eq a1 hx fun k => by rw [a2 k]; simp
  subst e
  have l3 := W2.own_le (o := SetO w p (fun j => decide (j ∈ ns)) c) hp
  have l4 := (W2.own p (SetO w p (fun j => decide (j ∈ ns)) c) hp).own_le (o := .lst (ns.map V.int)) hp'
  exact q p' _ ((W2.own p _ hp).own p' _ hp') ((l2.trans l3).trans l4) (le_fresh (l2.trans l3) hp') ((W2.own p _ hp).own_at hp') (All2.ofInts ns)
theorem ev_lenSet {xs : List Int} (ha : EvR ta σ W (rList rInt) xs) (nd : xs.Nodup) (hl : xs.length < 64) : EvR (tLenSetI K ta) σ W rInt (xs.length : Nat) := fun W1 l Q q => ha W1 l _ fun v W2 l2 hv => by
  obtain ⟨a, vs, rfl, h1, h2⟩ := hv
  have e := All2.ints h2
  subst e
  exact ⟨a, xs, rfl, sqL_of W2.gh h1, hl, nd, q _ W2 l2 rfl⟩
end
end Q

/-! sorted lists exactly; truth of lists; what is told of a state that may not be; errors that pass through -/
namespace Q
open PySem L2
def srt (xs : List Int) : List Int := xs.mergeSort (fun a b => decide (a ≤ b))
theorem srt_perm {xs : List Int} : (srt xs).Perm xs := List.mergeSort_perm _ _
theorem srt_le {xs : List Int} : (srt xs).Pairwise (· ≤ ·) := by
  have := List.pairwise_mergeSort (le := fun (a b : Int) => decide (a ≤ b)) (fun a b c h1 h2 => by simp at *; omega) (fun a b => by simp; omega) xs
  exact this.imp fun h => of_decide_eq_true h
theorem srt_mem {xs : List Int} {x : Int} : x ∈ srt xs ↔ x ∈ xs := srt_perm.mem_iff
theorem srt_nd {xs : List Int} (h : xs.Nodup) : (srt xs).Nodup := srt_perm.nodup_iff.mpr h
theorem srt_len {xs : List Int} : (srt xs).length = xs.length := srt_perm.length_eq
theorem le_eq {xs ys : List Int} (h : xs.Perm ys) (h1 : xs.Pairwise (· ≤ ·)) (h2 : ys.Pairwise (· ≤ ·)) : xs = ys := List.Perm.eq_of_pairwise (fun a b _ _ x y => by omega) h1 h2 h
theorem srt_lt {xs : List Int} (h : xs.Nodup) : (srt xs).Pairwise (· < ·) := by
  have h1 := srt_le (xs := xs)
  have h2 := srt_nd h
  exact (h1.and h2).imp fun ⟨a, b⟩ => by omega
theorem srt_of {xs : List Int} (h : xs.Pairwise (· ≤ ·)) : srt xs = xs := le_eq srt_perm srt_le h
section
variable {F : Fr} {K : PySem.W.Frag} {σ : L2.St} {W W1 : Wd F} {ta tb te tc tl ti tk tv : TE} {α β γ δ : Type} {r : Rp α} {s : Rp β} {t : Rp γ} {D : Ends} {tz tx ty : TS}
theorem eo_srt {xs : List Int} (ha : EvR ta σ W (rList rInt) xs) : EvO (tCB (rSortedI K) (tCons ta tNil)) σ W rInt (srt xs) := fun W1 l Q q => eo_sorted ha W1 l Q fun p vs W2 ys l2 hp x a h => by
  have : ys = srt xs := le_eq (h.1.trans srt_perm.symm) h.2 srt_le
  rw [this] at a
  exact q p vs W2 l2 hp x a
theorem ev_truthL {xs : List α} (ha : EvR ta σ W (rList r) xs) : EvB (fun σ H Q => ta σ H fun x H' => ∃ k, TruV K x H' k ∧ Q k H') σ W (!xs.isEmpty) := fun W1 l Q q => ha W1 l _ fun v W2 l2 hv => by
  obtain ⟨a, vs, rfl, h1, h2⟩ := hv
  have e : xs.isEmpty = vs.isEmpty := by
    have := h2.1
    cases xs <;> cases vs <;> simp_all
  refine ⟨!xs.isEmpty, ?_, q W2 l2⟩
  rw [e]
  exact .inl ⟨vs, sqL_of W2.gh h1, rfl⟩
theorem ev_someN {P : α → Prop} (h : EvN te σ W r P) : EvN te σ W (rOpt r) (fun o => ∃ y, o = some y ∧ P y) := fun W1 l Q q => h W1 l Q fun v W2 x l2 hv hx => q v W2 (some x) l2 hv ⟨x, rfl, hx⟩
end
/-! len(set(xs)) -/
def uniq (xs : List Int) : List Int := xs.foldl PyProof.Rows.step_dedup []
theorem uniq_snoc {xs : List Int} {x : Int} : uniq (xs ++ [x]) = if (uniq xs).any (· == x) then uniq xs else uniq xs ++ [x] := by
  unfold uniq
  rw [List.foldl_append]
  rfl
theorem uniq_facts (xs : List Int) : (∀ x, x ∈ uniq xs ↔ x ∈ xs) ∧ (uniq xs).length ≤ xs.length ∧ ((uniq xs).length = xs.length ↔ xs.Nodup) := by
  refine snoc_ind (C := fun xs => (∀ x, x ∈ uniq xs ↔ x ∈ xs) ∧ (uniq xs).length ≤ xs.length ∧ ((uniq xs).length = xs.length ↔ xs.Nodup)) ⟨fun x => Iff.rfl, Nat.le_refl _, by simp [uniq]⟩ (fun xs k ih => ?_) xs
  obtain ⟨m, l, n⟩ := ih
  rw [uniq_snoc]
  have ha : (uniq xs).any (· == k) = decide (k ∈ xs) := by
    rw [Bool.eq_iff_iff, List.any_eq_true, decide_eq_true_eq, ← m k]
    constructor
    · rintro ⟨y, h1, h2⟩; rw [← eq_of_beq h2]; exact h1
    · intro h; exact ⟨k, h, beq_self_eq_true k⟩
  rw [ha]
  by_cases h : k ∈ xs
  · rw [if_pos (decide_eq_true h)]
    refine ⟨fun x => ?_, by rw [List.length_append]; omega, ?_⟩
    · rw [m x, List.mem_append, List.mem_singleton]
      constructor
      · exact .inl
      · rintro (z | z)
        · exact z
        · exact z ▸ h
    · constructor
      · intro e; rw [List.length_append] at e; simp at e; omega
      · intro nd; exact absurd rfl ((List.nodup_append.mp nd).2.2 k h k (by simp))
  · rw [if_neg (by simpa using h)]
    refine ⟨fun x => by rw [List.mem_append, List.mem_append, m x], by simp only [List.length_append]; omega, ?_⟩
    rw [List.length_append, List.length_append, Nat.add_right_cancel_iff, n, List.nodup_append]
    constructor
    · intro nd; exact ⟨nd, by simp, fun a am b hb e => by rw [List.mem_singleton] at hb; subst hb; exact h (e ▸ am)⟩
    · exact fun z => z.1
theorem met_uniq (ns : List Int) : PyProof.Rows.firstMet (fun i => ns.getD i 0) ns.length = uniq ns := by
  unfold PyProof.Rows.firstMet uniq
  congr 1
  apply List.ext_getElem?
  intro i
  rw [List.getElem?_map]
  by_cases h : i < ns.length
  · rw [List.getElem?_range h, List.getElem?_eq_getElem h]
    simp [List.getD_eq_getElem?_getD, h]
  · rw [List.getElem?_eq_none (by simpa using h), List.getElem?_eq_none (by omega)]
    rfl
def tLenSetN (K : PySem.W.Frag) (ta : TE) : TE := fun σ H Q => ta σ H fun x H1 => ∃ (l : Addr) (ns : List Int), x = V.ref l ∧ SqL K H1 l (ns.map V.int) ∧ ns.length < 1000 ∧ Q (.int ((uniq ns).length : Nat)) H1
section
variable {X : Cx}
theorem pe_lenSetN {a : Expr} {ta : TE} {p1 p2 p3 p4 : Pos} (quiet : X.calm = true) (h1 : Gl X "len") (h2 : X.mg "len" = none) (h3 : Gl X "set") (h4 : X.mg "set" = none) (he : PE X a ta)
    (one : starEach [a] X.env = (false, eval a X.env) :: starEach [] X.env := by rfl) : PE X (.Call (.Name "len" p1) [.Call (.Name "set" p2) [a] [] p3] [] p4) (tLenSetN X.K ta) := ⟨fun pins s σ H Q I w => by
  refine PyProof.Rows.Call_ (ld_blt I h1 h2 PySem.boot_len (PyProof.Rows.callWith_builtin1 (PyProof.Rows.args_cons ?got rfl) rfl rfl))
  refine PyProof.Rows.Call_ (ld_blt I h3 h4 PyProof.Rows.boot_set (PyProof.Rows.callWith_type1 (PyProof.Rows.args_cons (thn (he.run pins s σ H _ I w) ?_) one) one rfl))
  rintro v s1 ⟨x, H1, J, rx, l, ns, rfl, hq, few, q⟩
  refine PyProof.Rows.args_nil ?_
  cases rx
  obtain ⟨its, rv, pl, _⟩ := J.list hq
  have size : its.toArray.size = ns.length := by rw [List.size_toArray, ← rv.length, List.length_map]
  refine call_set_list (J.ok.hd quiet) pl.isList (ns := ns) (by simpa using rv.ints) (by unfold scanBound; omega) fun h' tk made keep => PyProof.Rows.args_nil ?_
  rw [size, met_uniq] at made
  obtain ⟨o, es, ep, t, at_, exact_, data, _, _, _, fits, count⟩ := made
  have small : es.size < 1000 := by
    rw [count]
    exact Nat.lt_of_le_of_lt (uniq_facts ns).2.1 few
  exact call_len_set at_ exact_ data fits (by omega) ⟨.int ((uniq ns).length : Nat), H1, (J.kept fun b o e => keep b o (Heap.lt_size e) e).tok _, ⟨_, by rw [count]⟩, q⟩⟩
end
section
variable {F : Fr} {K : PySem.W.Frag} {σ : L2.St} {W W1 : Wd F} {ta tb te tc tl ti tk tv : TE} {α β γ δ : Type} {r : Rp α} {s : Rp β} {t : Rp γ} {D : Ends} {tz tx ty : TS}
theorem ev_lenSetN {xs : List Int} (ha : EvR ta σ W (rList rInt) xs) (hl : xs.length < 1000) : EvR (tLenSetN K ta) σ W rInt ((uniq xs).length : Nat) := fun W1 l Q q => ha W1 l _ fun v W2 l2 hv => by
  obtain ⟨a, vs, rfl, h1, h2⟩ := hv
  have e := All2.ints h2
  subst e
  exact ⟨a, xs, rfl, sqL_of W2.gh h1, hl, q _ W2 l2 rfl⟩
end
/-! a BadState: its word and the lines shown -/
def PreBS (G : Hp) (vs : List V) (x : Str × List Int) : Prop := ∃ v, vs = [.str x.1, v] ∧ (rList rInt).rel G v x.2 ∧ x.1.length ≤ 100 ∧ x.2.length ≤ 100 ∧ ∀ n ∈ x.2, n.natAbs < 10 ^ 6
def PostBS (G : Hp) (x : Str × List Int) (fs : List (Str × V)) : Prop := fs.lookup ("why" : Str) = some (.str x.1) ∧ ∃ v, fs.lookup ("shown" : Str) = some v ∧ (rList rInt).rel G v x.2
theorem postBS_up {x : Str × List Int} {G G' : Hp} {fs : List (Str × V)} (e : Ex G G') (h : PostBS G x fs) : PostBS G' x fs := ⟨h.1, let ⟨v, a, b⟩ := h.2; ⟨v, a, (rList rInt).mono e b⟩⟩
abbrev SpBadState (C : Addr) : Sp := SpXI C PreBS PostBS
def BadSt (G : Hp) (d : Addr) (x : Str × List Int) : Prop := ∃ fs, G d = some (.xd fs) ∧ PostBS G x fs
theorem BadSt.up {G G' : Hp} {d : Addr} {x : Str × List Int} (e : Ex G G') (h : BadSt G d x) : BadSt G' d x := let ⟨fs, a, b⟩ := h; ⟨fs, e _ _ a, postBS_up e b⟩
/-- self.f = .., self.g = .. behind LightError.__init__ -/
theorem s_ost2 {K : PySem.W.Frag} {σ : L2.St} {G H : Hp} {a C : Addr} {i : Nat} {f g : Str} {v : V} {t1 t2 : TE} {D : Ends} {α : Type} {r : Rp α} {P : α → Prop} {W : Wd (pF G H)} (hi : σ[i]? = some (some (.ref a))) (ga : G a = none) (ha : H a = some (exo a C none)) (T : OexC K C)
    (n1 : PySem.W.findIn K (.ref C) f = some none) (n2 : PySem.W.findIn K (.ref C) g = some none) (ea : W.H a = some (exo a C none)) (wa : W.G a = none) (h1 : ∀ Q : VK, Q v W.H → t1 σ W.H Q) (h2 : ∀ (H2 : Hp) (gh : Ex W.G H2), EvN t2 σ (Wd.in W.G H2 gh) r P)
    (k : ∀ (G' H' : Hp) (d : Addr) (v2 : V) (x : α), Mid a d G H G' H' → H' a = some (exo a C (some d)) → H' d = some (exd d [(g, v2), (f, v)]) → Ex W.G G' → r.rel G' v2 x → P x → D.nx σ H') :
    tSeq (tOst K f (tVar i) t1) (tOst K g (tVar i) t2) D σ W.H :=
  ost_first (D := { D with nx := tOst K g (tVar i) t2 D }) hi ea T n1 h1 fun d hd ne => by
    have gd : W.G d = none := W.g hd
    have e1 : upd (upd W.H d (exd d [(f, v)])) a (exo a C (some d)) a = some (exo a C (some d)) := upd_same
    have e2 : upd (upd W.H d (exd d [(f, v)])) a (exo a C (some d)) d = some (exd d [(f, v)]) := (upd_ne ne).trans upd_same
    have ex : Ex W.G (upd (upd W.H d (exd d [(f, v)])) a (exo a C (some d))) := fun b o e => by
      rw [upd_ne (ne_of_none e wa), upd_ne (ne_of_none e gd)]; exact W.gh b o e
    refine h2 _ ex (Wd.in W.G _ ex) (Le.refl _) _ fun v2 W3 x l3 hv hx => ?_
    have ka := W3.kp a (fun z => z) wa (fun z => nomatch (e1.symm.trans z))
    have kd := W3.kp d (fun z => z) gd (fun z => nomatch (e2.symm.trans z))
    have fa : W3.H a = some (exo a C (some d)) := ka.2.trans e1
    have fd : W3.H d = some (exd d [(f, v)]) := kd.2.trans e2
    refine ⟨_, hi, a, C, rfl, T, n2, .inr ⟨d, [(f, v)], fa, fd, by simp, ?_⟩⟩
    refine k W3.G _ d v2 x ⟨W.gg.trans l3.ex, fun b o e => ?_, fun b ba bd gb hb => ?_, ka.1, kd.1, W.h0 hd, ne⟩ ((upd_ne ne.symm).trans fa) upd_same l3.ex hv hx
    · rw [upd_ne (ne_of_none e kd.1)]; exact W3.gh b o e
    · obtain ⟨a1, a2⟩ := W.kp b (fun z => z) gb hb
      have a3 : upd (upd W.H d (exd d [(f, v)])) a (exo a C (some d)) b = W.H b := by rw [upd_ne ba, upd_ne bd]
      obtain ⟨b1, b2⟩ := W3.kp b (fun z => z) a1 (fun z => hb (a2.symm.trans (a3.symm.trans z)))
      exact ⟨b1, (upd_ne bd).trans (b2.trans (a3.trans a2))⟩
/-! what is told of a state that may not be -/
abbrev whyN (n : NetD) (S : List Int) : Str := whyM n.needs.length n.lines n.needs n.sources S
structure RingX (n : NetD) (S sh : List Int) : Prop where
  ex : ∃ (i : Nat) (l : Int) (came : CameD) (way : List Int), S[i]? = some l ∧ CameR (stepsM n.needs.length n.lines (S.take i)) [(lineAt n.lines l).1] came ∧ (lineAt n.lines l).2.1 ∈ keysD came ∧ (∃ s, WayB came (lineAt n.lines l).2.1 way.reverse s ∧ dlook came s = some none) ∧ sh = way ++ [l]
structure JoinX (n : NetD) (S sh : List Int) : Prop where
  ex : ∃ (a b : Int) (came : CameD), a ∈ n.sources ∧ b ∈ n.sources ∧ b ≠ a ∧ CameR (stepsM n.needs.length n.lines S) [a] came ∧ b ∈ keysD came ∧ ∃ s, WayB came b sh.reverse s ∧ dlook came s = some none
def FaultR (n : NetD) (S : List Int) (z : Option (Str × List Int)) : Prop := match z with
  | none => whyN n S = ""
  | some (w, sh) => whyN n S = w ∧ sh.length ≤ 100 ∧ (∀ l ∈ sh, l ∈ S) ∧ ((w = "ring" ∧ RingX n S sh) ∨ (w = "sources" ∧ JoinX n S sh) ∨ (w = "over" ∧ sh = overM n.needs.length n.lines n.needs n.sources S))
structure StOk (n : NetD) (S B : List Int) : Prop where
  l : LinesOk n.needs.length n.lines
  s1 : n.sources.Nodup
  s2 : ∀ x ∈ n.sources, Pl n.needs.length x
  nb : Nums n.lines.length (S ++ B)
  nd : (S ++ B).Nodup
def SpCheckSt (C D : Addr) : Sp := fun vs H Q E => ∃ (G : Hp) (v u w : V) (n : NetD) (S B : List Int), vs = [v, u, w] ∧ Ex G H ∧ (rNet C).rel G v n ∧ (rList rInt).rel G u S ∧ (rList rInt).rel G w B ∧ StOk n S B ∧
  (∀ (W : Wd (pF G H)) d x, FaultR n (srt S) (some x) → BadSt W.G d x → E (.ref D) (some d) W.H) ∧ (FaultR n (srt S) none → ∀ W : Wd (pF G H), Q .non W.H)
section
variable {F : Fr} {K : PySem.W.Frag} {σ : L2.St} {W W1 : Wd F} {ta tb te tc tl ti tk tv : TE} {α β γ δ : Type} {r : Rp α} {s : Rp β} {t : Rp γ} {Dn : Ends} {tz tx ty : TS}
theorem q_checkSt {C D : Addr} {E : XK} {n : NetD} {S B : List Int} (ha : EvR ta σ W (rNet C) n) (hb : EvR tb σ W (rList rInt) S) (hc : EvR tc σ W (rList rInt) B) (ok : StOk n S B)
    (kE : ∀ (W1 : Wd F) d x, Le W W1 → FaultR n (srt S) (some x) → BadSt W1.G d x → E (.ref D) (some d) W1.H) (k : FaultR n (srt S) none → ∀ W1 : Wd F, Le W W1 → tz Dn σ W1.H) :
    tSeq (tDrop (tCall (SpCheckSt C D) [] E (tCons ta (tCons tb (tCons tc tNil))))) tz Dn σ W.H :=
  ha W (Le.refl _) _ fun v W1 l1 hv => hb W1 l1 _ fun u W2 l2 hu => hc W2 (l1.trans l2) _ fun w W3 l3 hw =>
    ⟨W3.G, v, u, w, n, S, B, rfl, W3.gh, (rNet C).mono (l2.ex.trans l3.ex) hv, (rList rInt).mono l3.ex hu, hw, ok, fun W4 d x h1 h2 => kE (W3.back W4) d x (((l1.trans l2).trans l3).trans (W3.back_le W4)) h1 h2, fun h1 W4 => k h1 (W3.back W4) (((l1.trans l2).trans l3).trans (W3.back_le W4))⟩
/-- lit and loads -/
def SpTold (C D : Addr) (r : Rp α) (f : NetD → List Int → α) : Sp := fun vs H Q E => ∃ (G : Hp) (v u : V) (n : NetD) (S : List Int), vs = [v, u] ∧ Ex G H ∧ (rNet C).rel G v n ∧ (rList rInt).rel G u S ∧ StOk n S [] ∧
  (∀ (W : Wd (pF G H)) d x, FaultR n (srt S) (some x) → BadSt W.G d x → E (.ref D) (some d) W.H) ∧ (FaultR n (srt S) none → ∀ v (W : Wd (pF G H)), r.rel W.G v (f n S) → Q v W.H)
end
theorem nt_opt {α : Type} {r : Rp α} {C : HO → Prop} (n : Nt r C) : Nt (rOpt r) C := fun G d u o v x e hu h => by
  cases x with
  | none => exact h
  | some y => exact n G d u o _ _ e hu h
section
variable {F : Fr} {K : PySem.W.Frag} {σ : L2.St} {W W1 : Wd F} {ta tb te tc tl ti tk tv : TE} {α β γ δ : Type} {r : Rp α} {s : Rp β} {t : Rp γ} {D : Ends} {tz tx ty : TS}
theorem elp_bs {w : Str} {sh : List Int} (ha : EvR ta σ W rStr w) (hb : EvR tb σ W (rList rInt) sh) (h1 : w.length ≤ 100) (h2 : sh.length ≤ 100) (h3 : ∀ n ∈ sh, n.natAbs < 10 ^ 6) : EvLP (tCons ta (tCons tb tNil)) σ W PreBS (w, sh) := fun W1 l Q q =>
  ha W1 l _ fun v W2 l2 hv => hb W2 (l.trans l2) _ fun u W3 l3 hu => q _ W3 (l2.trans l3) (by simp) ⟨u, by rw [show v = .str w from hv], hu, h1, h2, h3⟩
theorem ev_sum {xs : List Int} (ha : EvR ta σ W (rList rInt) xs) : EvR (tCB (rSum K) (tCons ta tNil)) σ W rInt xs.sum := fun W1 l Q q => ha W1 l _ fun v W2 l2 hv => by
  obtain ⟨a, vs, rfl, h1, h2⟩ := hv
  have e := All2.ints h2
  subst e
  exact ⟨a, xs, rfl, sqL_of W2.gh h1, q _ W2 l2 rfl⟩
/-- steps of one's own -/
theorem q_steps {C : Addr} {E : XK} {i : Nat} {n : NetD} {nums : List Int} (ha : EvR ta σ W (rNet C) n) (hb : EvR tb σ W (rList rInt) nums) (ok : LinesOk n.needs.length n.lines) (hn : Nums n.lines.length nums) (hl : nums.length ≤ 1000)
    (k : ∀ p as (W1 : Wd F), Le W W1 → OwnDL W1 p n.needs.length as rPr (fun (m : Nat) => adjM n.lines nums (m : Int)) → tz D (σ.set i (some (.ref p))) W1.H) : tSeq (tAsg (tCall (SpSteps C) [] E (tCons ta (tCons tb tNil))) (gName i)) tz D σ W.H :=
  ha W (Le.refl _) _ fun v W1 l1 hv => hb W1 l1 _ fun u W2 l2 hu => ⟨W2.G, v, u, n, nums, rfl, W2.gh, (rNet C).mono l2.ex hv, hu, ok, hn, hl, fun p as W3 o => k p as (W2.back W3) ((l1.trans l2).trans (W2.back_le W3)) o.back⟩
end
end Q

/-! xs.pop(k), xs of one's own; defs that draw -/
namespace Q
open PySem L2
section
variable {α : Type} {R : V → α → Prop} {vs : List V} {xs : List α}
theorem All2.erase (h : All2 R vs xs) (k : Nat) : All2 R (vs.eraseIdx k) (xs.eraseIdx k) := by
  refine ⟨by rw [List.length_eraseIdx, List.length_eraseIdx, h.1], fun i x e => ?_⟩
  rw [List.getElem?_eraseIdx] at e ⊢
  split at e
  · rename_i c; rw [if_pos c]; exact h.2 _ _ e
  · rename_i c; rw [if_neg c]; exact h.2 _ _ e
end
section
variable {F : Fr} {K : PySem.W.Frag} {σ : L2.St} {W W1 : Wd F} {ta tb te tc tl ti tk tv : TE} {α β γ δ : Type} {r : Rp α} {s : Rp β} {t : Rp γ} {D : Ends} {tz tx ty : TS}
theorem q_popAt {i j : Nat} {p : Addr} {xs : List α} {P : Int → Prop} (hi : σ[i]? = some (some (.ref p))) (o : OwnL W p r xs) (h : EvN te σ W rInt P) (hP : ∀ k, P k → 0 ≤ k ∧ k < (xs.length : Int)) (hz : xs.length ≤ 100000)
    (c : ∀ (W1 : Wd F) v x (k : Nat), Kp p W W1 → xs[k]? = some x → r.rel W1.G v x → OwnL W1 p r (xs.eraseIdx k) → tz D (σ.set j (some v)) W1.H) : tSeq (tAsg (tBM K "list" rPopAt (tVar i) (tCons te tNil)) (gName j)) tz D σ W.H := by
  obtain ⟨vs, h1, h2⟩ := o.ex
  refine ⟨_, hi, .inl ⟨rfl, _, sqL_of (Ex.refl _) h1.h⟩, h W (Le.refl _) _ fun v W1 n l hv hn => ?_⟩
  have hv : v = .int n := hv
  subst hv
  obtain ⟨n0, n1⟩ := hP n hn
  have hx : xs[n.toNat]? = some xs[n.toNat] := List.getElem?_eq_getElem (by omega)
  obtain ⟨v, ev, hr⟩ := h2.2 _ _ hx
  have o1 := h1.up l
  refine ⟨p, vs, n, n.toNat, v, rfl, rfl, o1.h, by omega, by omega, ?_, ev, ?_⟩
  · unfold seqIndex?
    rw [if_neg (show ¬ n < 0 by omega)]
    simp only
    rw [if_pos (by rw [h2.1]; simp; omega)]
  · exact c (W1.put p (.lst (vs.eraseIdx n.toNat)) o1.z o1.g) v _ n.toNat ⟨l.ex, fun q u ne x => (x.up l).put ne _ _⟩ hx (r.mono l.ex hr) ⟨_, W1.put_at o1.z o1.g, (h2.imp fun _ _ => r.mono l.ex).erase _⟩
theorem erase_mem {xs : List Int} {k : Nat} {x : Int} (h : xs[k]? = some x) : xs.Perm (x :: xs.eraseIdx k) := by
  obtain ⟨hk, e⟩ := List.getElem?_eq_some_iff.mp h
  have : xs = xs.take k ++ x :: xs.drop (k + 1) := by
    rw [← e, ← List.drop_eq_getElem_cons hk, List.take_append_drop]
  rw [List.eraseIdx_eq_take_drop_succ]
  calc xs = xs.take k ++ x :: xs.drop (k + 1) := this
    List.Perm _ (x :: (xs.take k ++ xs.drop (k + 1))) := List.perm_middle
end
theorem why_nil {n : Nat} {ls : List Ln} {needs ss : List Int} (nd : ss.Nodup) (hs : ∀ s ∈ ss, Pl n s) : whyM n ls needs ss [] = "" := by
  unfold whyM
  have r : ringM n ls [] = false := rfl
  have d : dupM n ls ss [] = false := (dup_iff nd).mpr fun a ha b hb e => by
    have e : lab n ls [] a = lab n ls [] b := e
    rw [lab_nil (hs a ha), lab_nil (hs b hb)] at e
    exact e
  rw [r, d]
  rfl
end Q

/-! dicts compared; a def that may raise, where it does not -/
namespace Q
open PySem L2
section
variable {F : Fr} {K : PySem.W.Frag} {σ : L2.St} {W W1 : Wd F} {ta tb te tc tl ti tk tv : TE} {α β γ δ : Type} {r : Rp α} {s : Rp β} {t : Rp γ} {D : Ends} {tz tx ty : TS}
theorem ty_dict : TyR (rDict r) "dict" := fun K G H v x e h => by
  obtain ⟨a, kvs, rfl, h1, _⟩ := h
  exact .base (.dK (e _ _ h1))
theorem ev_neDict {xs ys : List (Int × Int)} (ha : EvR ta σ W (rDict rInt) xs) (hb : EvR tb σ W (rDict rInt) ys) (hl : xs.length = ys.length) (he : ∀ x ∈ xs, dlook ys x.1 = some x.2) : EvR (tOp rNeDA ta tb) σ W rBool false := fun W1 l Q q =>
  ha W1 l _ fun v W2 l2 hv => hb W2 (l.trans l2) _ fun u W3 l3 hu => by
    obtain ⟨a, ks, rfl, h1, d1⟩ := (rDict rInt).mono l3.ex hv
    obtain ⟨b, ls, rfl, h2, d2⟩ := hu
    refine ⟨a, b, ks, ls, rfl, rfl, W3.gh _ _ h1, W3.gh _ _ h2, by rw [d1.1, d2.1, hl], fun p hp => ?_, q _ W3 (l2.trans l3) rfl⟩
    obtain ⟨i, hi, e⟩ := List.getElem_of_mem hp
    have hi' : i < xs.length := by rw [← d1.1]; exact hi
    obtain ⟨w, e1, hw⟩ := d1.2 i _ (List.getElem?_eq_getElem hi')
    rw [List.getElem?_eq_getElem hi, e] at e1
    cases e1
    have hw : w = .int xs[i].2 := hw
    subst hw
    refine ⟨?_, rfl⟩
    have := he _ (List.getElem_mem hi')
    rcases d2.look (k := xs[i].1) with ⟨z, _⟩ | ⟨u, y, z, z2, z3⟩
    · rw [this] at z; cases z
    · rw [this] at z; cases z
      have z3 : u = .int xs[i].2 := z3
      subst z3
      exact z2
theorem ev_eqDict {xs ys : List (Int × Int)} (ha : EvR ta σ W (rDict rInt) xs) (hb : EvR tb σ W (rDict rInt) ys) (hl : xs.length = ys.length) (he : ∀ x ∈ xs, dlook ys x.1 = some x.2) : EvR (tOp rEqDA ta tb) σ W rBool true := fun W1 l Q q =>
  ha W1 l _ fun v W2 l2 hv => hb W2 (l.trans l2) _ fun u W3 l3 hu => by
    obtain ⟨a, ks, rfl, h1, d1⟩ := (rDict rInt).mono l3.ex hv
    obtain ⟨b, ls, rfl, h2, d2⟩ := hu
    refine ⟨a, b, ks, ls, rfl, rfl, W3.gh _ _ h1, W3.gh _ _ h2, by rw [d1.1, d2.1, hl], fun p hp => ?_, q _ W3 (l2.trans l3) rfl⟩
    obtain ⟨i, hi, e⟩ := List.getElem_of_mem hp
    have hi' : i < xs.length := by rw [← d1.1]; exact hi
    obtain ⟨w, e1, hw⟩ := d1.2 i _ (List.getElem?_eq_getElem hi')
    rw [List.getElem?_eq_getElem hi, e] at e1
    cases e1
    have hw : w = .int xs[i].2 := hw
    subst hw
    refine ⟨?_, rfl⟩
    have := he _ (List.getElem_mem hi')
    rcases d2.look (k := xs[i].1) with ⟨z, _⟩ | ⟨u, y, z, z2, z3⟩
    · rw [this] at z; cases z
    · rw [this] at z; cases z
      have z3 : u = .int xs[i].2 := z3
      subst z3
      exact z2
end
/-- a def that may raise, told where it does not -/
theorem fn_calm {P : Program} {w : World} {K : PySem.W.Frag} {mg : Str → Option Value} {base : Heap} {k : Nat} {f : Addr} {fd : FuncData} {ps : List Str} {sp : Sp} (F : FnOk P w K mg base (L2N.CX P w) k f fd ps sp) : FnOk P w K mg base CX0 k f fd ps (fun vs H Q _ => sp vs H Q fun _ _ _ => False) :=
  ⟨fun vs H Q E h => F.len vs H Q _ h, fun A outer s H args us vs Q E hr e hb hv h => codeAny_mono (F.run A outer s H args us vs Q _ hr e hb hv h) fun r s' got => by
    match r, got with
    | .error e, z => obtain ⟨_, _, _, _, _, _, _, _, _, _, _, _, x⟩ := z; exact x.elim
    | .ok (.ret u), z => exact z
    | .ok .next, z => exact z.elim
    | .ok .brk, z => exact z.elim
    | .ok .cont, z => exact z.elim⟩
end Q
namespace Q
open PySem L2
/-! sources in another order -/
section
variable {n : Nat} {ls : List Ln} {needs ss ss' S : List Int}
theorem hasSrc_perm (h : ss.Perm ss') {p : Int} : hasSrc n ls ss S p = hasSrc n ls ss' S p := by
  unfold hasSrc
  congr 3
  apply List.filter_congr
  intro q _
  exact decide_eq_decide.mpr h.mem_iff
theorem bear_perm (h : ss.Perm ss') {l : Int} : bearM n ls needs ss S l = bearM n ls needs ss' S l := by
  unfold bearM
  rw [hasSrc_perm h, hasSrc_perm h]
theorem why_perm (h : ss.Perm ss') : whyM n ls needs ss S = whyM n ls needs ss' S := by
  have d : dupM n ls ss S = dupM n ls ss' S := by
    unfold dupM
    rw [decide_eq_decide.mpr ((h.map (lab n ls S)).nodup_iff)]
  have o : overM n ls needs ss S = overM n ls needs ss' S := by
    unfold overM
    apply List.filter_congr
    intro l _
    rw [bear_perm h]
  unfold whyM
  rw [d, o]
end
end Q
namespace Q
open PySem L2
theorem fault_not {n : NetD} {S : List Int} {x : Str × List Int} (h : FaultR n S none) (h' : FaultR n S (some x)) : False := by
  obtain ⟨w, sh⟩ := x
  have h : whyN n S = "" := h
  obtain ⟨e, _, _, r⟩ := h'
  have e2 : w = "" := e.symm.trans h
  rcases r with ⟨z, _⟩ | ⟨z, _⟩ | ⟨z, _⟩ <;> rw [z] at e2
  · exact absurd e2 (by decide +kernel)
  · exact absurd e2 (by decide +kernel)
  · exact absurd e2 (by decide +kernel)
section
variable {F : Fr} {K : PySem.W.Frag} {σ : L2.St} {W W1 : Wd F} {ta tb : TE} {α : Type} {r : Rp α}
theorem ev_told {C D : Addr} {E : XK} {f : NetD → List Int → α} {n : NetD} {S : List Int} (ha : EvR ta σ W (rNet C) n) (hb : EvR tb σ W (rList rInt) S) (ok : StOk n S []) (hf : FaultR n (srt S) none) :
    EvR (tCall (fun vs H Q _ => SpTold C D r f vs H Q fun _ _ _ => False) [] E (tCons ta (tCons tb tNil))) σ W r (f n S) := fun W1 l Q q =>
  ha W1 l _ fun v W2 l2 hv => hb W2 (l.trans l2) _ fun u W3 l3 hu => ⟨W3.G, v, u, n, S, rfl, W3.gh, (rNet C).mono l3.ex hv, hu, ok, fun W4 d x hx _ => fault_not hf hx, fun _ z W4 hz => q z (W3.back W4) ((l2.trans l3).trans (W3.back_le W4)) hz⟩
end
end Q

/-! a lambda that calls a refused lit or loads, handed to a def that wants the refusal -/
namespace Q
open PySem PySem.Spec PyProof.Rows L2 LamX
/-- without its tables -/
def noT (G : Hp) : Hp := fun a => match G a with
  | some (.tbl _) => none
  | o => o
theorem noT_at {G : Hp} {a : Addr} {o : HO} (h : G a = some o) (n : ∀ ps, o ≠ .tbl ps) : noT G a = some o := by
  unfold noT
  rw [h]
  cases o <;> first | rfl | exact absurd rfl (n _)
theorem noT_ne {G : Hp} {a : Addr} {o : HO} (h : noT G a = some o) : G a = some o ∧ ∀ ps, o ≠ .tbl ps := by
  unfold noT at h
  split at h
  · cases h
  · rename_i x
    exact ⟨h, fun ps z => x ps (by rw [h, z])⟩
theorem noT_ext {G H H1 : Hp} (gh : Ex G H) (e : ExtN H H1) : Ex (noT G) H1 := fun a o h => by
  obtain ⟨h1, h2⟩ := noT_ne h
  exact e _ _ (gh _ _ h1) h2
def NoT {α : Type} (r : Rp α) : Prop := ∀ (G : Hp) v x, r.rel G v x → r.rel (noT G) v x
section
variable {α β γ : Type} {r : Rp α} {s : Rp β} {t : Rp γ}
theorem nT_int : NoT rInt := fun _ _ _ h => h
theorem nT_list (n : NoT r) : NoT (rList r) := fun G v x ⟨a, vs, h1, h2, h3⟩ => ⟨a, vs, h1, noT_at h2 (fun _ => nofun), h3.imp fun _ _ h => n G _ _ h⟩
theorem nT_t3 (n : NoT r) (m : NoT s) (k : NoT t) : NoT (rT3 r s t) := fun G v x ⟨a, u, w, y, h1, h2, h3, h4, h5⟩ => ⟨a, u, w, y, h1, noT_at h2 (fun _ => nofun), n _ _ _ h3, m _ _ _ h4, k _ _ _ h5⟩
theorem nT_net {C : Addr} : NoT (rNet C) := fun G v x ⟨a, dx, p, q, u, h1, h2, h3, h4, h5⟩ => ⟨a, dx, p, q, u, h1, noT_at h2 (fun _ => nofun), nT_list nT_int _ _ _ h3, nT_list nT_int _ _ _ h4, nT_list (nT_t3 nT_int nT_int nT_int) _ _ _ h5⟩
end
theorem wd_ext2 {G H : Hp} (gh : Ex G H) (W : Wd (pF G H)) : Ex H W.H := fun a o e => by
  cases g : G a with
  | some o' =>
    have := gh a o' g
    rw [e] at this
    cases this
    exact W.gh _ _ (W.gg _ _ g)
  | none => exact (W.kp a (fun z => z) g (fun z => by rw [show (pF G H).H0 a = H a from rfl, e] at z; cases z)).2.trans e
theorem lam_told {α : Type} {C D P : Addr} {r : Rp α} {f : NetD → List Int → α} {T : List (Addr × Str)} {q : Str} {n : NetD} {S : List Int} {σ : L2.St} {v u : V} {i j k : Nat} {wy : Str} {G H : Hp} {Q : VK}
    (e1 : σ[i]? = some (some v)) (e2 : σ[j]? = some (some u)) (e3 : σ[k]? = some (some (.str wy))) (tb : Tabs T H) (gh : Ex G H) (h1 : (rNet C).rel G v n) (h2 : (rList rInt).rel G u S) (ok : StOk n S []) (hw : whyN n (srt S) = wy) (hne : wy ≠ "")
    (fin : ∀ H', Ex (noT G) H' → Tabs T H' → Q (.bl true) H') :
    tLamN P T q (TTst D) (fun E => tCall (SpTold C D r f) [] E (tCons (tVar i) (tCons (tVar j) tNil))) (tCons (tVar k) tNil) σ H Q :=
  ⟨tb, fun H1 c' ext' tabs code => have ext := ext'.n
   ⟨_, e3, code, wy, rfl, fun E Q' kE => ⟨_, e1, _, e2, noT G, v, u, n, S, rfl, noT_ext gh ext, nT_net _ _ _ h1, nT_list nT_int _ _ _ h2, ok, fun W d x hx bad => by
    obtain ⟨wd, sh⟩ := x
    obtain ⟨fs, a1, a2, _⟩ := bad
    obtain ⟨e, _⟩ := hx
    have e : whyN n (srt S) = wd := e
    have : wd = wy := e.symm.trans hw
    subst this
    refine kE W.H d fs (W.gh _ _ a1) a2 fun H'' ex => fin H'' (fun a o h => ex _ _ (wd_ext2 (noT_ext gh ext) W _ _ (noT_ext gh ext _ _ h))) (tabs.ext fun b o h => ex _ _ (wd_ext2 (noT_ext gh ext) W _ _ h)), fun hn => absurd (hw.symm.trans hn) hne⟩⟩⟩
end Q

/-! a try whose clauses are named or not, in any order -/
namespace Q
open PySem PySem.Spec PyProof.Rows L2
/-- the exception at a was caught: sI the state without it, t the state in which the clauses are asked -/
structure Fell (X : Cx) (pins : List (Addr × Obj)) (σ : L2.St) (H : Hp) (cls : Value) (d : Option Addr) (a : Addr) (B : Heap) (sI t : Shared) : Prop where
  inv : Inv X pins σ H sI
  keep : ∀ b o, sI.heap.get? b = some o → b ∉ frs X.stack → B.get? b = some o
  up : sI.heap.UpToSlots t.heap
  fly : HandSPX.FlyingZ B (X.env :: X.outer) a (L2N.Zn cls d) t.heap
  na : H a = none
  os : t.os = sI.os
  ag : AllBare t.gens
section
variable {X : Cx} {pins : List (Addr × Obj)} {σ : L2.St} {H : Hp} {cls c : Value} {d : Option Addr} {a : Addr} {B : Heap} {sI t : Shared} {D : Ends} {x : Str} {np pos' : Pos}
theorem Fell.go (f : Fell X pins σ H cls d a B sI t) : Inv X pins σ H t := f.inv.landed f.keep f.fly.1 f.up f.os f.ag
/-- the state in a clause's suite -/
theorem Fell.in_suite (f : Fell X pins σ H cls d a B sI t) (hs : X.stack = X.env :: X.outer) (hf : X.env.frame = some X.env.locals) :
    ∃ oe, L2N.Zn cls d oe ∧ (∃ vs, oe.data = .fields vs) ∧ Inv (X.suite a ((a, oe) :: (X.pn ++ pins))) [] σ H t := by
  obtain ⟨oe, vs, e1, e2, e3⟩ := f.fly.there
  have off : a ∉ frs (X.env :: X.outer) := fun m => by
    obtain ⟨_, o1, q1, q2⟩ := f.fly.2.2.1.mem m
    have : o1 = oe := Option.some.inj (q1.symm.trans e1)
    exact q2 _ (this ▸ e3)
  have offL : a ≠ X.env.locals := fun z => off (List.mem_filterMap.mpr ⟨_, .head _, hf.trans (congrArg some z.symm)⟩)
  have offS : a ∉ X.fs := fun m => by
    obtain ⟨e, m1, m2⟩ := List.mem_filterMap.mp m
    exact off (List.mem_filterMap.mpr ⟨e, .tail _ m1, m2⟩)
  exact ⟨oe, e2, ⟨vs, e3⟩, f.go.suite e1 e3 f.na offL offS⟩
/-- a clause is asked -/
theorem Fell.ask (f : Fell X pins σ H cls d a B sI t) (hs : X.stack = X.env :: X.outer) (hf : X.env.frame = some X.env.locals) (hc : Names X x c) {b : Bool} (hb : PySem.W.exmOne X.K cls c = some b) {R : Except Value PySem.Flow → Shared → Prop} (h : R (.ok (if b then .brk else .next)) t) :
    codeAny (model X.prog X.w) (X.A.mark (some (.ref a))) (.handlers (.ref a) [.ExceptHandler (some (.Name x np)) none [] pos'] X.env) R t := by
  obtain ⟨oe, z1, _, S⟩ := f.in_suite hs hf
  obtain ⟨oe', vs', g1, g2, _⟩ := f.fly.there
  refine codeAny_handlers_test ?_
  have look : PySem.W.Looks (model X.prog X.w) t.heap (typeOf (.ref a)) cls := fun A Q E s k q => wpAny_typeOf_ref (k _ _ g1) (g2.1.symm ▸ q)
  have one := PySem.W.exm_one (M := model X.prog X.w) f.go.kIn look hb
  obtain ⟨k1, k2, k3⟩ := hc
  rcases k3 with k3 | ⟨k3, k4, k5⟩
  · exact ld_glob S k1 k3 (one.here h) k2
  · exact ld_blt S k1 k3 k4 (one.here h) k5 k2
end
/-- these clauses do with an exception what w tells -/
def Meets (X : Cx) (D : Ends) (hds : List ExceptHandler) (w : WX) : Prop := ∀ (pins : List (Addr × Obj)) (σ : L2.St) (H : Hp) (cls : Value) (d : Option Addr) (a : Addr) (B : Heap) (sI t : Shared), Fell X pins σ H cls d a B sI t → w cls d σ H →
  wpAny (model X.prog X.w) X.A (handleBy (.ref a) X.env hds) (SP X pins D) X.xe t
section
variable {X : Cx} {D : Ends} {hds : List ExceptHandler} {w Wout : WX} {x n : Str} {c : Value} {np pos pos' : Pos} {b₀ : Stmt} {suite body : List Stmt} {ts : Addr → Value → Option Addr → TS} {i : Nat} {tb : WX → TS}
theorem meets_nil (hs : X.stack = X.env :: X.outer) (hf : X.env.frame = some X.env.locals) (tk : L2N.Takes X Wout) : Meets X D [] Wout := fun pins σ H cls d a B sI t f hw => by
  refine wpAny_handleBy_nil ?_
  obtain ⟨k1, k2, k3, oe, vs, T, oT, ts', he, hz, hd, h1, hr⟩ := id f.fly
  unfold PySem.passOn
  have out : wpAny (model X.prog X.w) X.A (setFlight (.ref a) X.env.frame) (fun _ s4 => wpAny (model X.prog X.w) X.A (throw (.ref a) : Sem PySem.Flow) (SP X pins D) X.xe s4) X.xe t := hf ▸ HandSPX.setFlight_upZ f.fly fun h4 hh up4 =>
    wpAny_throw (tk _ _ ⟨a, B, sI, pins, σ, H, cls, d, rfl, f.inv, f.keep, f.up.trans up4, .inr (.inr (hs.symm ▸ hh)), f.na, f.os, f.ag, hw⟩)
  refine wpAny_bind (wpAny_field he hd h1 ?_)
  rw [if_neg (show ¬ ((Value.ref T == Value.none) = true) by simp)]
  first
    | exact wpAny_bind (wpAny_pure (wpAny_bind out))
    | exact wpAny_bind out
/-- except x: .. -/
theorem meets_cons (hs : X.stack = X.env :: X.outer) (hf : X.env.frame = some X.env.locals) (hc : Names X x c) (su : ∀ (a : Addr) (oe : Obj) (cls : Value) (d : Option Addr) (pn : List (Addr × Obj)), L2N.Zn cls d oe → (∃ vs, oe.data = .fields vs) → PSs (X.suite a ((a, oe) :: pn)) (b₀ :: suite) (ts a cls d)) (r : Meets X D hds w) :
    Meets X D (.ExceptHandler (some (.Name x np)) none (b₀ :: suite) pos' :: hds) (fun cls d σ H => ∃ b, PySem.W.exmOne X.K cls c = some b ∧ (b = true → ∀ a, H a = none → ts a cls d D σ H) ∧ (b = false → w cls d σ H)) := fun pins σ H cls d a B sI t f hw => by
  obtain ⟨b, e, yes, no⟩ := hw
  refine wpAny_handleBy_cons (f.ask hs hf hc e ?_) nofun
  cases b with
  | false => exact r _ _ _ _ _ _ _ _ _ f (no rfl)
  | true =>
    refine codeAny_handlers_suite (HandSPX.lands_againZ f.fly fun h4 fl up4 => ?_)
    have f4 : Fell X pins σ H cls d a B sI { t with heap := h4 } := { f with up := f.up.trans up4, fly := fl }
    obtain ⟨oe, z1, z2, S⟩ := f4.in_suite hs hf
    refine wpAny_mono ((su a oe cls d _ z1 z2).run [] _ _ H _ S (yes rfl a f.na)) (fun fw s6 h => ?_) fun _ _ z => z.elim
    have ok := f.inv.ok
    cases fw with
    | ret u => exact let ⟨v, τ, H6, S6, ru, q⟩ := h; ⟨v, τ, H6, S6.unsuite ok, ru, q⟩
    | next => exact let ⟨τ, H6, S6, q⟩ := h; ⟨τ, H6, S6.unsuite ok, q⟩
    | brk => exact let ⟨τ, H6, S6, q⟩ := h; ⟨τ, H6, S6.unsuite ok, q⟩
    | cont => exact let ⟨τ, H6, S6, q⟩ := h; ⟨τ, H6, S6.unsuite ok, q⟩
/-- the ends of a suite whose name, at place i, goes -/
abbrev unSlot (i : Nat) (D : Ends) : Ends := { nx := fun τ H => D.nx (τ.set i none) H, rt := D.rt, bk := fun τ H => D.bk (τ.set i none) H, ct := fun τ H => D.ct (τ.set i none) H }
/-- except x as n: .. -/
theorem meets_as (hs : X.stack = X.env :: X.outer) (hf : X.env.frame = some X.env.locals) (hN : X.N.Nodup) (hi : X.N[i]? = some n) (hln : X.env.kindOf n = some .local) (hc : Names X x c)
    (su : ∀ (a : Addr) (oe : Obj) (cls : Value) (d : Option Addr) (pn : List (Addr × Obj)), L2N.Zn cls d oe → (∃ vs, oe.data = .fields vs) → PSs (X.suite a ((a, oe) :: pn)) (b₀ :: suite) (ts a cls d)) (r : Meets X D hds w) :
    Meets X D (.ExceptHandler (some (.Name x np)) (some n) (b₀ :: suite) pos' :: hds) (fun cls d σ H => ∃ b, PySem.W.exmOne X.K cls c = some b ∧ (b = true → ∀ a, H a = none → ts a cls d (unSlot i D) (σ.set i (some (.ref a))) H) ∧ (b = false → w cls d σ H)) := fun pins σ H cls d a B sI t f hw => by
  obtain ⟨b, e, yes, no⟩ := hw
  refine wpAny_handleBy_cons (f.ask hs hf hc e ?_) nofun
  cases b with
  | false => exact r _ _ _ _ _ _ _ _ _ f (no rfl)
  | true =>
    refine codeAny_handlers_suite_as (HandSPX.lands_againZ f.fly fun h4 fl up4 => ?_)
    have f4 : Fell X pins σ H cls d a B sI { t with heap := h4 } := { f with up := f.up.trans up4, fly := fl }
    obtain ⟨oe, z1, z2, S⟩ := f4.in_suite hs hf
    refine store_ok (X := X.suite a ((a, oe) :: (X.pn ++ pins))) (v := .ref a) S hN hi (.inl hln) rfl (fun s5 S5 => ?_) (.inr hln)
    refine wpAny_mono ((su a oe cls d _ z1 z2).run [] s5 _ H _ S5 (yes rfl a f.na)) (fun fw s6 h => ?_) fun _ _ z => z.elim
    have ok := f.inv.ok
    have bye : ∀ {τ : L2.St} {H6 : Hp} {Z : Shared → Prop}, Inv (X.suite a ((a, oe) :: (X.pn ++ pins))) [] τ H6 s6 → (∀ s7, Inv X pins (τ.set i none) H6 s7 → Z s7) → wpAny (model X.prog X.w) X.A (do bindName X.env n .none; unbindBehindTheSuite X.env n pos') (fun _ s7 => Z s7) X.xe s6 := fun J z => gone_ok (J.unsuite ok) hN hi hln z
    cases fw with
    | ret u => exact let ⟨v, τ, H6, S6, ru, q⟩ := h; bye S6 fun s7 J => ⟨v, _, H6, J, ru, q⟩
    | next => exact let ⟨τ, H6, S6, q⟩ := h; bye S6 fun s7 J => ⟨_, H6, J, q⟩
    | brk => exact let ⟨τ, H6, S6, q⟩ := h; bye S6 fun s7 J => ⟨_, H6, J, q⟩
    | cont => exact let ⟨τ, H6, S6, q⟩ := h; bye S6 fun s7 J => ⟨_, H6, J, q⟩
theorem ps_tryM {h₀ : ExceptHandler} {w : Ends → WX} (hs : X.stack = X.env :: X.outer) (hf : X.env.frame = some X.env.locals)
    (hb : ∀ (W : WX) (pn : List (Addr × Obj)) (xe : Value → Shared → Prop), L2N.Takes (X.tr pn xe) W → PassesOwn (model X.prog X.w) X.A X.env xe → PSs (X.tr pn xe) body (tb W))
    (hm : ∀ D, Meets X D (h₀ :: hds) (w D)) : PS X (.Try body (h₀ :: hds) [] [] pos) (fun D σ H => tb (w D) D σ H) := ⟨fun pins s σ H D I h => by
  have frames : X.A.frames = some (X.env :: X.outer) := I.ok.frames.trans (congrArg some hs)
  have ok := I.ok
  refine wpAny_Try_except ?_
  have seen : L2N.Takes (X.tr (X.pn ++ pins) fun e s₁ => wpAny (model X.prog X.w) X.A (noteFrame e X.env) (fun _ s₂ => wpAny (model X.prog X.w) X.A (setFlight e none) (fun _ s₃ => wpAny (model X.prog X.w) X.A (handleBy e X.env (h₀ :: hds)) (SP X pins D) X.xe s₃) X.xe s₂) X.xe s₁) (w D) := fun u s' xx => by
    obtain ⟨a, B, sI, pins', τ, H', cls, d, rfl, J, nb, up, sky, na, os, ag, hw⟩ := xx
    have sky' : Sky B (X.env :: X.outer) a (L2N.Zn cls d) X.env.locals s'.heap := hs ▸ sky
    exact L2N.Sky.land L2N.Zn.steady frames hf sky' fun h3 fl up3 => hm D pins τ H' cls d a B sI _ ⟨J.ofTry ok, nb, up.trans up3, fl, na, os, ag⟩ hw
  refine wpAny_mono ((hb _ (X.pn ++ pins) _ seen PassesOwn.looking).run [] s σ H D (I.toTry _) h) (fun f s1 q => ?_) fun e s1 he => he
  cases f with
  | next => exact let ⟨τ, H', J, q⟩ := q; wpAny_execs_nil ⟨τ, H', J.ofTry ok, q⟩
  | ret u => exact let ⟨v, τ, H', J, r, q⟩ := q; ⟨v, τ, H', J.ofTry ok, r, q⟩
  | brk => exact let ⟨τ, H', J, q⟩ := q; ⟨τ, H', J.ofTry ok, q⟩
  | cont => exact let ⟨τ, H', J, q⟩ := q; ⟨τ, H', J.ofTry ok, q⟩⟩
end
end Q

/-! a def's code table as an object of one's own: lambdas within worlds -/
namespace Q
open PySem PySem.Spec PyProof.Rows L2 LamX
section
variable {F : Fr}
/-- the heap has grown -/
def Wd.more (W : Wd F) (H' : Hp) (e : Ex W.H H') : Wd F where
  G := W.G
  H := H'
  gh := W.gh.trans e
  gg := W.gg
  kp := fun a m g n => by
    obtain ⟨h1, h2⟩ := W.kp a m g n
    refine ⟨h1, ?_⟩
    cases z : F.H0 a with
    | none => exact absurd z n
    | some o => exact e _ _ (h2.trans z)
  mg := W.mg
  iv := F.st _ _ (fun a m => by
    cases z : W.H a with
    | none => exact absurd z (F.has _ _ W.iv m)
    | some o => exact e _ _ z) W.iv
theorem Wd.more_le (W : Wd F) {H' : Hp} (e : Ex W.H H') : Le W (W.more H' e) := ⟨Ex.refl _, fun a _ g n => ⟨g, by
  cases z : W.H a with
  | none => exact absurd z n
  | some o => exact e _ _ z⟩⟩
theorem Kp.of_le {p : Addr} {W W1 : Wd F} (l : Le W W1) : Kp p W W1 := ⟨l.ex, fun _ _ _ o => o.up l⟩
theorem Kp.trans {p : Addr} {A B C : Wd F} (x : Kp p A B) (y : Kp p B C) : Kp p A C := ⟨x.ex.trans y.ex, fun q u n o => y.kp q u n (x.kp q u n o)⟩
theorem Kp.wk' {p : Addr} {A B : Wd F} (x : Kp p A B) : Wk A B := ⟨x.ex⟩
/-- the code table at p: all codes that it knows stand frozen -/
structure OwnT (W : Wd F) (p : Addr) (q : Str) : Prop where
  ex : ∃ ps : Array Value, Own W p (.tbl ps) ∧ PySem.TriplesOk ps.toList ∧ ∀ pos cv, codeAmong pos ps.toList = some cv → ∃ c0, cv = .ref c0 ∧ W.G c0 = some (CodeO c0 q)
variable {W W1 : Wd F} {p : Addr} {q : Str}
theorem OwnT.up (l : Le W W1) (h : OwnT W p q) : OwnT W1 p q := by
  obtain ⟨ps, h1, h2, h3⟩ := h.ex
  exact ⟨ps, h1.up l, h2, fun pos cv e => let ⟨c0, a, b⟩ := h3 pos cv e; ⟨c0, a, l.ex _ _ b⟩⟩
theorem OwnT.kp {y : Addr} {o : HO} (l : Kp y W W1) (hy : Own W y o) (no : ∀ ps, o ≠ .tbl ps) (h : OwnT W p q) : OwnT W1 p q := by
  obtain ⟨ps, h1, h2, h3⟩ := h.ex
  exact ⟨ps, l.kp _ _ (fun z => by subst z; exact no ps (Option.some.inj (hy.h.symm.trans h1.h))) h1, h2, fun pos cv e => let ⟨c0, a, b⟩ := h3 pos cv e; ⟨c0, a, l.ex _ _ b⟩⟩
theorem OwnT.kpL {α : Type} {r : Rp α} {xs : List α} {y : Addr} (l : Kp y W W1) (hy : OwnL W y r xs) (h : OwnT W p q) : OwnT W1 p q := by
  obtain ⟨vs, h1, _⟩ := hy.ex
  exact h.kp l h1 (fun ps z => nomatch z)
theorem OwnT.ne {α : Type} {r : Rp α} {xs : List α} {y : Addr} (hy : OwnL W y r xs) (h : OwnT W p q) : y ≠ p := fun z => by
  obtain ⟨vs, h1, _⟩ := hy.ex
  obtain ⟨ps, h2, _⟩ := h.ex
  subst z
  cases Option.some.inj (h1.h.symm.trans h2.h)
theorem OwnT.tabs (h : OwnT W p q) : Tabs [(p, q)] W.H := fun z hz => by
  rw [List.mem_singleton.mp hz]
  obtain ⟨ps, h1, h2, h3⟩ := h.ex
  exact ⟨ps, h1.h, h2, fun pos cv e => let ⟨c0, a, b⟩ := h3 pos cv e; ⟨c0, a, W.gh _ _ b⟩⟩
/-- a lambda is made: behind it -/
theorem OwnT.ext (h : OwnT W p q) {H1 : Hp} (e : ExtP p q W.H H1) : ∃ W1 : Wd F, W1.H = H1 ∧ Kp p W W1 ∧ OwnT W1 p q := by
  rcases e with rfl | ⟨ps, c1, pos, e1, e2, rfl⟩
  · exact ⟨W, rfl, ⟨Ex.refl _, fun _ _ _ o => o⟩, h⟩
  · obtain ⟨ps', h1, h2, h3⟩ := h.ex
    have ee : ps' = ps := by
      have := h1.h.symm.trans e1
      cases this; rfl
    subst ee
    have nc : c1 ≠ p := fun z => by rw [z, h1.h] at e2; cases e2
    have free : (W.put p (.tbl (ps' ++ #[rawInt pos.line, rawInt pos.col, .ref c1])) h1.z h1.g).H c1 = none := (upd_ne nc).trans e2
    refine ⟨(W.put p (.tbl (ps' ++ #[rawInt pos.line, rawInt pos.col, .ref c1])) h1.z h1.g).add c1 (CodeO c1 q) free, rfl, ⟨Ex.new (W.g e2), fun x u ne o => (o.put ne h1.z h1.g).up (Wd.add_le _ free)⟩, ⟨_, (W.put_at h1.z h1.g).up (Wd.add_le _ free), ?_, fun p' cv hcv => ?_⟩⟩
    · rw [show (ps' ++ #[rawInt pos.line, rawInt pos.col, Value.ref c1]).toList = ps'.toList ++ [rawInt pos.line, rawInt pos.col, .ref c1] by simp]
      exact PySem.TriplesOk_snoc _ _ _ _ h2
    · rw [show (ps' ++ #[rawInt pos.line, rawInt pos.col, Value.ref c1]).toList = ps'.toList ++ [rawInt pos.line, rawInt pos.col, .ref c1] by simp] at hcv
      rcases among_app _ h2 hcv with z | z
      · obtain ⟨c0, z1, z2⟩ := h3 p' cv z
        exact ⟨c0, z1, (upd_ne (ne_of_none z2 (W.g e2))).trans z2⟩
      · exact ⟨c1, z, upd_same⟩
/-- the entry of a def with dice and a code table -/
def Wd.inT (G H : Hp) (d s p : Addr) (h : DiceAt d s (cut H p)) (hd : DiceAt d s H) (gh : Ex G H) (gd : G d = none) : Wd (dF (cut G p) (cut H p) d s h) where
  G := cut G p
  H := H
  gh := fun a o e => by
    by_cases z : a = p
    · subst z; rw [cut_same] at e; cases e
    · rw [cut_ne z] at e; exact gh _ _ e
  gg := Ex.refl _
  kp := fun a _ g n => ⟨g, by
    have ne : a ≠ p := fun z => n (by rw [z]; exact cut_same)
    exact (cut_ne ne).symm⟩
  mg := fun a e => by
    have e : a = d := e
    rw [e]
    by_cases z : d = p
    · rw [z]; exact cut_same
    · rw [cut_ne z]; exact gd
  iv := hd
theorem Wd.inT_own {G H : Hp} {d s p : Addr} {h : DiceAt d s (cut H p)} {hd : DiceAt d s H} {gh : Ex G H} {gd : G d = none} (e : H p = some (.tbl #[])) : OwnT (Wd.inT G H d s p h hd gh gd) p q := ⟨#[], ⟨cut_same, e, cut_same⟩, True.intro, fun pos cv z => by
  have z : codeAmong pos [] = some cv := z
  simp [codeAmong] at z⟩
/-- f(lambda: ..), f without other arguments -/
theorem lam_any {TT : (XK → Hp → VK → Prop) → List V → Hp → VK → Prop} {t : XK → TE} {σ : L2.St} {Q : VK} (ot : OwnT W p q) (k : ∀ W1 : Wd F, Kp p W W1 → OwnT W1 p q → TT (fun E H' Q' => t E σ H' Q') [] W1.H Q) : tLamN p [(p, q)] q TT t tNil σ W.H Q :=
  ⟨ot.tabs, fun H1 c' e _ code => by
    obtain ⟨W1, rfl, k1, o1⟩ := ot.ext e
    exact ⟨code, k W1 k1 o1⟩⟩
end
/-- a def that tells a refusal's word, or that there is none -/
def TTw (C : Addr) : (XK → Hp → VK → Prop) → List V → Hp → VK → Prop := fun tl vs H Q => vs = [] ∧
  ∀ (E : XK) (Q' : VK), (∀ (H' : Hp) (dd : Addr) (fs : List (Str × V)) (wd : Str), H' dd = some (.xd fs) → fs.lookup ("why" : Str) = some (.str wd) → (∀ H'', Ex H' H'' → Q (.str wd) H'') → E (.ref C) (some dd) H') → (∀ v H', (∀ H'', Ex H' H'' → Q .non H'') → Q' v H') → tl E H Q'
section
variable {F : Fr} {W W1 : Wd F} {p : Addr} {q : Str} {σ : L2.St} {α : Type} {r : Rp α}
theorem fault_ne {n : NetD} {S : List Int} {w : Str} {sh : List Int} (h : FaultR n S (some (w, sh))) : w ≠ "" := by
  obtain ⟨_, _, _, h4⟩ := h
  rcases h4 with ⟨e, _⟩ | ⟨e, _⟩ | ⟨e, _⟩ <;> rw [e] <;> decide
/-- f(lambda: lit(net, closed)) -/
theorem lam_refused {C D : Addr} {f : NetD → List Int → α} {n : NetD} {S : List Int} {v u : V} {i j : Nat} {Q : VK} (ot : OwnT W p q) (e1 : σ[i]? = some (some v)) (e2 : σ[j]? = some (some u)) (h1 : (rNet C).rel W.G v n) (h2 : (rList rInt).rel W.G u S) (ok : StOk n S [])
    (k : ∀ (W1 : Wd F) (x : V), Kp p W W1 → OwnT W1 p q → (rOpt rStr).rel W1.G x (if whyN n (srt S) = "" then none else some (whyN n (srt S))) → Q x W1.H) :
    tLamN p [(p, q)] q (TTw D) (fun E => tCall (SpTold C D r f) [] E (tCons (tVar i) (tCons (tVar j) tNil))) tNil σ W.H Q :=
  lam_any ot fun W1 k1 o1 => ⟨rfl, fun E Q' kE kQ => ⟨_, e1, _, e2, W1.G, v, u, n, S, rfl, W1.gh, Rp.up k1.ex h1, Rp.up k1.ex h2, ok, fun W2 d x hx bad => by
    obtain ⟨wd, sh⟩ := x
    obtain ⟨fs, a1, a2, _⟩ := bad
    have ne := fault_ne hx
    obtain ⟨e, _⟩ := hx
    have e : whyN n (srt S) = wd := e
    refine kE W2.H d fs wd (W2.gh _ _ a1) a2 fun H'' ex => ?_
    have l := (Wd.back_le W1 W2).trans (Wd.more_le (W1.back W2) ex)
    refine k ((W1.back W2).more H'' ex) (.str wd) (k1.trans (.of_le l)) (o1.up l) ?_
    rw [e, if_neg ne]
    exact rfl, fun hn x W2 _ => kQ x W2.H fun H'' ex => by
    have l := (Wd.back_le W1 W2).trans (Wd.more_le (W1.back W2) ex)
    refine k ((W1.back W2).more H'' ex) .non (k1.trans (.of_le l)) (o1.up l) ?_
    rw [show whyN n (srt S) = "" from hn, if_pos rfl]
    exact rfl⟩⟩
end
end Q

/-! some of a list, in the order in which a law tells them -/
namespace Q
def subsM (ls : List Int) : List (List Int) := ls.foldl (fun f l => f ++ f.map fun x => x ++ [l]) [[]]
theorem subsM_snoc {ls : List Int} {l : Int} : subsM (ls ++ [l]) = subsM ls ++ (subsM ls).map fun x => x ++ [l] := by
  unfold subsM
  rw [List.foldl_append]
  rfl
theorem subsM_take {ls : List Int} {i : Nat} {l : Int} (h : ls[i]? = some l) : subsM (ls.take (i + 1)) = subsM (ls.take i) ++ (subsM (ls.take i)).map fun x => x ++ [l] := by
  rw [List.take_add_one, h]
  exact subsM_snoc
theorem snocInd {α : Type} {P : List α → Prop} (h0 : P []) (h1 : ∀ xs x, P xs → P (xs ++ [x])) (xs : List α) : P xs := by
  have : ∀ ys : List α, P ys.reverse := fun ys => by
    induction ys with
    | nil => exact h0
    | cons y ys ih => rw [List.reverse_cons]; exact h1 _ _ ih
  have z := this xs.reverse
  rwa [List.reverse_reverse] at z
theorem subsM_len (ls : List Int) : (subsM ls).length = 2 ^ ls.length := by
  induction ls using snocInd with
  | h0 => rfl
  | h1 xs x ih => rw [subsM_snoc, List.length_append, List.length_map, ih, List.length_append, List.length_singleton, Nat.pow_succ]; omega
theorem subsM_el {ls z : List Int} (h : z ∈ subsM ls) : z.Sublist ls := by
  induction ls using snocInd generalizing z with
  | h0 => rw [List.mem_singleton.mp h]; exact .slnil
  | h1 xs x ih =>
    rw [subsM_snoc] at h
    rcases List.mem_append.mp h with h | h
    · exact (ih h).trans (List.sublist_append_left _ _)
    · obtain ⟨y, hy, rfl⟩ := List.mem_map.mp h
      exact List.Sublist.append (ih hy) (List.Sublist.refl _)
theorem mem_subsM {ls z : List Int} (h : z.Sublist ls) : z ∈ subsM ls := by
  induction ls using snocInd generalizing z with
  | h0 => rw [List.sublist_nil.mp h]; exact List.mem_singleton.mpr rfl
  | h1 xs x ih =>
    rw [subsM_snoc]
    obtain ⟨a, b, rfl, h1, h2⟩ := List.sublist_append_iff.mp h
    cases h2 with
    | cons _ h2 => rw [List.sublist_nil.mp h2, List.append_nil]; exact List.mem_append_left _ (ih h1)
    | cons_cons _ h2 => rw [List.sublist_nil.mp h2]; exact List.mem_append_right _ (List.mem_map.mpr ⟨a, ih h1, rfl⟩)
end Q

/-! nets that are refused -/
namespace Q
open PySem L2
def firstB {α : Type} (f : Nat → α → Option Str) : Nat → List α → Option (Int × Str)
  | _, [] => none
  | i, x :: xs => match f i x with
    | some w => some ((i : Int), w)
    | none => firstB f (i + 1) xs
theorem firstB_none {α : Type} {f : Nat → α → Option Str} : ∀ {xs : List α} {i : Nat}, (∀ (j : Nat) x, xs[j]? = some x → f (i + j) x = none) → firstB f i xs = none
  | [], _, _ => rfl
  | x :: xs, i, h => by
    unfold firstB
    rw [show f i x = none from h 0 x rfl]
    exact firstB_none fun j y hy => by rw [show i + 1 + j = i + (j + 1) by omega]; exact h (j + 1) y hy
theorem firstB_some {α : Type} {f : Nat → α → Option Str} {x : α} {w : Str} : ∀ {xs : List α} {i m : Nat}, (∀ (j : Nat) y, j < m → xs[j]? = some y → f (i + j) y = none) → xs[m]? = some x → f (i + m) x = some w → firstB f i xs = some (((i + m : Nat) : Int), w)
  | [], _, _, _, e, _ => by simp at e
  | y :: xs, i, 0, _, e, k => by
    cases e
    unfold firstB
    rw [show f i x = some w from k]
    rfl
  | y :: xs, i, m + 1, h, e, k => by
    unfold firstB
    rw [show f i y = none from h 0 y (Nat.succ_pos _) rfl]
    have := firstB_some (f := f) (xs := xs) (i := i + 1) (m := m) (x := x) (w := w) (fun j z hj hz => by rw [show i + 1 + j = i + (j + 1) by omega]; exact h (j + 1) z (by omega) hz) e (by rw [show i + 1 + m = i + (m + 1) by omega]; exact k)
    rw [show i + (m + 1) = i + 1 + m by omega]
    exact this
def needB (x : Int) : Option Str := if 0 ≤ x ∧ x ≤ 1000000 then none else some "need"
def srcB (ss : List Int) (m : Int) (i : Nat) (x : Int) : Option Str := if (0 ≤ x ∧ x < m) ∧ x ∉ ss.take i then none else some "source"
def lineB (m : Int) (l : Ln) : Option Str := if (0 ≤ l.1 ∧ l.1 < m) ∧ (0 ≤ l.2.1 ∧ l.2.1 < m) ∧ l.1 ≠ l.2.1 then (if 0 ≤ l.2.2 ∧ l.2.2 ≤ 1000000 then none else some "limit") else some "place"
def needsB (ns : List Int) : Option (Int × Str) := if 1 ≤ ns.length ∧ ns.length ≤ 10 then firstB (fun _ x => needB x) 0 ns else some (0, "many")
def srcsB (ss : List Int) (m : Int) : Option (Int × Str) := firstB (srcB ss m) 0 ss
def linesB (ls : List Ln) (m : Int) : Option (Int × Str) := if ls.length ≤ 10 then firstB (fun _ l => lineB m l) 0 ls else some (0, "lines")
def netB (n : Rows) : Option (Int × Str) := match needsB n.1 with
  | some b => some b
  | none => match srcsB n.2.1 n.1.length with
    | some b => some b
    | none => linesB n.2.2 n.1.length
theorem firstB_all {α : Type} {f : Nat → α → Option Str} : ∀ {xs : List α} {i : Nat}, firstB f i xs = none → ∀ (j : Nat) x, xs[j]? = some x → f (i + j) x = none
  | [], _, _, j, x, e => by simp at e
  | y :: xs, i, h, j, x, e => by
    unfold firstB at h
    cases k : f i y with
    | some w => rw [k] at h; cases h
    | none =>
      rw [k] at h
      cases j with
      | zero => cases e; exact k
      | succ j => rw [show i + (j + 1) = i + 1 + j by omega]; exact firstB_all h j x e
theorem netB_ok {n : Rows} (h : netB n = none) : NetOk n.1 n.2.1 n.2.2 := by
  unfold netB at h
  cases a : needsB n.1 with
  | some b => rw [a] at h; cases h
  | none =>
    rw [a] at h
    cases b : srcsB n.2.1 n.1.length with
    | some c => simp only [b] at h; cases h
    | none =>
      simp only [b] at h
      unfold needsB at a
      unfold linesB at h
      split at a
      · rename_i c
        split at h
        · rename_i d
          have sg : ∀ (i : Nat) x, n.2.1[i]? = some x → (0 ≤ x ∧ x < (n.1.length : Int)) ∧ x ∉ n.2.1.take i := fun i x e => by
            have := firstB_all b i x e
            unfold srcB at this
            split at this
            · rename_i z; rw [Nat.zero_add] at z; exact z
            · cases this
          refine ⟨c, fun x hx => ?_, ?_, fun x hx => ?_, d, fun x hx => ?_⟩
          · obtain ⟨i, hi, e⟩ := List.getElem_of_mem hx
            have := firstB_all a i x (by rw [List.getElem?_eq_getElem hi, e])
            unfold needB at this
            split at this
            · assumption
            · cases this
          · refine List.pairwise_iff_getElem.mpr fun i j hi hj lt e => ?_
            have := (sg j _ (List.getElem?_eq_getElem hj)).2
            refine this (List.mem_iff_getElem?.mpr ⟨i, ?_⟩)
            rw [List.getElem?_take, if_pos lt, List.getElem?_eq_getElem hi, e]
          · obtain ⟨i, hi, e⟩ := List.getElem_of_mem hx
            exact (sg i x (by rw [List.getElem?_eq_getElem hi, e])).1
          · obtain ⟨i, hi, e⟩ := List.getElem_of_mem hx
            have := firstB_all h i x (by rw [List.getElem?_eq_getElem hi, e])
            unfold lineB at this
            split at this
            · split at this
              · rename_i z1 z2; exact ⟨z1.1, z1.2.1, z1.2.2, z2⟩
              · cases this
            · cases this
        · cases h
      · cases a
def PreBN (G : Hp) (vs : List V) (b : Int × Str) : Prop := vs = [.int b.1, .str b.2] ∧ b.2.length ≤ 100 ∧ b.1.natAbs < 10 ^ 9
def PostBN (G : Hp) (b : Int × Str) (fs : List (Str × V)) : Prop := fs.lookup ("at" : Str) = some (.int b.1) ∧ fs.lookup ("why" : Str) = some (.str b.2)
abbrev SpBadNet (C : Addr) : Sp := SpXI C PreBN PostBN
def BadNt (G : Hp) (d : Addr) (b : Int × Str) : Prop := ∃ fs, G d = some (.xd fs) ∧ PostBN G b fs
def SpCk1 {α : Type} (r : Rp α) (D : Addr) (pre : α → Prop) (f : α → Option (Int × Str)) : Sp := fun vs H Q E => ∃ (G : Hp) (v : V) (x : α), vs = [v] ∧ Ex G H ∧ r.rel G v x ∧ pre x ∧ (∀ (W : Wd (pF G H)) d b, f x = some b → BadNt W.G d b → E (.ref D) (some d) W.H) ∧ (f x = none → ∀ W : Wd (pF G H), Q .non W.H)
def SpCk2 {α : Type} (r : Rp α) (D : Addr) (pre : α → Prop) (f : α → Int → Option (Int × Str)) : Sp := fun vs H Q E => ∃ (G : Hp) (v : V) (x : α) (m : Int), vs = [v, .int m] ∧ Ex G H ∧ r.rel G v x ∧ pre x ∧ (∀ (W : Wd (pF G H)) d b, f x m = some b → BadNt W.G d b → E (.ref D) (some d) W.H) ∧ (f x m = none → ∀ W : Wd (pF G H), Q .non W.H)
section
variable {F : Fr} {K : PySem.W.Frag} {σ : L2.St} {W W1 : Wd F} {ta tb te tc tl ti tk tv : TE} {α β γ δ : Type} {r : Rp α} {s : Rp β} {t : Rp γ} {Dn : Ends} {tz tx ty : TS}
theorem q_ck1 {D : Addr} {E : XK} {pre : α → Prop} {f : α → Option (Int × Str)} {x : α} (ha : EvR ta σ W r x) (hp : pre x) (kE : ∀ (W1 : Wd F) d b, Le W W1 → f x = some b → BadNt W1.G d b → E (.ref D) (some d) W1.H) (k : f x = none → ∀ W1 : Wd F, Le W W1 → tz Dn σ W1.H) :
    tSeq (tDrop (tCall (SpCk1 r D pre f) [] E (tCons ta tNil))) tz Dn σ W.H :=
  ha W (Le.refl _) _ fun v W1 l1 hv => ⟨W1.G, v, x, rfl, W1.gh, hv, hp, fun W4 d b h1 h2 => kE (W1.back W4) d b (l1.trans (W1.back_le W4)) h1 h2, fun h1 W4 => k h1 (W1.back W4) (l1.trans (W1.back_le W4))⟩
theorem q_ck2 {D : Addr} {E : XK} {pre : α → Prop} {f : α → Int → Option (Int × Str)} {x : α} {m : Int} (ha : EvR ta σ W r x) (hb : EvR tb σ W rInt m) (hp : pre x) (kE : ∀ (W1 : Wd F) d b, Le W W1 → f x m = some b → BadNt W1.G d b → E (.ref D) (some d) W1.H) (k : f x m = none → ∀ W1 : Wd F, Le W W1 → tz Dn σ W1.H) :
    tSeq (tDrop (tCall (SpCk2 r D pre f) [] E (tCons ta (tCons tb tNil)))) tz Dn σ W.H :=
  ha W (Le.refl _) _ fun v W1 l1 hv => hb W1 l1 _ fun u W2 l2 hu => by
    have hu : u = .int m := hu
    subst hu
    exact ⟨W2.G, v, x, m, rfl, W2.gh, r.mono l2.ex hv, hp, fun W4 d b h1 h2 => kE (W2.back W4) d b ((l1.trans l2).trans (W2.back_le W4)) h1 h2, fun h1 W4 => k h1 (W2.back W4) ((l1.trans l2).trans (W2.back_le W4))⟩
theorem elp_bn {w : Str} {i : Int} (ha : EvR ta σ W rInt i) (hb : EvR tb σ W rStr w) (h1 : w.length ≤ 100) (h2 : i.natAbs < 10 ^ 9) : EvLP (tCons ta (tCons tb tNil)) σ W PreBN (i, w) := fun W1 l Q q =>
  ha W1 l _ fun v W2 l2 hv => hb W2 (l.trans l2) _ fun u W3 l3 hu => q _ W3 (l2.trans l3) (by simp) ⟨by rw [show v = .int i from hv, show u = .str w from hu], h1, h2⟩
theorem s_badnt {C : Addr} {E : XK} {w : Str} {i : Int} (ha : EvR ta σ W rInt i) (hb : EvR tb σ W rStr w) (h1 : w.length ≤ 100) (h2 : i.natAbs < 10 ^ 9) (k : ∀ (W1 : Wd F) d, Le W W1 → BadNt W1.G d (i, w) → E (.ref C) (some d) W1.H) : tMkO C (SpBadNet C) [] (tCons ta (tCons tb tNil)) σ W.H fun cls d H' => E cls d H' :=
  s_raiseX (x := (i, w)) (elp_bn ha hb h1 h2) (fun _ p => p) fun W1 d fs l hd hp => k W1 d l ⟨fs, hd, hp⟩
theorem g_name {j : Nat} {v : V} {H : Hp} {R : L2.St → Hp → Prop} (h : R (σ.set j (some v)) H) : gName j v σ H R := h
theorem q_asg3N {i j m : Nat} {P : α × β × γ → Prop} (h : EvN te σ W (rT3 r s t) P) (k : ∀ u w y (W1 : Wd F) x, Le W W1 → r.rel W1.G u x.1 → s.rel W1.G w x.2.1 → t.rel W1.G y x.2.2 → P x → tz Dn (((σ.set i (some u)).set j (some w)).set m (some y)) W1.H) : tSeq (tAsg te (gT3 K i j m)) tz Dn σ W.H :=
  h W (Le.refl _) _ fun v W1 x l hv hP => g_t3 (W := W1) hv fun u w y h1 h2 h3 => k u w y W1 x l h1 h2 h3 hP
end
/-- Net(..) that may be refused -/
def SpInitB (C D : Addr) : Sp := fun vs H Q E => ∃ (G : Hp) (x dx : Addr) (v1 v2 v3 : V) (n : Rows), vs = [.ref x, v1, v2, v3] ∧ Ex G H ∧ G x = none ∧ H x = some (.ins C dx []) ∧
  (rList rInt).rel G v1 n.1 ∧ (rList rInt).rel G v2 n.2.1 ∧ (rList rLine).rel G v3 n.2.2 ∧ (n.1.length ≤ 1000 ∧ n.2.1.length ≤ 1000 ∧ n.2.2.length ≤ 1000) ∧ (∃ b, netB n = some b) ∧ ∀ (W : Wd (pF G H)) d b, netB n = some b → BadNt W.G d b → E (.ref D) (some d) W.H
section
variable {F : Fr} {K : PySem.W.Frag} {σ : L2.St} {W W1 : Wd F} {ta tb te tc tl ti tk tv : TE}
theorem s_makeB {C D : Addr} {E : XK} {n : Rows} {b : Int × Str} {Q : VK} (ha : EvR ta σ W (rList rInt) n.1) (hb : EvR tb σ W (rList rInt) n.2.1) (hc : EvR tc σ W (rList rLine) n.2.2) (hl : n.1.length ≤ 1000 ∧ n.2.1.length ≤ 1000 ∧ n.2.2.length ≤ 1000) (hn : netB n = some b)
    (kE : ∀ (W1 : Wd F) d, Le W W1 → BadNt W1.G d b → E (.ref D) (some d) W1.H) : tMake C (SpInitB C D) [] E (tCons ta (tCons tb (tCons tc tNil))) σ W.H Q :=
  ha W (Le.refl _) _ fun v1 W2 l2 h1 => hb W2 l2 _ fun v2 W3 l3 h2 => hc W3 (l2.trans l3) _ fun v3 W4 l4 h3 => fun x dx hx hd ne => by
    have nx : ∀ {a : Addr} {o : HO}, W4.H a = some o → a ≠ x := fun e => ne_of_none e hx
    have nd : ∀ {a : Addr} {o : HO}, W4.H a = some o → a ≠ dx := fun e => ne_of_none e hd
    have up : ∀ {a : Addr} {o : HO}, W4.H a = some o → (upd (upd W4.H dx (.own x)) x (.ins C dx [])) a = some o := fun e => by rw [upd_ne (nx e), upd_ne (nd e)]; exact e
    refine ⟨W4.G, x, dx, v1, v2, v3, n, rfl, fun a o e => up (W4.gh a o e), W4.g hx, upd_same, (rList rInt).mono (l3.ex.trans l4.ex) h1, (rList rInt).mono l4.ex h2, h3, hl, ⟨b, hn⟩, fun W' d b' hb' bn => ?_⟩
    cases hn.symm.trans hb'
    have k2 : ∀ a, W4.G a = none → W4.H a ≠ none → W'.G a = none ∧ W'.H a = W4.H a := fun a e m => by
      cases o : W4.H a with
      | none => exact absurd o m
      | some u =>
        obtain ⟨z1, z2⟩ := W'.kp a (fun z => z) e (fun z => nomatch ((up o).symm.trans z))
        exact ⟨z1, z2.trans (up o)⟩
    have W5 : ∃ W5 : Wd F, W5.G = W'.G ∧ W5.H = W'.H ∧ Le W4 W5 := ⟨⟨W'.G, W'.H, W'.gh, W4.gg.trans W'.gg, fun a m g e => by
        obtain ⟨h1, h2⟩ := W4.kp a m g e
        obtain ⟨h3, h4⟩ := k2 a h1 (by rw [h2]; exact e)
        exact ⟨h3, h4.trans h2⟩, fun a m => (k2 a (W4.mg a m) (F.has _ _ W4.iv m)).1, F.st _ _ (fun a m => (k2 a (W4.mg a m) (F.has _ _ W4.iv m)).2) W4.iv⟩, rfl, rfl, W'.gg, fun a m g e => k2 a g e⟩
    obtain ⟨W5, e1, e2, l5⟩ := W5
    rw [← e2]
    exact kE W5 d ((l2.trans l3).trans (l4.trans l5)) (by rw [e1]; exact bn)
end
end Q
namespace Q
open PySem L2
section
variable {F : Fr} {K : PySem.W.Frag} {σ : L2.St} {W W1 : Wd F} {ta tb te tc tl ti tk tv : TE} {α β γ δ : Type} {r : Rp α} {s : Rp β} {t : Rp γ} {Dn : Ends} {tz tx ty : TS}
theorem all2_rep {R : V → α → Prop} {v : V} {x : α} (h : R v x) : ∀ n : Nat, All2 R (List.replicate n [v]).flatten (List.replicate n x)
  | 0 => All2.nil
  | n + 1 => by
    rw [List.replicate_succ, List.flatten_cons, List.replicate_succ]
    exact All2.cons h (all2_rep h n)
/-- [x] * n -/
theorem eo_rep {x : α} {n : Int} (ha : EvR ta σ W r x) (hb : EvR tb σ W rInt n) (hn : 0 ≤ n ∧ n ≤ 1000) : EvO (tOp oMulA (tLst (tCons ta tNil)) tb) σ W r (List.replicate n.toNat x) := fun W1 l Q q =>
  eo_lst (el_cons ha el_nil) (by simp) W1 l _ fun p vs W2 l2 hp ow al => hb W2 (l.trans l2) _ fun u W3 l3 hu => by
    have hu : u = .int n := hu
    subst hu
    obtain ⟨v, ev, hv⟩ := al.2 0 x rfl
    have e : vs = [v] := by
      have := al.1
      match vs, this, ev with
      | [w], _, ev => cases ev; rfl
    subst e
    have o3 := ow.up l3
    refine .inr ⟨p, n, [v], rfl, rfl, o3.h, by omega, by omega, Nat.le_trans (show [v].length * n.toNat ≤ 1000 by simp; omega) (by decide), fun p' hp' => ?_⟩
    exact q p' _ (W3.own p' _ hp') ((l2.trans l3).trans (W3.own_le hp')) (le_fresh (l2.trans l3) hp') (W3.own_at hp') (all2_rep (R := r.rel W3.G) (r.mono l3.ex hv) n.toNat)
end
end Q

namespace Q
open PySem L2
/-! the eighteen wrong things, by the document's word -/
theorem needs_none {ns : List Int} (h : 1 ≤ ns.length ∧ ns.length ≤ 10) (ok : ∀ x ∈ ns, 0 ≤ x ∧ x ≤ 1000000) : needsB ns = none := by
  unfold needsB
  rw [if_pos h]
  exact firstB_none fun j x hx => by unfold needB; rw [if_pos (ok x (List.mem_of_getElem? hx))]
theorem take_not {ss : List Int} {j : Nat} {x : Int} (nd : ss.Nodup) (h : ss[j]? = some x) : x ∉ ss.take j := fun hm => by
  obtain ⟨i, hi, e⟩ := List.getElem_of_mem hm
  rw [List.getElem_take] at e
  have h1 := (List.getElem?_eq_some_iff.mp h).1
  have h2 := (List.getElem?_eq_some_iff.mp h).2
  have hi' : i < j := by rw [List.length_take] at hi; omega
  have := (List.getElem_inj nd (h₀ := by omega) (h₁ := h1)).mp (e.trans h2.symm)
  omega
theorem srcs_none {ss : List Int} {m : Int} (nd : ss.Nodup) (ok : ∀ x ∈ ss, 0 ≤ x ∧ x < m) : srcsB ss m = none :=
  firstB_none fun j x hx => by
    unfold srcB
    rw [Nat.zero_add, if_pos ⟨ok x (List.mem_of_getElem? hx), take_not nd hx⟩]
theorem nb_many {ns : List Int} {ss : List Int} {ls : List Ln} (h : ¬ (1 ≤ ns.length ∧ ns.length ≤ 10)) : netB (ns, ss, ls) = some ((0 : Int), ("many" : Str)) := by
  unfold netB needsB
  rw [if_neg h]
theorem nb_need {ns ss : List Int} {ls : List Ln} {bad : Int} (ok : ∀ x ∈ ns, 0 ≤ x ∧ x ≤ 1000000) (hl : ns.length + 2 ≤ 10) (hb : ¬ (0 ≤ bad ∧ bad ≤ 1000000)) : netB (ns ++ [bad, -5], ss, ls) = some (((ns.length : Int) : Int), ("need" : Str)) := by
  unfold netB needsB
  rw [if_pos (by simp; omega)]
  have := firstB_some (f := fun _ x => needB x) (xs := ns ++ [bad, -5]) (i := 0) (m := ns.length) (x := bad) (w := ("need" : Str)) (fun j y hj hy => by
    rw [List.getElem?_append_left hj] at hy
    unfold needB
    rw [if_pos (ok y (List.mem_of_getElem? hy))]) (by simp) (by unfold needB; rw [if_neg hb])
  rw [Nat.zero_add] at this
  rw [this]
theorem nb_source {ns ss : List Int} {ls : List Ln} {bad : Int} (n1 : 1 ≤ ns.length ∧ ns.length ≤ 10) (ok : ∀ x ∈ ns, 0 ≤ x ∧ x ≤ 1000000) (nd : ss.Nodup) (sok : ∀ x ∈ ss, 0 ≤ x ∧ x < (ns.length : Int)) (hb : (0 ≤ bad ∧ bad < (ns.length : Int)) → bad ∈ ss) : netB (ns, ss ++ [bad, bad], ls) = some (((ss.length : Int) : Int), ("source" : Str)) := by
  unfold netB
  rw [needs_none n1 ok]
  have := firstB_some (f := srcB (ss ++ [bad, bad]) (ns.length : Int)) (xs := ss ++ [bad, bad]) (i := 0) (m := ss.length) (x := bad) (w := ("source" : Str)) (fun j y hj hy => by
    rw [List.getElem?_append_left hj] at hy
    unfold srcB
    rw [Nat.zero_add, List.take_append_of_le_length (by omega), if_pos ⟨sok y (List.mem_of_getElem? hy), take_not nd hy⟩]) (by simp) (by
    unfold srcB
    rw [Nat.zero_add, List.take_left, if_neg (fun z => z.2 (hb z.1))])
  rw [Nat.zero_add] at this
  unfold srcsB
  rw [this]
theorem nb_lines {ns ss : List Int} {ls : List Ln} (hl : ns.length + 1 ≤ 10) (ok : ∀ x ∈ ns, 0 ≤ x ∧ x ≤ 1000000) (nd : ss.Nodup) (sok : ∀ x ∈ ss, 0 ≤ x ∧ x < (ns.length : Int)) (hls : ¬ ls.length ≤ 10) : netB (ns ++ [1], ss, ls) = some ((0 : Int), ("lines" : Str)) := by
  unfold netB
  rw [needs_none (by simp; omega) (fun x hx => by rcases List.mem_append.mp hx with h | h; exact ok x h; rw [List.mem_singleton.mp h]; decide)]
  dsimp only
  rw [srcs_none nd (fun x hx => by have := sok x hx; simp; omega)]
  dsimp only
  unfold linesB
  rw [if_neg hls]
theorem nb_line {ns ss : List Int} {ls ts : List Ln} {x : Ln} {w : Str} (hl : ns.length + 2 ≤ 10) (ok : ∀ x ∈ ns, 0 ≤ x ∧ x ≤ 1000000) (nd : ss.Nodup) (sok : ∀ x ∈ ss, 0 ≤ x ∧ x < (ns.length : Int)) (lok : ∀ x ∈ ls, (0 ≤ x.1 ∧ x.1 < (ns.length : Int)) ∧ (0 ≤ x.2.1 ∧ x.2.1 < (ns.length : Int)) ∧ x.1 ≠ x.2.1 ∧ 0 ≤ x.2.2 ∧ x.2.2 ≤ 1000000)
    (ht : ls.length + (x :: ts).length ≤ 10) (hx : lineB ((ns.length : Int) + 2) x = some w) : netB (ns ++ [1, 1], ss, ls ++ x :: ts) = some ((ls.length : Int), w) := by
  unfold netB
  rw [needs_none (by simp; omega) (fun x hx => by rcases List.mem_append.mp hx with h | h; exact ok x h; simp at h; subst h; decide)]
  dsimp only
  rw [srcs_none nd (fun x hx => by have := sok x hx; simp; omega)]
  dsimp only
  unfold linesB
  rw [if_pos (by rw [List.length_append]; exact ht)]
  have e : ((ns ++ [1, 1]).length : Int) = (ns.length : Int) + 2 := by simp
  rw [e]
  have := firstB_some (f := fun _ l => lineB ((ns.length : Int) + 2) l) (xs := ls ++ x :: ts) (i := 0) (m := ls.length) (x := x) (w := w) (fun j y hj hy => by
    rw [List.getElem?_append_left hj] at hy
    have := lok y (List.mem_of_getElem? hy)
    unfold lineB
    rw [if_pos ⟨by omega, by omega, this.2.2.1⟩, if_pos this.2.2.2]) (by simp) hx
  rw [Nat.zero_add] at this
  exact this
def badLines (m : Int) : List Ln := [(0, 0, 1), (-1, 0, 1), (0, -1, 1), (m + 2, 0, 1), (0, m + 2, 1), (1, 1, -1), (0, 1, -1)] ++ [(1, 0, 1000001), (0, 1, -1000000000), (m, m, 0)]
def badWords : List Str := List.replicate 6 ("place" : Str) ++ List.replicate 3 ("limit" : Str) ++ [("place" : Str)]
theorem bad_line {m : Int} (hm : 1 ≤ m) {k : Nat} (hk : k < 10) : ∃ x w, (badLines m)[k]? = some x ∧ badWords[k]? = some w ∧ lineB (m + 2) x = some w ∧ w.length ≤ 100 := by
  have : k = 0 ∨ k = 1 ∨ k = 2 ∨ k = 3 ∨ k = 4 ∨ k = 5 ∨ k = 6 ∨ k = 7 ∨ k = 8 ∨ k = 9 := by omega
  rcases this with rfl | rfl | rfl | rfl | rfl | rfl | rfl | rfl | rfl | rfl
  · exact ⟨(0, 0, 1), "place", rfl, rfl, by unfold lineB; rw [if_neg (fun z => z.2.2 rfl)], by decide +kernel⟩
  · exact ⟨(-1, 0, 1), "place", rfl, rfl, by unfold lineB; rw [if_neg (fun z => absurd z.1.1 (by decide))], by decide +kernel⟩
  · exact ⟨(0, -1, 1), "place", rfl, rfl, by unfold lineB; rw [if_neg (fun z => absurd z.2.1.1 (by decide))], by decide +kernel⟩
  · exact ⟨(m + 2, 0, 1), "place", rfl, rfl, by unfold lineB; rw [if_neg (fun z => absurd z.1.2 (Int.lt_irrefl _))], by decide +kernel⟩
  · exact ⟨(0, m + 2, 1), "place", rfl, rfl, by unfold lineB; rw [if_neg (fun z => absurd z.2.1.2 (Int.lt_irrefl _))], by decide +kernel⟩
  · exact ⟨(1, 1, -1), "place", rfl, rfl, by unfold lineB; rw [if_neg (fun z => z.2.2 rfl)], by decide +kernel⟩
  · exact ⟨(0, 1, -1), "limit", rfl, rfl, by unfold lineB; rw [if_pos ⟨⟨by decide, by dsimp only; omega⟩, ⟨by decide, by dsimp only; omega⟩, by decide⟩, if_neg (fun z => absurd z.1 (by decide))], by decide +kernel⟩
  · exact ⟨(1, 0, 1000001), "limit", rfl, rfl, by unfold lineB; rw [if_pos ⟨⟨by decide, by dsimp only; omega⟩, ⟨by decide, by dsimp only; omega⟩, by decide⟩, if_neg (fun z => absurd z.2 (by decide))], by decide +kernel⟩
  · exact ⟨(0, 1, -1000000000), "limit", rfl, rfl, by unfold lineB; rw [if_pos ⟨⟨by decide, by dsimp only; omega⟩, ⟨by decide, by dsimp only; omega⟩, by decide⟩, if_neg (fun z => absurd z.1 (by decide))], by decide +kernel⟩
  · exact ⟨(m, m, 0), "place", rfl, rfl, by unfold lineB; rw [if_neg (fun z => z.2.2 rfl)], by decide +kernel⟩
end Q

/-! lists of lists of one's own, told and cleared; a net made of what is lent -/
namespace Q
open PySem L2
def rRef : Rp Addr := ⟨fun _ v a => v = .ref a, fun _ h => h⟩
theorem flat_ref : Flat rRef := fun _ _ _ _ h => h
def rL3 {α β γ : Type} (r : Rp α) (s : Rp β) (t : Rp γ) : Rp (α × β × γ) := ⟨fun G v x => ∃ a u w y, v = .ref a ∧ G a = some (.lst [u, w, y]) ∧ r.rel G u x.1 ∧ s.rel G w x.2.1 ∧ t.rel G y x.2.2,
  fun e ⟨a, u, w, y, h1, h2, h3, h4, h5⟩ => ⟨a, u, w, y, h1, e _ _ h2, r.mono e h3, s.mono e h4, t.mono e h5⟩⟩
section
variable {α β γ : Type} {r : Rp α} {s : Rp β} {t : Rp γ}
theorem mt_t3 (m : Mt r) (n : Mt s) (o : Mt t) : Mt (rT3 r s t) := fun e v x ⟨a, u, w, y, h1, h2, h3, h4, h5⟩ => ⟨a, u, w, y, h1, e _ _ h2, m e _ _ h3, n e _ _ h4, o e _ _ h5⟩
def dcL3 (f : Dc r) (g : Dc s) (k : Dc t) : Dc (rL3 r s t) := ⟨fun x => .list [f.d x.1, g.d x.2.1, k.d x.2.2], fun x => by simp [PyData.canLay0, PyData.canLayAll0, f.c, g.c, k.c], f.n + g.n + k.n + 1, fun x => by simp only [PyData.depth, PyData.depthAll]; have := f.b x.1; have := g.b x.2.1; have := k.b x.2.2; omega,
  fun K G H v x e h => by
    obtain ⟨a, u, w, z, rfl, h1, h2, h3, h4⟩ := h
    exact .lst (sqL_of e h1) (.cons (f.dp K G H u _ e h2) (.cons (g.dp K G H w _ e h3) (.cons (k.dp K G H z _ e h4) .nil))),
  fun x y => by simp [PyData.eqv, PyData.eqvAll, f.eq, g.eq, k.eq, Prod.ext_iff]⟩
end
abbrev rIIL : Rp (List Int × List Int × List Ln) := rL3 (rList rInt) (rList rInt) (rList rLine)
abbrev rILI : Rp (List Int × List Ln × List Int) := rL3 (rList rInt) (rList rLine) (rList rInt)
def dtIIL : Dt rIIL := (dcL3 (dcList dcInt) (dcList dcInt) (dcList (dcT3 dcInt dcInt dcInt))).dt (by decide)
section
variable {F : Fr} {K : PySem.W.Frag} {σ : L2.St} {W W1 : Wd F} {ta tb te tc tl ti tk tv : TE} {tt : TT} {α β γ δ : Type} {r : Rp α} {s : Rp β} {t : Rp γ} {q : Rp δ} {D : Ends} {tz tx ty : TS}
theorem ev_l3 {x : α} {y : β} {z : γ} (ha : EvR ta σ W r x) (hb : EvR tb σ W s y) (hc : EvR tc σ W t z) : EvR (tLst (tCons ta (tCons tb (tCons tc tNil)))) σ W (rL3 r s t) (x, y, z) := fun W1 l Q q =>
  ha W1 l _ fun u W2 l2 hu => hb W2 (l.trans l2) _ fun w W3 l3 hw => hc W3 ((l.trans l2).trans l3) _ fun y W4 l4 hy => ⟨by show 3 ≤ _; decide, fun p hp => q (.ref p) (W4.add p (.lst [u, w, y]) hp) (((l2.trans l3).trans l4).trans (W4.add_le hp))
    ⟨p, u, w, y, rfl, W4.add_at hp, r.mono ((l3.trans l4).trans (W4.add_le hp)).ex hu, s.mono (l4.trans (W4.add_le hp)).ex hw, t.mono (W4.add_le hp).ex hy⟩⟩
/-- [list(..), list(..), list(..)]: all of one's own -/
theorem q_asgO3 {i : Nat} {xs : List α} {ys : List β} {zs : List γ} (ha : EvO ta σ W r xs) (hb : EvO tb σ W s ys) (hc : EvO tc σ W t zs)
    (k : ∀ p a b c (W1 : Wd F), Le W W1 → OwnL W1 a r xs → OwnL W1 b s ys → OwnL W1 c t zs → OwnL W1 p rRef [a, b, c] → (a ≠ b ∧ a ≠ c ∧ b ≠ c ∧ a ≠ p ∧ b ≠ p ∧ c ≠ p) → (W.H a = none ∧ W.H b = none ∧ W.H c = none ∧ W.H p = none) → tz D (σ.set i (some (.ref p))) W1.H) : tSeq (tAsg (tLst (tCons ta (tCons tb (tCons tc tNil)))) (gName i)) tz D σ W.H :=
  ha W (Le.refl _) _ fun a vs W2 l2 fa oa aa => hb W2 l2 _ fun b ws W3 l3 fb ob ab => hc W3 (l2.trans l3) _ fun c us W4 l4 fc oc ac => ⟨by show 3 ≤ _; decide, fun p hp => by
    have o1 : OwnL W4 a r xs := ⟨vs, (oa.up l3).up l4, (aa.imp fun _ _ => r.mono (l3.trans l4).ex)⟩
    have o2 : OwnL W4 b s ys := ⟨ws, ob.up l4, (ab.imp fun _ _ => s.mono l4.ex)⟩
    have o3 : OwnL W4 c t zs := ⟨us, oc, ac⟩
    have le := W4.own_le (o := .lst [V.ref a, V.ref b, V.ref c]) hp
    exact k p a b c (W4.own p _ hp) (((l2.trans l3).trans l4).trans le) (o1.up le) (o2.up le) (o3.up le) ⟨_, W4.own_at hp, All2.cons rfl (All2.cons rfl (All2.one rfl))⟩ ⟨oa.ne fb, (oa.up l3).ne fc, ob.ne fc, o1.ne hp, o2.ne hp, o3.ne hp⟩ ⟨fa, le_fresh l2 fb, le_fresh (l2.trans l3) fc, le_fresh ((l2.trans l3).trans l4) hp⟩⟩
theorem lendB {b : Bool} (h : ∀ W1 : Wd F, Le W W1 → ∃ W2 : Wd F, W2.H = W1.H ∧ Ex W1.G W2.G ∧ EvB tt σ W2 b) : EvB tt σ W b := fun W1 l Q q => by
  obtain ⟨W2, e, ex, hb⟩ := h W1 l
  rw [← e]
  exact hb W2 (Le.refl _) Q fun W3 l3 => q (W1.melt W2 W3) (melt_le ex e l3)
theorem ev_ofN {x : α} (h : EvN te σ W r (· = x)) : EvR te σ W r x := fun W1 l Q q => h W1 l Q fun v W2 y l2 hv e => by subst e; exact q v W2 l2 hv
/-- three lists and the list of them, frozen -/
theorem fz3 {p a b c : Addr} {xs : List α} {ys : List β} {zs : List γ} (o1 : OwnL W a r xs) (o2 : OwnL W b s ys) (o3 : OwnL W c t zs) (o : OwnL W p rRef [a, b, c]) (n1 : a ≠ b) (n2 : a ≠ c) (n3 : b ≠ c) (n4 : a ≠ p) (n5 : b ≠ p) (n6 : c ≠ p) :
    ∃ W1 : Wd F, W1.H = W.H ∧ Ex W.G W1.G ∧ Tp W W1 ∧ (rL3 (rList r) (rList s) (rList t)).rel W1.G (.ref p) (xs, ys, zs) ∧ ∀ q u, q ≠ a → q ≠ b → q ≠ c → q ≠ p → Own W q u → Own W1 q u := by
  obtain ⟨W1, e1, k1, t1, r1⟩ := o1.fzT
  obtain ⟨W2, e2, k2, t2, r2⟩ := (o2.kp k1 n1.symm).fzT
  obtain ⟨W3, e3, k3, t3, r3⟩ := ((o3.kp k1 n2.symm).kp k2 n3.symm).fzT
  obtain ⟨W4, e4, k4, t4, r4⟩ := (((o.kp k1 n4.symm).kp k2 n5.symm).kp k3 n6.symm).fzT
  refine ⟨W4, e4.trans (e3.trans (e2.trans e1)), k1.ex.trans (k2.ex.trans (k3.ex.trans k4.ex)), ((t1.trans t2).trans t3).trans t4, ?_, fun q u h1 h2 h3 h4 x => k4.kp _ _ h4 (k3.kp _ _ h3 (k2.kp _ _ h2 (k1.kp _ _ h1 x)))⟩
  obtain ⟨a', vs, ea, hg, al⟩ := r4
  cases ea
  have : vs = [.ref a, .ref b, .ref c] := by
    obtain ⟨l, f⟩ := al
    obtain ⟨v0, e0, h0⟩ := f 0 a rfl
    obtain ⟨v1, e1, h1⟩ := f 1 b rfl
    obtain ⟨v2, e2, h2⟩ := f 2 c rfl
    cases h0; cases h1; cases h2
    match vs, l, e0, e1, e2 with
    | [x, y, z], _, e0, e1, e2 => cases e0; cases e1; cases e2; rfl
  subst this
  exact ⟨p, _, _, _, rfl, hg, (rList r).mono (k2.ex.trans (k3.ex.trans k4.ex)) r1, (rList s).mono (k3.ex.trans k4.ex) r2, (rList t).mono k4.ex r3⟩
theorem ev_ixa {x : α} {y : β} {z : γ} (ha : EvR ta σ W (rL3 r s t) (x, y, z)) (hb : EvR tb σ W rInt 0) : EvR (tOp (rIx K) ta tb) σ W r x := ev_op ha hb fun W1 v w Q l hv hw q => by
  obtain ⟨a, u, u', u2, rfl, h1, h2, h3, h4⟩ := hv
  have hw : w = .int 0 := hw
  subst hw
  exact .inl ⟨a, _, 0, u, rfl, rfl, sqL_of W1.gh h1, rfl, q u W1 (Le.refl _) h2⟩
theorem ev_ixb {x : α} {y : β} {z : γ} (ha : EvR ta σ W (rL3 r s t) (x, y, z)) (hb : EvR tb σ W rInt 1) : EvR (tOp (rIx K) ta tb) σ W s y := ev_op ha hb fun W1 v w Q l hv hw q => by
  obtain ⟨a, u, u', u2, rfl, h1, h2, h3, h4⟩ := hv
  have hw : w = .int 1 := hw
  subst hw
  exact .inl ⟨a, _, 1, u', rfl, rfl, sqL_of W1.gh h1, rfl, q u' W1 (Le.refl _) h3⟩
theorem ev_ixc {x : α} {y : β} {z : γ} (ha : EvR ta σ W (rL3 r s t) (x, y, z)) (hb : EvR tb σ W rInt 2) : EvR (tOp (rIx K) ta tb) σ W t z := ev_op ha hb fun W1 v w Q l hv hw q => by
  obtain ⟨a, u, u', u2, rfl, h1, h2, h3, h4⟩ := hv
  have hw : w = .int 2 := hw
  subst hw
  exact .inl ⟨a, _, 2, u2, rfl, rfl, sqL_of W1.gh h1, rfl, q u2 W1 (Le.refl _) h4⟩
theorem ev_lenL3 {x : α × β × γ} (ha : EvR ta σ W (rL3 r s t) x) : EvR (tCB (oLenA K) (tCons ta tNil)) σ W rInt 3 := fun W1 l Q q => ha W1 l _ fun v W2 l2 hv => by
  obtain ⟨a, u, w, y, rfl, h1, _⟩ := hv
  exact .inl ⟨a, [u, w, y], rfl, .inl (sqL_of W2.gh h1), q _ W2 l2 rfl⟩
theorem ev_lenT3 {x : α × β × γ} (ha : EvR ta σ W (rT3 r s t) x) : EvR (tCB (oLenA K) (tCons ta tNil)) σ W rInt 3 := fun W1 l Q q => ha W1 l _ fun v W2 l2 hv => by
  obtain ⟨a, u, w, y, rfl, h1, _⟩ := hv
  exact .inl ⟨a, [u, w, y], rfl, .inr (sqT_of W2.gh h1), q _ W2 l2 rfl⟩
/-- a line's k-th number -/
theorem ev_ixLn {x : Ln} {k y : Int} (ha : EvR ta σ W rLine x) (hb : EvR tb σ W rInt k) (h : (k = 0 ∧ y = x.1) ∨ (k = 1 ∧ y = x.2.1) ∨ (k = 2 ∧ y = x.2.2)) : EvR (tOp (rIx K) ta tb) σ W rInt y := ev_op ha hb fun W1 v w Q l hv hw q => by
  obtain ⟨a, u, u', u2, rfl, h1, h2, h3, h4⟩ := hv
  have hw : w = .int k := hw
  subst hw
  rcases h with ⟨rfl, rfl⟩ | ⟨rfl, rfl⟩ | ⟨rfl, rfl⟩
  · exact .inr (.inl ⟨a, _, 0, u, rfl, rfl, sqT_of W1.gh h1, rfl, q u W1 (Le.refl _) h2⟩)
  · exact .inr (.inl ⟨a, _, 1, u', rfl, rfl, sqT_of W1.gh h1, rfl, q u' W1 (Le.refl _) h3⟩)
  · exact .inr (.inl ⟨a, _, 2, u2, rfl, rfl, sqT_of W1.gh h1, rfl, q u2 W1 (Le.refl _) h4⟩)
theorem ty_t3 : TyR (rT3 r s t) "tuple" := fun K G H v x e h => by
  obtain ⟨a, u, w, y, rfl, h1, _⟩ := h
  exact .base (.tup (e _ _ h1))
theorem ty_l3 : TyR (rL3 r s t) "list" := fun K G H v x e h => by
  obtain ⟨a, u, w, y, rfl, h1, _⟩ := h
  exact .base (.lst (e _ _ h1))
theorem nn_t3 : ∀ (G : Hp) v (x : α × β × γ), (rT3 r s t).rel G v x → v ≠ .non := fun G v x h => by
  obtain ⟨a, _, _, _, rfl, _⟩ := h
  exact fun z => nomatch z
theorem nn_l3 : ∀ (G : Hp) v (x : α × β × γ), (rL3 r s t).rel G v x → v ≠ .non := fun G v x h => by
  obtain ⟨a, _, _, _, rfl, _⟩ := h
  exact fun z => nomatch z
/-- row.clear(), the row one's own -/
theorem s_clear {i : Nat} {p : Addr} {vs : List V} (hi : σ[i]? = some (some (.ref p))) (o : Own W p (.lst vs)) (k : ∀ W1 : Wd F, Kp p W W1 → Own W1 p (.lst []) → D.nx σ W1.H) : tDrop (tBM0 K "list" rClear (tVar i)) D σ W.H :=
  ⟨_, hi, .inl ⟨rfl, _, sqL_of (Ex.refl _) o.h⟩, p, vs, rfl, rfl, o.h, k (W.put p _ o.z o.g) ⟨Ex.refl _, fun q u ne x => x.put ne _ _⟩ (W.put_at o.z o.g)⟩
end
/-! two promises in one -/
def SpOr (A B : Sp) : Sp := fun vs H Q E => A vs H Q E ∨ B vs H Q E
theorem fn_or {P : Program} {w : World} {K : PySem.W.Frag} {mg : Str → Option Value} {base : Heap} {CX : CXT} {k : Nat} {f : Addr} {fd : FuncData} {ps : List Str} {A B : Sp} (a : FnOk P w K mg base CX k f fd ps A) (b : FnOk P w K mg base CX k f fd ps B) : FnOk P w K mg base CX k f fd ps (SpOr A B) :=
  ⟨fun vs H Q E h => h.elim (a.len vs H Q E) (b.len vs H Q E), fun A' outer s H args us vs Q E hr e hb hv h => h.elim (a.run A' outer s H args us vs Q E hr e hb hv) (b.run A' outer s H args us vs Q E hr e hb hv)⟩
abbrev SpLk {α : Type} (r : Rp α) (pre : α → Prop) : Sp := Fn2 r r rBool (fun x y => x = y ∧ pre x) (fun _ _ => true)
section
variable {F : Fr} {K : PySem.W.Frag} {σ : L2.St} {W W1 : Wd F} {ta tb : TE} {α β : Type} {r : Rp α} {B : Sp} {E : XK}
theorem ev_lkL {pre : α → Prop} {x : α} (ha : EvR ta σ W r x) (hb : EvR tb σ W r x) (hp : pre x) : EvR (tCall (SpOr (SpLk r pre) B) [] E (tCons ta (tCons tb tNil))) σ W rBool true := fun W1 l Q q =>
  ha W1 l _ fun v W2 l2 hv => hb W2 (l.trans l2) _ fun u W3 l3 hu => .inl ⟨W3.G, v, u, x, x, rfl, W3.gh, r.mono l3.ex hv, hu, ⟨rfl, hp⟩, fun z W4 hz => q z (W3.back W4) ((l2.trans l3).trans (W3.back_le W4)) hz⟩
theorem ev_lkR {pre : α → Prop} {x : α} (ha : EvR ta σ W r x) (hb : EvR tb σ W r x) (hp : pre x) : EvR (tCall (SpOr B (SpLk r pre)) [] E (tCons ta (tCons tb tNil))) σ W rBool true := fun W1 l Q q =>
  ha W1 l _ fun v W2 l2 hv => hb W2 (l.trans l2) _ fun u W3 l3 hu => .inr ⟨W3.G, v, u, x, x, rfl, W3.gh, r.mono l3.ex hv, hu, ⟨rfl, hp⟩, fun z W4 hz => q z (W3.back W4) ((l2.trans l3).trans (W3.back_le W4)) hz⟩
end
/-! a net made of what is lent: its lists are new -/
def SpInitF (C : Addr) : Sp := fun vs H Q _ => ∃ (G : Hp) (x dx : Addr) (v1 v2 v3 : V) (ns ss : List Int) (ls : List (Int × Int × Int)), vs = [.ref x, v1, v2, v3] ∧ Ex G H ∧ G x = none ∧ H x = some (.ins C dx []) ∧
  (rList rInt).rel G v1 ns ∧ (rList rInt).rel G v2 ss ∧ (rList rLine).rel G v3 ls ∧ NetOk ns ss ls ∧
  ∀ (G' H' : Hp) (p q u : Addr) (ss' : List Int), Ex G G' → Ex G' H' → (∀ a, a ≠ x → G a = none → H a ≠ none → G' a = none ∧ H' a = H a) → G' x = none → H' x = some (.ins C dx (netFs p q u)) →
    (rList rInt).rel G' (.ref p) ns → (rList rInt).rel G' (.ref q) ss' → (rList rLine).rel G' (.ref u) ls → ss'.Perm ss → ss'.Pairwise (· ≤ ·) → (H p = none ∧ H q = none ∧ H u = none) → Q .non H'
theorem s_setFO {K : PySem.W.Frag} {σ : L2.St} {G H : Hp} {gh : Ex G H} {te : TE} {α : Type} {r : Rp α} {D : Ends} {i : Nat} {x C dx : Addr} {fs : List (Str × V)} {f : Str} {P : List α → Prop} (hi : σ[i]? = some (some (.ref x))) (gx : G x = none) (hx : H x = some (.ins C dx fs)) (cl : Cls K C) (na : NoAttr K C f) (hl : fs.length < 1000)
    (h : EvON te σ (Wd.in G H gh) r P) (k : ∀ (p : Addr) (G' H' : Hp) y, H p = none → Off x G H G' H' → H' x = some (.ins C dx (putF f (.ref p) fs)) → (rList r).rel G' (.ref p) y → P y → D.nx σ H') : sFld K (tVar i) te f D σ H :=
  h _ (Le.refl _) _ fun p vs W y l hp a al hy => by
    have l2 := le_frz l hp a
    obtain ⟨o, e⟩ := Off.wd (W.frz p _ a) gx (by rw [hx]; exact fun z => nomatch z)
    exact ⟨_, hi, x, C, dx, fs, rfl, e.trans hx, cl, na, hl, k p (W.frz p _ a).G _ y hp o.store upd_same ⟨p, vs, rfl, W.frz_at a, al.imp fun _ _ => r.mono (W.frz_wk a).ex⟩ hy⟩
theorem q_setFO {K : PySem.W.Frag} {σ : L2.St} {G H : Hp} {gh : Ex G H} {te : TE} {α : Type} {r : Rp α} {D : Ends} {tz : TS} {i : Nat} {x C dx : Addr} {fs : List (Str × V)} {f : Str} {P : List α → Prop} (hi : σ[i]? = some (some (.ref x))) (gx : G x = none) (hx : H x = some (.ins C dx fs)) (cl : Cls K C) (na : NoAttr K C f) (hl : fs.length < 1000)
    (h : EvON te σ (Wd.in G H gh) r P) (k : ∀ (p : Addr) (G' H' : Hp) y, H p = none → Off x G H G' H' → H' x = some (.ins C dx (putF f (.ref p) fs)) → (rList r).rel G' (.ref p) y → P y → tz D σ H') : tSeq (sFld K (tVar i) te f) tz D σ H := s_setFO (gh := gh) (D := { D with nx := tz D }) hi gx hx cl na hl h k
theorem melt_new {F : Fr} {W W1 W2 : Wd F} {a : Addr} (h : W1.G a = none) : (W.melt W1 W2).G a = W2.G a := by
  show (match W.G a, W1.G a with | none, some _ => none | _, _ => W2.G a) = W2.G a
  rw [h]
  cases W.G a <;> rfl
section
variable {F : Fr} {K : PySem.W.Frag} {σ : L2.St} {W W1 : Wd F} {ta tb te tc : TE} {D : Ends} {tz : TS} {E : XK}
theorem makeF {C : Addr} {Q : VK} {ns ss : List Int} {ls : List (Int × Int × Int)} (e1 : W1.H = W.H) (ex1 : Ex W.G W1.G) (tp : Tp W W1) (ha : EvR ta σ W1 (rList rInt) ns) (hb : EvR tb σ W1 (rList rInt) ss) (hc : EvR tc σ W1 (rList rLine) ls) (ok : NetOk ns ss ls)
    (k : ∀ v (W3 : Wd F) n, Le W W3 → (rNet C).rel W3.G v n → n.needs = ns ∧ n.lines = ls ∧ n.sources.Perm ss ∧ n.sources.Pairwise (· ≤ ·) → Q v W3.H) :
    tMake C (SpInitF C) [] E (tCons ta (tCons tb (tCons tc tNil))) σ W.H Q := by
  rw [← e1]
  refine ha W1 (Le.refl _) _ fun v1 W2 l2 h1 => hb W2 l2 _ fun v2 W3 l3 h2 => hc W3 (l2.trans l3) _ fun v3 W4 l4 h3 => fun x dx hx hd ne => ?_
  have l14 := (l2.trans l3).trans l4
  have nx : ∀ {a : Addr} {o : HO}, W4.H a = some o → a ≠ x := fun e => ne_of_none e hx
  have nd : ∀ {a : Addr} {o : HO}, W4.H a = some o → a ≠ dx := fun e => ne_of_none e hd
  have up : ∀ {a : Addr} {o : HO}, W4.H a = some o → (upd (upd W4.H dx (.own x)) x (.ins C dx [])) a = some o := fun e => by rw [upd_ne (nx e), upd_ne (nd e)]; exact e
  refine ⟨W4.G, x, dx, v1, v2, v3, ns, ss, ls, rfl, fun a o e => up (W4.gh a o e), W4.g hx, upd_same, (rList rInt).mono (l3.ex.trans l4.ex) h1, (rList rInt).mono l4.ex h2, h3, ok, fun G' H' p p2 u ss' g1 g2 kp gx ex r1 r2 r3 pm so ⟨f1, f2, f3⟩ => ⟨rfl, ?_⟩⟩
  have k2 : ∀ a, W4.G a = none → W4.H a ≠ none → G' a = none ∧ H' a = W4.H a := fun a e n => by
    cases o : W4.H a with
    | none => exact absurd o n
    | some u =>
      obtain ⟨z1, z2⟩ := kp a (nx o) e (fun z => nomatch ((up o).symm.trans z))
      exact ⟨z1, z2.trans (up o)⟩
  have gG : Ex G' (upd G' x (.ins C dx (netFs p p2 u))) := Ex.new gx
  have gH : Ex (upd G' x (.ins C dx (netFs p p2 u))) H' := fun a o e => by
    by_cases h : a = x
    · subst h; rw [upd_same] at e; rw [ex]; exact e
    · rw [upd_ne h] at e; exact g2 a o e
  have nxG : ∀ a, W4.H a ≠ none → a ≠ x := fun a n z => n (by rw [z]; exact hx)
  obtain ⟨W5, e5, e6, l5⟩ : ∃ W5 : Wd F, W5.G = upd G' x (.ins C dx (netFs p p2 u)) ∧ W5.H = H' ∧ Le W4 W5 := by
    refine ⟨⟨_, H', gH, W4.gg.trans (g1.trans gG), fun a m g n => ?_, fun a m => ?_, F.st _ _ (fun a m => (k2 a (W4.mg a m) (F.has _ _ W4.iv m)).2) W4.iv⟩, rfl, rfl, g1.trans gG, fun a m g n => ?_⟩
    · obtain ⟨h1, h2⟩ := W4.kp a m g n
      obtain ⟨h3, h4⟩ := k2 a h1 (by rw [h2]; exact n)
      exact ⟨(upd_ne (nxG a (by rw [h2]; exact n))).trans h3, h4.trans h2⟩
    · have n := F.has _ _ W4.iv m
      exact (upd_ne (nxG a n)).trans (k2 a (W4.mg a m) n).1
    · obtain ⟨h3, h4⟩ := k2 a g n
      exact ⟨(upd_ne (nxG a n)).trans h3, h4⟩
  subst e6
  have l15 := l14.trans l5
  -- what is new to the heap is not lent
  have fresh : ∀ {a : Addr}, (upd (upd W4.H dx (.own x)) x (.ins C dx [])) a = none → W4.H a = none := fun {a} h => by
    cases z : W4.H a with
    | none => rfl
    | some o => exact absurd ((up z).symm.trans h) (fun z => nomatch z)
  have new : ∀ {a : Addr}, W4.H a = none → (W.melt W1 W5).G a = W5.G a := fun {a} h => melt_new (W1.g (le_fresh l14 h))
  have lst : ∀ {α : Type} {r : Rp α} {a : Addr} {xs : List α}, Mt r → W4.H a = none → (rList r).rel G' (.ref a) xs → (rList r).rel (W.melt W1 W5).G (.ref a) xs := fun {α r a xs} m h hr => by
    obtain ⟨a', vs, ea, h1, h2⟩ := hr
    cases ea
    refine ⟨a, vs, rfl, (new h).trans (by rw [e5]; exact gG _ _ h1), h2.imp fun v y hv => m (melt_tup tp l15) _ _ (by rw [e5]; exact r.mono gG hv)⟩
  exact k (.ref x) (W.melt W1 W5) ⟨ns, ss', ls⟩ (melt_le ex1 e1 l15) ⟨x, dx, p, p2, u, rfl, (new hx).trans (by rw [e5]; exact upd_same), lst mt_int (fresh f1) r1, lst mt_int (fresh f2) r2, lst (mt_t3 mt_int mt_int mt_int) (fresh f3) r3⟩ ⟨rfl, rfl, pm, so⟩
theorem q_makeF {C : Addr} {i : Nat} {ns ss : List Int} {ls : List (Int × Int × Int)} (e1 : W1.H = W.H) (ex1 : Ex W.G W1.G) (tp : Tp W W1) (ha : EvR ta σ W1 (rList rInt) ns) (hb : EvR tb σ W1 (rList rInt) ss) (hc : EvR tc σ W1 (rList rLine) ls) (ok : NetOk ns ss ls)
    (k : ∀ v (W3 : Wd F) n, Le W W3 → (rNet C).rel W3.G v n → n.needs = ns ∧ n.lines = ls ∧ n.sources.Perm ss ∧ n.sources.Pairwise (· ≤ ·) → tz D (σ.set i (some v)) W3.H) :
    tSeq (tAsg (tMake C (SpInitF C) [] E (tCons ta (tCons tb (tCons tc tNil)))) (gName i)) tz D σ W.H := makeF (Q := fun v H => tz D (σ.set i (some v)) H) e1 ex1 tp ha hb hc ok k
theorem ev_makeFN {C : Addr} {ns ss : List Int} {ls : List (Int × Int × Int)} (ha : EvR ta σ W (rList rInt) ns) (hb : EvR tb σ W (rList rInt) ss) (hc : EvR tc σ W (rList rLine) ls) (ok : NetOk ns ss ls) :
    EvN (tMake C (SpInitF C) [] E (tCons ta (tCons tb (tCons tc tNil)))) σ W (rNet C) (fun n => n.needs = ns ∧ n.lines = ls ∧ n.sources.Perm ss ∧ n.sources.Pairwise (· ≤ ·)) := fun W1 l Q q =>
  makeF (W := W1) (W1 := W1) rfl (Ex.refl _) (Tp.refl _) (ha.up l) (hb.up l) (hc.up l) ok fun v W3 n l3 h1 h2 => q v W3 n l3 h1 h2
def SpMO {α : Type} (C : Addr) (r : Rp α) (pre : NetD → Prop) (f : NetD → List α) : Sp := fun vs H Q _ => ∃ (G : Hp) (v : V) (n : NetD), vs = [v] ∧ Ex G H ∧ (rNet C).rel G v n ∧ pre n ∧ ∀ p (W : Wd (pF G H)), OwnL W p r (f n) → Q (.ref p) W.H
theorem eo_methO {α : Type} {r : Rp α} {C : Addr} {n : NetD} {m : Str} {pre : NetD → Prop} {f : NetD → List α} (h1 : ¬ m = "_needs") (h2 : ¬ m = "_sources") (h3 : ¬ m = "_lines") (h : EvR ta σ W (rNet C) n) (hp : pre n) : EvO (tMeth C m (SpMO C r pre f) [] E ta tNil) σ W r (f n) := fun W1 l Q q =>
  h W1 l _ fun v W2 l2 hv => by
    obtain ⟨a, dx, p, p2, u, rfl, g2, g3, g4, g5⟩ := id hv
    exact ⟨a, dx, _, rfl, W2.gh _ _ g2, nf_none _ _ _ h1 h2 h3, W2.G, _, n, rfl, W2.gh, hv, hp, fun p W3 o => by
      obtain ⟨vs, o1, o2⟩ := o.ex
      exact q p vs (W2.back W3) (l2.trans (W2.back_le W3)) (le_fresh l2 o1.z) o1.back o2⟩
theorem ev_methON {α : Type} {r : Rp α} {C : Addr} {P : NetD → Prop} {R : List α → Prop} {m : Str} {pre : NetD → Prop} {f : NetD → List α} (h1 : ¬ m = "_needs") (h2 : ¬ m = "_sources") (h3 : ¬ m = "_lines") (h : EvN ta σ W (rNet C) P) (hp : ∀ n, P n → pre n) (hR : ∀ n, P n → R (f n)) : EvN (tMeth C m (SpMO C r pre f) [] E ta tNil) σ W (rList r) R := fun W1 l Q q =>
  h W1 l _ fun v W2 n l2 hv hn => by
    obtain ⟨a, dx, p, p2, u, rfl, g2, g3, g4, g5⟩ := id hv
    exact ⟨a, dx, _, rfl, W2.gh _ _ g2, nf_none _ _ _ h1 h2 h3, W2.G, _, n, rfl, W2.gh, hv, hp n hn, fun p W3 o => by
      obtain ⟨vs, o1, o2⟩ := o.ex
      have l3 := l2.trans (W2.back_le W3)
      exact q (.ref p) ((W2.back W3).frz p _ o1.back) (f n) (le_frz l3 (le_fresh l2 o1.z) o1.back) ⟨p, vs, rfl, Wd.frz_at _ o1.back, o2.imp fun _ _ => r.mono (Wd.frz_wk _ o1.back).ex⟩ (hR n hn)⟩
theorem q_whenN {tt : TT} {tx : TS} {P : Bool → Prop} (h : EvBN tt σ W P) (h1 : P true → ∀ W1 : Wd F, Le W W1 → tx { D with nx := tz D } σ W1.H) (h2 : P false → ∀ W1 : Wd F, Le W W1 → tz D σ W1.H) : tSeq (tIfS tt tx tNext) tz D σ W.H := h W (Le.refl _) _ fun W1 b l hb => by
  cases b with
  | true => exact iteT (h1 hb W1 l)
  | false => exact iteF (h2 hb W1 l)
end
end Q

/-! two lists of one's own at once; xs.append(ys.pop(k)); words or None -/
namespace Q
open PySem L2
section
variable {F : Fr} {K : PySem.W.Frag} {σ : L2.St} {W W1 : Wd F} {ta tb te tc tl ti tk tv : TE} {α β γ δ : Type} {r : Rp α} {s : Rp β} {t : Rp γ} {D : Ends} {tz tx ty : TS}
/-- x, y = e, f: both lists of one's own -/
theorem q_asgOO {i j : Nat} {xs : List α} {ys : List β} (ha : EvO ta σ W r xs) (hb : EvO tb σ W s ys)
    (k : ∀ a b (W1 : Wd F), Le W W1 → W.H a = none → W.H b = none → a ≠ b → OwnL W1 a r xs → OwnL W1 b s ys → tz D ((σ.set i (some (.ref a))).set j (some (.ref b))) W1.H) : tSeq (tAsg (tTup (tCons ta (tCons tb tNil))) (gT2 K i j)) tz D σ W.H :=
  ha W (Le.refl _) _ fun a vs W2 l2 fa oa aa => hb W2 l2 _ fun b ws W3 l3 fb ob ab => ⟨by show 2 ≤ _; decide, fun p hp => by
    have o1 : OwnL W3 a r xs := ⟨vs, oa.up l3, aa.imp fun _ _ => r.mono l3.ex⟩
    have o2 : OwnL W3 b s ys := ⟨ws, ob, ab⟩
    have le := W3.add_le (o := .tup [V.ref a, V.ref b]) hp
    exact g_t2 (W := W3.add p (.tup [V.ref a, V.ref b]) hp) (r := rRef) (s := rRef) (x := (a, b)) ⟨p, _, _, rfl, W3.add_at hp, rfl, rfl⟩ fun u w hu hw => by
      cases hu; cases hw
      exact k a b _ ((l2.trans l3).trans le) fa (le_fresh l2 fb) (oa.ne fb) (o1.up le) (o2.up le)⟩
/-- xs.append(ys.pop(k)), both of one's own -/
theorem s_appPop {i j : Nat} {p q : Addr} {xs ys : List α} {P : Int → Prop} (hi : σ[i]? = some (some (.ref p))) (o : OwnL W p r xs) (hj : σ[j]? = some (some (.ref q))) (o2 : OwnL W q r ys) (ne : q ≠ p) (h : EvN te σ W rInt P) (hP : ∀ k, P k → 0 ≤ k ∧ k < (ys.length : Int)) (hz : xs.length < 100000 ∧ ys.length ≤ 100000)
    (c : ∀ (W1 : Wd F) x (k : Nat), Wk W W1 → (∀ z u, z ≠ p → z ≠ q → Own W z u → Own W1 z u) → ys[k]? = some x → OwnL W1 p r (xs ++ [x]) → OwnL W1 q r (ys.eraseIdx k) → D.nx σ W1.H) :
    tDrop (tBM K "list" rAppend (tVar i) (tCons (tBM K "list" rPopAt (tVar j) (tCons te tNil)) tNil)) D σ W.H := by
  obtain ⟨vs, h1, h2⟩ := o.ex
  obtain ⟨us, g1, g2⟩ := o2.ex
  refine ⟨_, hi, .inl ⟨rfl, _, sqL_of (Ex.refl _) h1.h⟩, _, hj, .inl ⟨rfl, _, sqL_of (Ex.refl _) g1.h⟩, h W (Le.refl _) _ fun v W1 n l hv hn => ?_⟩
  have hv : v = .int n := hv
  subst hv
  obtain ⟨n0, n1⟩ := hP n hn
  have hx : ys[n.toNat]? = some ys[n.toNat] := List.getElem?_eq_getElem (by omega)
  obtain ⟨v, ev, hr⟩ := g2.2 _ _ hx
  have q1 := g1.up l
  have p1 := h1.up l
  refine ⟨q, us, n, n.toNat, v, rfl, rfl, q1.h, by omega, by omega, ?_, ev, ?_⟩
  · unfold seqIndex?
    rw [if_neg (show ¬ n < 0 by omega)]
    simp only
    rw [if_pos (by rw [g2.1]; simp; omega)]
  · have p2 : Own (W1.put q (.lst (us.eraseIdx n.toNat)) q1.z q1.g) p (.lst vs) := p1.put ne.symm _ _
    have q2 : Own (W1.put q (.lst (us.eraseIdx n.toNat)) q1.z q1.g) q (.lst (us.eraseIdx n.toNat)) := W1.put_at q1.z q1.g
    refine ⟨p, vs, v, rfl, rfl, p2.h, by rw [h2.1]; exact Nat.lt_of_lt_of_le hz.1 (by decide), ?_⟩
    exact c ((W1.put q (.lst (us.eraseIdx n.toNat)) q1.z q1.g).put p (.lst (vs ++ [v])) p2.z p2.g) _ n.toNat ⟨l.ex⟩ (fun z u zp zq x => ((x.up l).put zq _ _).put zp _ _) hx
      ⟨_, Wd.put_at _ p2.z p2.g, (h2.imp fun _ _ => r.mono l.ex).snoc (r.mono l.ex hr)⟩ ⟨_, q2.put ne _ _, (g2.imp fun _ _ => r.mono l.ex).erase _⟩
/-- data that can be laid where ok holds -/
structure Dz (r : Rp α) where
  d : α → PyData
  ok : α → Prop
  c : ∀ x, ok x → (d x).canLay0 = true
  n : Nat
  b : ∀ x, (d x).depth ≤ n
  dp : ∀ K G H v x, Ex G H → r.rel G v x → Dp K H v (d x)
  eq : ∀ x y, PyData.eqv (d x) (d y) = true ↔ x = y
def Dc.z (f : Dc r) : Dz r := ⟨f.d, fun _ => True, fun x _ => f.c x, f.n, f.b, f.dp, f.eq⟩
theorem canAllZ {d : α → PyData} {ok : α → Prop} (h : ∀ x, ok x → (d x).canLay0 = true) : ∀ (xs : List α), (∀ x ∈ xs, ok x) → PyData.canLayAll0 (xs.map d) = true
  | [], _ => by simp [PyData.canLayAll0]
  | x :: xs, hx => by simp [PyData.canLayAll0, h x (hx x (.head _)), canAllZ h xs fun y hy => hx y (.tail _ hy)]
def dzList (f : Dz r) : Dz (rList r) := ⟨fun xs => .list (xs.map f.d), fun xs => ∀ x ∈ xs, f.ok x, fun xs h => by simp only [PyData.canLay0]; exact canAllZ f.c xs h, f.n + 1, fun xs => by simp only [PyData.depth]; have := depAll f.b xs; omega,
  fun K G H v xs e h => by
    obtain ⟨a, vs, rfl, h1, h2⟩ := h
    exact .lst (sqL_of e h1) (dpAll (fun v x h => f.dp K G H v x e h) h2),
  fun xs ys => by simp only [PyData.eqv]; exact eqvAll f.eq xs ys⟩
def dzTup (f : Dz r) : Dz (rTup r) := ⟨fun xs => .tuple (xs.map f.d), fun xs => ∀ x ∈ xs, f.ok x, fun xs h => by simp only [PyData.canLay0]; exact canAllZ f.c xs h, f.n + 1, fun xs => by simp only [PyData.depth]; have := depAll f.b xs; omega,
  fun K G H v xs e h => by
    obtain ⟨a, vs, rfl, h1, h2⟩ := h
    exact .tup (sqT_of e h1) (dpAll (fun v x h => f.dp K G H v x e h) h2),
  fun xs ys => by simp only [PyData.eqv]; exact eqvAll f.eq xs ys⟩
def dzT2 (f : Dz r) (g : Dz s) : Dz (rT2 r s) := ⟨fun x => .tuple [f.d x.1, g.d x.2], fun x => f.ok x.1 ∧ g.ok x.2, fun x h => by simp [PyData.canLay0, PyData.canLayAll0, f.c _ h.1, g.c _ h.2], f.n + g.n + 1, fun x => by simp only [PyData.depth, PyData.depthAll]; have := f.b x.1; have := g.b x.2; omega,
  fun K G H v x e h => by
    obtain ⟨a, u, w, rfl, h1, h2, h3⟩ := h
    exact .tup (sqT_of e h1) (.cons (f.dp K G H u _ e h2) (.cons (g.dp K G H w _ e h3) .nil)),
  fun x y => by simp [PyData.eqv, PyData.eqvAll, f.eq, g.eq, Prod.ext_iff]⟩
def dzT3 (f : Dz r) (g : Dz s) (k : Dz t) : Dz (rT3 r s t) := ⟨fun x => .tuple [f.d x.1, g.d x.2.1, k.d x.2.2], fun x => f.ok x.1 ∧ g.ok x.2.1 ∧ k.ok x.2.2, fun x h => by simp [PyData.canLay0, PyData.canLayAll0, f.c _ h.1, g.c _ h.2.1, k.c _ h.2.2], f.n + g.n + k.n + 1, fun x => by simp only [PyData.depth, PyData.depthAll]; have := f.b x.1; have := g.b x.2.1; have := k.b x.2.2; omega,
  fun K G H v x e h => by
    obtain ⟨a, u, w, y, rfl, h1, h2, h3, h4⟩ := h
    exact .tup (sqT_of e h1) (.cons (f.dp K G H u _ e h2) (.cons (g.dp K G H w _ e h3) (.cons (k.dp K G H y _ e h4) .nil))),
  fun x y => by simp [PyData.eqv, PyData.eqvAll, f.eq, g.eq, k.eq, Prod.ext_iff]⟩
abbrev strOK (x : Str) : Prop := PyData.strOk x = true
def dzStr : Dz rStr := ⟨.str, strOK, fun x h => by simpa [PyData.canLay0] using h, 0, fun x => by simp [PyData.depth], fun K G H v x e h => by
  have h : v = .str x := h
  subst h; exact .str _, fun x y => by simp [PyData.eqv]⟩
def dzOpt (f : Dz r) (n1 : ∀ x, PyData.eqv .none (f.d x) = false) (n2 : ∀ x, PyData.eqv (f.d x) .none = false) : Dz (rOpt r) := ⟨fun x => match x with | none => .none | some x => f.d x, fun x => ∀ y, x = some y → f.ok y, fun x h => by
    cases x with
    | none => simp [PyData.canLay0]
    | some y => exact f.c y (h y rfl), f.n, fun x => by
    cases x with
    | none => simp [PyData.depth]
    | some y => exact f.b y, fun K G H v x e h => by
    cases x with
    | none => have h : v = .non := h; subst h; exact .non
    | some x => exact f.dp K G H v x e h, fun x y => by
    cases x with
    | none => cases y with
      | none => simp [PyData.eqv]
      | some y => simp [n1]
    | some x => cases y with
      | none => simp [n2]
      | some y => simp [f.eq]⟩
def dzOStr : Dz (rOpt rStr) := dzOpt dzStr (fun x => by simp [dzStr, PyData.eqv]) (fun x => by simp [dzStr, PyData.eqv])
theorem Dz.sh (f : Dz r) (hn : f.n ≤ 64) {x : α} (h : f.ok x) : SeqAt.shaped (f.d x) = true := by
  unfold SeqAt.shaped
  rw [f.c x h, Bool.true_and, decide_eq_true_eq]
  exact Nat.le_trans (f.b x) hn
theorem Dz.dec [DecidableEq α] (f : Dz r) (x y : α) : PyData.eqv (f.d x) (f.d y) = decide (x = y) := by
  by_cases h : x = y
  · subst h; simp [(f.eq x x).mpr rfl]
  · rw [decide_eq_false h]; exact Bool.eq_false_iff.mpr fun z => h ((f.eq x y).mp z)
theorem ev_eqZ [DecidableEq α] {x y : α} (f : Dz r) (hn : f.n ≤ 64) (hx : f.ok x) (hy : f.ok y) (ha : EvR ta σ W r x) (hb : EvR tb σ W r y) : EvR (tOp (oEqA K) ta tb) σ W rBool (decide (x = y)) :=
  ev_op ha hb fun W1 v w Q l hv hw q => .inr ⟨f.d x, f.d y, f.dp K _ _ _ _ W1.gh hv, f.dp K _ _ _ _ W1.gh hw, f.sh hn hx, f.sh hn hy, by rw [f.dec]; exact q _ W1 (Le.refl _) rfl⟩
theorem ev_neZ [DecidableEq α] {x y : α} (f : Dz r) (hn : f.n ≤ 64) (hx : f.ok x) (hy : f.ok y) (ha : EvR ta σ W r x) (hb : EvR tb σ W r y) : EvR (tOp (oNeA K) ta tb) σ W rBool (!decide (x = y)) :=
  ev_op ha hb fun W1 v w Q l hv hw q => .inr ⟨f.d x, f.d y, f.dp K _ _ _ _ W1.gh hv, f.dp K _ _ _ _ W1.gh hw, f.sh hn hx, f.sh hn hy, by rw [f.dec]; exact q _ W1 (Le.refl _) rfl⟩
end
end Q

/-! states whose numbers are refused -/
namespace Q
open PySem L2
structure NumOk (n : NetD) (S B : List Int) : Prop where
  nb : Nums n.lines.length (S ++ B)
  nd : (S ++ B).Nodup
/-- numbers that can be shown -/
structure SmallN (S B : List Int) : Prop where
  s : S.length ≤ 100
  b : B.length ≤ 100
  n : ∀ x ∈ S ++ B, x.natAbs < 10 ^ 9
structure NetG' (n : NetD) : Prop where
  l : LinesOk n.needs.length n.lines
  s1 : n.sources.Nodup
  s2 : ∀ x ∈ n.sources, Pl n.needs.length x
def SpNumsR (C D : Addr) : Sp := fun vs H Q E => ∃ (G : Hp) (v u w : V) (n : NetD) (S B : List Int), vs = [v, u, w] ∧ Ex G H ∧ (rNet C).rel G v n ∧ (rList rInt).rel G u S ∧ (rList rInt).rel G w B ∧ SmallN S B ∧
  (¬ NumOk n S B → ∀ W : Wd (pF G H), E (.ref D) none W.H) ∧ (NumOk n S B → ∀ W : Wd (pF G H), Q .non W.H)
/-- check_state: D the one for numbers, D2 the one for states -/
def SpCheckR (C D D2 : Addr) : Sp := fun vs H Q E => ∃ (G : Hp) (v u w : V) (n : NetD) (S B : List Int), vs = [v, u, w] ∧ Ex G H ∧ (rNet C).rel G v n ∧ (rList rInt).rel G u S ∧ (rList rInt).rel G w B ∧ NetG' n ∧ SmallN S B ∧
  (¬ NumOk n S B → ∀ W : Wd (pF G H), E (.ref D) none W.H) ∧ (StOk n S B → ∀ (W : Wd (pF G H)) d x, FaultR n (srt S) (some x) → BadSt W.G d x → E (.ref D2) (some d) W.H) ∧ (StOk n S B → FaultR n (srt S) none → ∀ W : Wd (pF G H), Q .non W.H)
section
variable {F : Fr} {K : PySem.W.Frag} {σ : L2.St} {W W1 : Wd F} {ta tb te tc tl ti tk tv : TE} {Dn : Ends} {tz : TS}
theorem q_numsR {C D : Addr} {E : XK} {n : NetD} {S B : List Int} (ha : EvR ta σ W (rNet C) n) (hb : EvR tb σ W (rList rInt) S) (hc : EvR tc σ W (rList rInt) B) (ok : SmallN S B)
    (kE : ¬ NumOk n S B → ∀ W1 : Wd F, Le W W1 → E (.ref D) none W1.H) (k : NumOk n S B → ∀ W1 : Wd F, Le W W1 → tz Dn σ W1.H) : tSeq (tDrop (tCall (SpNumsR C D) [] E (tCons ta (tCons tb (tCons tc tNil))))) tz Dn σ W.H :=
  ha W (Le.refl _) _ fun v W2 l2 h1 => hb W2 l2 _ fun u W3 l3 h2 => hc W3 (l2.trans l3) _ fun w W4 l4 h3 => ⟨W4.G, v, u, w, n, S, B, rfl, W4.gh, Rp.up (l3.ex.trans l4.ex) h1, Rp.up l4.ex h2, h3, ok,
    fun z W5 => kE z (W4.back W5) (((l2.trans l3).trans l4).trans (W4.back_le W5)), fun z W5 => k z (W4.back W5) (((l2.trans l3).trans l4).trans (W4.back_le W5))⟩
theorem q_checkR {C D D2 : Addr} {E : XK} {n : NetD} {S B : List Int} (ha : EvR ta σ W (rNet C) n) (hb : EvR tb σ W (rList rInt) S) (hc : EvR tc σ W (rList rInt) B) (ng : NetG' n) (ok : SmallN S B)
    (kD : ¬ NumOk n S B → ∀ W1 : Wd F, Le W W1 → E (.ref D) none W1.H) (kE : StOk n S B → ∀ (W1 : Wd F) d x, Le W W1 → FaultR n (srt S) (some x) → BadSt W1.G d x → E (.ref D2) (some d) W1.H)
    (k : StOk n S B → FaultR n (srt S) none → ∀ W1 : Wd F, Le W W1 → tz Dn σ W1.H) : tSeq (tDrop (tCall (SpCheckR C D D2) [] E (tCons ta (tCons tb (tCons tc tNil))))) tz Dn σ W.H :=
  ha W (Le.refl _) _ fun v W2 l2 h1 => hb W2 l2 _ fun u W3 l3 h2 => hc W3 (l2.trans l3) _ fun w W4 l4 h3 => ⟨W4.G, v, u, w, n, S, B, rfl, W4.gh, Rp.up (l3.ex.trans l4.ex) h1, Rp.up l4.ex h2, h3, ng, ok,
    fun z W5 => kD z (W4.back W5) (((l2.trans l3).trans l4).trans (W4.back_le W5)), fun z W5 d x hx hd => kE z (W4.back W5) d x (((l2.trans l3).trans l4).trans (W4.back_le W5)) hx hd, fun z y W5 => k z y (W4.back W5) (((l2.trans l3).trans l4).trans (W4.back_le W5))⟩
end
theorem pss_absurd {X : Cx} {ss : List Stmt} : PSs X ss (fun _ _ _ => False) := ⟨fun _ _ _ _ _ _ h => h.elim⟩
end Q

/-! what refuses a state, made or called; told of by a def that got a lambda -/
namespace Q
open PySem L2 LamX
/-- the state is refused: its numbers, or what they would be -/
structure Refused (n : NetD) (S B : List Int) : Prop where
  ng : NetG' n
  sm : SmallN S B
  no : StOk n S B → ¬ FaultR n (srt S) none
section
variable {F : Fr} {K : PySem.W.Frag} {σ : L2.St} {W W1 : Wd F} {ta tb te tc tl ti tk tv : TE} {tr : TA} {tx ty tz : TS} {D : Ends} {α β : Type} {r : Rp α} {s : Rp β}
/-- what is asked of the two refusals, behind W -/
structure Refs (n : NetD) (S B : List Int) (C1 C2 : Addr) (E : XK) (W : Wd F) : Prop where
  deed : ¬ NumOk n S B → ∀ W1 : Wd F, Le W W1 → E (.ref C1) none W1.H
  state : StOk n S B → ∀ (W1 : Wd F) d x, Le W W1 → FaultR n (srt S) (some x) → BadSt W1.G d x → E (.ref C2) (some d) W1.H
def SpRefF (C C1 C2 : Addr) (k : Nat) : Sp := fun vs H Q E => ∃ (G : Hp) (gh : Ex G H) (v u w : V) (rest : List V) (n : NetD) (S B : List Int), vs = v :: u :: w :: rest ∧ rest.length = k ∧ (rNet C).rel G v n ∧ (rList rInt).rel G u S ∧ (rList rInt).rel G w B ∧ Refused n S B ∧ Refs n S B C1 C2 E (Wd.in G H gh)
def SpRefM (C C1 C2 : Addr) (k : Nat) : Sp := fun vs H Q E => ∃ (G : Hp) (gh : Ex G H) (x : Addr) (v u w : V) (rest : List V) (n : NetD) (S B : List Int), vs = .ref x :: v :: u :: w :: rest ∧ rest.length = k ∧ (rNet C).rel G v n ∧ (rList rInt).rel G u S ∧ (rList rInt).rel G w B ∧ Refused n S B ∧ Refs n S B C1 C2 E (Wd.in G H gh)
/-- so many values -/
def EvA (t : TA) (σ : L2.St) (W : Wd F) (k : Nat) : Prop := ∀ W1 : Wd F, Le W W1 → ∀ Q : List V → Hp → Prop, (∀ vs (W2 : Wd F), Le W1 W2 → vs.length = k → Q vs W2.H) → t σ W1.H Q
theorem ea_nil : EvA tNil σ W 0 := fun W1 l Q q => q [] W1 (Le.refl _) rfl
theorem ea_cons {ts : TA} {k : Nat} {x : α} (h : EvR te σ W r x) (hs : EvA ts σ W k) : EvA (tCons te ts) σ W (k + 1) := fun W1 l Q q => h W1 l _ fun v W2 l2 _ => hs W2 (l.trans l2) _ fun vs W3 l3 e => q (v :: vs) W3 (l2.trans l3) (congrArg (· + 1) e)
theorem call_ref {C C1 C2 : Addr} {E : XK} {k : Nat} {n : NetD} {S B : List Int} {Q : VK} (ha : EvR ta σ W (rNet C) n) (hb : EvR tb σ W (rList rInt) S) (hc : EvR tc σ W (rList rInt) B) (hr : EvA tr σ W k) (rf : Refused n S B) (kE : Refs n S B C1 C2 E W) :
    tCall (SpRefF C C1 C2 k) [] E (tCons ta (tCons tb (tCons tc tr))) σ W.H Q :=
  ha W (Le.refl _) _ fun v W2 l2 h1 => hb W2 l2 _ fun u W3 l3 h2 => hc W3 (l2.trans l3) _ fun w W4 l4 h3 => hr W4 ((l2.trans l3).trans l4) _ fun rest W5 l5 e => ⟨W5.G, W5.gh, v, u, w, rest, n, S, B, List.append_nil _, e, Rp.up ((l3.trans l4).trans l5).ex h1, Rp.up (l4.trans l5).ex h2, Rp.up l5.ex h3, rf,
    ⟨fun z W6 _ => kE.deed z (W5.back W6) ((((l2.trans l3).trans l4).trans l5).trans (W5.back_le W6)), fun z W6 d x _ hx hd => kE.state z (W5.back W6) d x ((((l2.trans l3).trans l4).trans l5).trans (W5.back_le W6)) hx hd⟩⟩
theorem make_ref {C CC C1 C2 : Addr} {E : XK} {k : Nat} {n : NetD} {S B : List Int} {Q : VK} (ha : EvR ta σ W (rNet C) n) (hb : EvR tb σ W (rList rInt) S) (hc : EvR tc σ W (rList rInt) B) (hr : EvA tr σ W k) (rf : Refused n S B) (kE : Refs n S B C1 C2 E W) :
    tMake CC (SpRefM C C1 C2 k) [] E (tCons ta (tCons tb (tCons tc tr))) σ W.H Q :=
  ha W (Le.refl _) _ fun v W2 l2 h1 => hb W2 l2 _ fun u W3 l3 h2 => hc W3 (l2.trans l3) _ fun w W4 l4 h3 => hr W4 ((l2.trans l3).trans l4) _ fun rest W5 l5 e => fun x dx hx hd ne => by
    have up : Ex W5.H (upd (upd W5.H dx (.own x)) x (.ins CC dx [])) := fun a o z => by rw [upd_ne (ne_of_none z hx), upd_ne (ne_of_none z hd)]; exact z
    have l6 := (((l2.trans l3).trans l4).trans l5).trans (W5.more_le up)
    exact ⟨W5.G, W5.gh.trans up, x, v, u, w, rest, n, S, B, congrArg _ (List.append_nil _), e, Rp.up ((l3.trans l4).trans l5).ex h1, Rp.up (l4.trans l5).ex h2, Rp.up l5.ex h3, rf,
      ⟨fun z W6 _ => kE.deed z ((W5.more _ up).back W6) (l6.trans ((W5.more _ up).back_le W6)), fun z W6 d y _ hx hd => kE.state z ((W5.more _ up).back W6) d y (l6.trans ((W5.more _ up).back_le W6)) hx hd⟩⟩
theorem q_asg2N {i j : Nat} {P : α × β → Prop} (h : EvN te σ W (rT2 r s) P) (k : ∀ u w (W1 : Wd F) x, Le W W1 → r.rel W1.G u x.1 → s.rel W1.G w x.2 → P x → tz D ((σ.set i (some u)).set j (some w)) W1.H) : tSeq (tAsg te (gT2 K i j)) tz D σ W.H :=
  h W (Le.refl _) _ fun v W1 x l hv hP => g_t2 (W := W1) hv fun u w hu hw => k u w W1 x l hu hw hP
theorem q_ifCut {b : Bool} {tt : TT} (Mid : L2.St → Wd F → Prop) (h : EvB tt σ W b) (h1 : b = true → ∀ W1 : Wd F, Le W W1 → (∀ σ' (W' : Wd F), Mid σ' W' → tz D σ' W'.H) → tx { D with nx := tz D } σ W1.H) (h2 : b = false → ∀ W1 : Wd F, Le W W1 → (∀ σ' (W' : Wd F), Mid σ' W' → tz D σ' W'.H) → ty { D with nx := tz D } σ W1.H)
    (k : ∀ σ' (W' : Wd F), Mid σ' W' → tz D σ' W'.H) : tSeq (tIfS tt tx ty) tz D σ W.H := q_if h (fun e W1 l => h1 e W1 l k) fun e W1 l => h2 e W1 l k
end
section
variable {F : Fr} {K : PySem.W.Frag} {σ : L2.St} {W : Wd F} {ta tb : TE}
theorem ev_gtN {P P' : Int → Prop} {R : Bool → Prop} (ha : EvN ta σ W rInt P) (hb : EvN tb σ W rInt P') (hR : ∀ x y, P x → P' y → R (decide (y < x))) : EvN (tOp oGt ta tb) σ W rBool R :=
  ev_opN ha hb fun W1 v w x y Q l hv hw hx hy q => ⟨x, y, hv, hw, q _ W1 _ (Le.refl _) rfl (hR x y hx hy)⟩
end
section
theorem et_draw_gt {G0 H0 : Hp} {d sc : Addr} {h0 : DiceAt d sc H0} {K : PySem.W.Frag} {σ : L2.St} {W : Wd (dF G0 H0 d sc h0)} {tb : TE} {ns : List Int} {E : XK} {i : Nat} {m c : Int} (hi : σ[i]? = some (some (.ref d))) (hs : SqL K G0 sc (ns.map V.int)) (hb : EvR tb σ W rInt m) (h1 : 0 < m) (h2 : m < 1073741824) :
    EvBN (tTest (tOp oGt (tCall (SpNext K) [] E (tCons (tVar i) (tCons tb tNil))) (tC (.int c)))) σ W (fun _ => True) := et_rN (ev_gtN (ev_next hi hs hb h1 h2) ev_int.n fun _ _ _ _ => trivial)
end
/-- told of a lambda that is refused: the word -/
def TTd (C1 C2 : Addr) : (XK → Hp → VK → Prop) → List V → Hp → VK → Prop := fun tl vs H Q => vs = [] ∧ ∀ (E : XK) (Q' : VK), (∀ H', (∀ H'', Ex H' H'' → Q (.str "deed") H'') → E (.ref C1) none H') →
  (∀ (H' : Hp) (dd : Addr) (fs : List (Str × V)) (wd : Str), H' dd = some (.xd fs) → fs.lookup ("why" : Str) = some (.str wd) → (∀ H'', Ex H' H'' → Q (.str wd) H'') → E (.ref C2) (some dd) H') → tl E H Q'
section
variable {F : Fr} {W : Wd F} {p : Addr} {q : Str} {σ : L2.St}
theorem lam_deed {C1 C2 : Addr} {n : NetD} {S B : List Int} {t : XK → TE} {due : Str} {Q : VK} (ot : OwnT W p q) (d1 : ¬ NumOk n S B → due = "deed") (d2 : StOk n S B → whyN n (srt S) = due)
    (h : ∀ (W1 : Wd F), Kp p W W1 → ∀ (E : XK) (Q' : VK), Refs n S B C1 C2 E W1 → t E σ W1.H Q') (k : ∀ W1 : Wd F, Kp p W W1 → OwnT W1 p q → Q (.str due) W1.H) : tLamN p [(p, q)] q (TTd C1 C2) t tNil σ W.H Q :=
  lam_any ot fun W1 k1 o1 => ⟨rfl, fun E Q' kD kE => h W1 k1 E Q' ⟨fun z W2 l => kD W2.H fun H'' ex => by
    have l2 := l.trans (W2.more_le ex)
    have := k (W2.more H'' ex) (k1.trans (.of_le l2)) (o1.up l2)
    rw [d1 z] at this
    exact this, fun z W2 d x l hx bad => by
    obtain ⟨wd, sh⟩ := x
    obtain ⟨fs, a1, a2, _⟩ := bad
    obtain ⟨e, _⟩ := hx
    have e : whyN n (srt S) = wd := e
    refine kE W2.H d fs wd (W2.gh _ _ a1) a2 fun H'' ex => ?_
    have l2 := l.trans (W2.more_le ex)
    have := k (W2.more H'' ex) (k1.trans (.of_le l2)) (o1.up l2)
    rw [← d2 z, e] at this
    exact this⟩⟩
end
end Q

/-! sorted(t), t a tuple of whole numbers; `in` of nested data; tuples added, made of lists, gone over -/
namespace SoT
open PySem PySem.Spec PyProof.Rows SrtO
variable {prog : Program} {w : World} {A : Around} {E : Value → Shared → Prop} {s : Shared}
/-- the heap when a tuple's items have been gathered -/
abbrev gath (h : Heap) (vs : List Value) : Heap := (h.push (seqObj "list" #[] 0)).update h.objs.size (Obj.mapSeq (· ++ vs.toArray))
theorem gather {t : Addr} {vs : List Value} {Q : List Value → Shared → Prop} (ht : IsTup s.heap t vs.toArray) (few : vs.length ≤ sizeLine) (done : Q vs { s with heap := gath s.heap vs }) : wpAny (model prog w) A (collect (.ref t)) Q E s := by
  obtain ⟨o, e1, e2, n, e3⟩ := id ht
  have new : (s.heap.push (seqObj "list" #[] 0)).get? s.heap.objs.size = some (seqObj "list" #[] 0) := Heap.get?_push_size _ rfl
  have old : (s.heap.push (seqObj "list" #[] 0)).get? t = some o := Heap.get?_push_of_some _ e1
  unfold collect
  apply wpAny_bind; apply wpAny_runValue; apply codeAny_builtin entry_proto_collect'
  show wpAny _ _ (do again (.builtin "list.__iadd__" ⟨[← newList [], .ref t], []⟩)) _ _ s
  apply wpAny_bind; refine wpAny_newList ?_ (by simp); refine wpAny_pure (And.intro (Code.quiet_builtin _ (by decide +kernel)) (codeAny_builtin entry_list_iadd' ?_))
  show wpAny _ _ (Builtin.List.listExtendWith (.ref s.heap.objs.size) (.ref t) (.ref s.heap.objs.size)) _ _ _
  unfold Builtin.List.listExtendWith
  have tt : (Value.type "tuple" == Value.type "tuple") = true := by decide
  apply wpAny_bind; refine wpAny_typeOf (T := "tuple") (by exact ⟨o, old, e2⟩) ?_
  rw [if_pos (by simp [tt])]
  apply wpAny_bind; apply listItems_at old e3
  apply wpAny_bind; apply listItems_at (xs := #[]) (n := 0) new rfl
  rw [if_neg (by simp)]
  apply wpAny_bind; refine listUpdate_at (xs := #[]) (n := 0) new rfl (wpAny_pure ?_) (Nat.zero_le _) (by simp; omega)
  show wpAny (model prog w) A (load s.heap.objs.size >>= fun o => match o.data with | .seq xs _ => pure xs.toList | _ => unsupported "internal:collect") Q E { s with heap := gath s.heap vs }
  apply wpAny_bind; refine wpAny_load (get?_update_seq new _) (wpAny_pure ?_)
  simpa using done
theorem tt_size {h : Heap} {vs : List Value} : (gath h vs).objs.size = h.objs.size + 1 := by
  rw [Heap.size_update, size_push']
/-- sorted(t) -/
theorem sorted_tup {t : Addr} {vs : List Value} {ltv : Value → Value → Bool} {Q : Value → Shared → Prop} (O : Swo ltv) (ht : IsTup s.heap t vs.toArray) (few : vs.length ≤ sizeLine)
    (hS : 2 ≤ vs.length → ∀ (h₁ : Heap) (a : Addr), h₁.get? a = some (seqObj "list" vs.toArray 0) → (∀ b o, s.heap.get? b = some o → b ≠ a ∧ h₁.get? b = some o) → SortableO prog w A.in1.in1 { s with heap := h₁ } a vs ltv)
    (done : ∀ out : List Value, Srtd ltv out → Stb ltv out vs → Q (.ref (s.heap.objs.size + 1)) { s with heap := sortedAll s.heap vs out.toArray }) : wpAny (model prog w) A (call (.builtin "sorted") [.ref t]) Q E s := by
  apply Calls.call_function_entry kind_sorted plain_sorted entry_sorted (args_sorted1 _)
  unfold Builtin.«sorted»
  apply wpAny_bind (m := checkCount "sorted" 1 1 _); apply wpAny_pure
  apply wpAny_bind; apply gather ht few
  apply wpAny_bind; refine wpAny_newList ?_ few
  have at_ : ((gath s.heap vs).push (seqObj "list" vs.toArray 0)).get? (s.heap.objs.size + 1) = some (seqObj "list" vs.toArray 0) := tt_size (h := s.heap) (vs := vs) ▸ Heap.get?_push_size _ rfl
  have still : ∀ b o, s.heap.get? b = some o → b ≠ s.heap.objs.size + 1 ∧ ((gath s.heap vs).push (seqObj "list" vs.toArray 0)).get? b = some o := fun b o q => by
    have lt := Heap.lt_size q
    exact ⟨Nat.ne_of_lt (Nat.lt_succ_of_lt lt), Heap.get?_push_of_some _ ((Heap.get?_update_ne _ _ _ _ (Nat.ne_of_lt lt)).trans (Heap.get?_push_of_some _ q))⟩
  show wpAny _ _ _ _ _ { s with heap := (gath s.heap vs).push (seqObj "list" vs.toArray 0) }
  rw [tt_size]
  apply wpAny_bind; apply wpAny_holding
  refine wpAny_call_entry slot_list_sort (by exact ⟨_, at_, rfl⟩) entry_list_sort (list_sort_ord O at_ few (fun h2 => hS h2 _ _ at_ still) fun out z1 z2 => ?_) (args_list_sort _)
  exact ⟨_, rfl, wpAny_pure ⟨_, rfl, done out z1 z2⟩⟩
end SoT
namespace Q
open PySem PySem.Spec PyProof.Rows L2
/-- sorted(xs), a list or a tuple of whole numbers -/
def rSortedA (K : PySem.W.Frag) : List V → Hp → VK → Prop := fun vs H Q => ∃ (a : Addr) (ns : List Int), vs = [V.ref a] ∧ (SqL K H a (ns.map V.int) ∨ SqT K H a (ns.map V.int)) ∧
  ∀ (ns' : List Int) (p : Addr), ns'.Perm ns → ns'.Pairwise (· ≤ ·) → H p = none → Q (.ref p) (upd H p (.lst (ns'.map V.int)))
theorem cr_sortedA {X : Cx} : CallR X (.builtin "sorted") (rSortedA X.K) := by
  intro pins s σ H vs us Q I r h
  obtain ⟨a, ns, rfl, hs, q⟩ := h
  rcases hs with hs | hs
  · exact cr_sortedI pins s σ H _ us Q I r ⟨a, ns, rfl, hs, q⟩
  · obtain ⟨its, rv, hl, hz⟩ := I.tuple hs
    rw [Vals.ref1 r]
    have hi := rv.ints
    refine SoT.sorted_tup SrtO.swo_int hl (by rw [← rv.length]; exact hz) (fun h2 h₁ a' _ _ => SrtO.ints_sortable hi h2) fun out z1 z2 => ?_
    obtain ⟨k1, k2, k3⟩ := SrtO.ints_out hi z1 z2
    obtain ⟨ep, at_⟩ := PyProof.Rows.sortedAll_at s.heap its out.toArray
    have few : ((out.map SrtO.iv).map V.int).length ≤ sizeLine := by
      rw [List.length_map] at hz ⊢
      rw [k2.length_eq]; exact hz
    exact ⟨.ref _, upd H (s.heap.objs.size + 1) (.lst ((out.map SrtO.iv).map V.int)), I.laid (t' := s.toks) (fun _ _ => PyProof.Rows.sortedAll_old) (Nat.le_succ _) ⟨few, out, ep, vals_of_ints k1, at_⟩, rfl, q _ _ k2 k3 (I.hok.fresh (Nat.le_succ _))⟩
section
variable {F : Fr} {K : PySem.W.Frag} {σ : L2.St} {W W1 : Wd F} {ta tb te tc tl ti tk tv : TE} {tt : TT} {α β γ δ : Type} {r : Rp α} {s : Rp β} {t : Rp γ}
theorem eo_srtA {xs : List Int} (ha : EvR ta σ W (rList rInt) xs) : EvO (tCB (rSortedA K) (tCons ta tNil)) σ W rInt (srt xs) := fun W1 l Q q => ha W1 l _ fun v W2 l2 hv => by
  obtain ⟨a, vs, rfl, h1, h2⟩ := hv
  have h2 := h2.ints
  subst h2
  refine ⟨a, xs, rfl, .inl (sqL_of W2.gh h1), fun ns p z1 z2 hp => ?_⟩
  rw [le_eq (z1.trans srt_perm.symm) z2 srt_le]
  exact q p _ (W2.own p _ hp) (l2.trans (W2.own_le hp)) (le_fresh l2 hp) (W2.own_at hp) (All2.ofInts _)
theorem eo_srtT {xs : List Int} (ha : EvR ta σ W (rTup rInt) xs) : EvO (tCB (rSortedA K) (tCons ta tNil)) σ W rInt (srt xs) := fun W1 l Q q => ha W1 l _ fun v W2 l2 hv => by
  obtain ⟨a, vs, rfl, h1, h2⟩ := hv
  have h2 := h2.ints
  subst h2
  refine ⟨a, xs, rfl, .inr (sqT_of W2.gh h1), fun ns p z1 z2 hp => ?_⟩
  rw [le_eq (z1.trans srt_perm.symm) z2 srt_le]
  exact q p _ (W2.own p _ hp) (l2.trans (W2.own_le hp)) (le_fresh l2 hp) (W2.own_at hp) (All2.ofInts _)
/-- in a tuple of whole numbers -/
theorem ev_inT {x : Int} {ns : List Int} (ha : EvR ta σ W rInt x) (hb : EvR tb σ W (rTup rInt) ns) : EvR (tOp (rIn K false) ta tb) σ W rBool (decide (x ∈ ns)) :=
  ev_op ha hb fun W1 v w Q l hv hw q => by
    obtain ⟨a, vs, rfl, h1, h2⟩ := hw
    have hv : v = .int x := hv
    have h2 := h2.ints
    subst hv h2
    exact ⟨a, _, rfl, .inr (sqT_of W1.gh h1), rfl, flat_ints ns, by rw [if_neg (by decide), inV_ints]; exact q _ W1 (Le.refl _) rfl⟩
theorem ev_ninT {x : Int} {ns : List Int} (ha : EvR ta σ W rInt x) (hb : EvR tb σ W (rTup rInt) ns) : EvR (tOp (rIn K true) ta tb) σ W rBool (!decide (x ∈ ns)) :=
  ev_op ha hb fun W1 v w Q l hv hw q => by
    obtain ⟨a, vs, rfl, h1, h2⟩ := hw
    have hv : v = .int x := hv
    have h2 := h2.ints
    subst hv h2
    exact ⟨a, _, rfl, .inr (sqT_of W1.gh h1), rfl, flat_ints ns, by rw [if_pos rfl, inV_ints]; exact q _ W1 (Le.refl _) rfl⟩
/-- x in xs, xs a list of data -/
theorem ev_inD [DecidableEq α] {x : α} {xs : List α} {dm : Decidable (x ∈ xs)} (f : Dz r) (hn : f.n ≤ 60) (hx : f.ok x) (hxs : ∀ y ∈ xs, f.ok y) (ha : EvR ta σ W r x) (hb : EvR tb σ W (rList r) xs) : EvR (tOp (rInD K) ta tb) σ W rBool (@decide (x ∈ xs) dm) :=
  ev_op ha hb fun W1 v w Q l hv hw q => ⟨f.d x, xs.map f.d, f.dp K _ _ _ _ W1.gh hv, (dzList f).dp K _ _ _ _ W1.gh hw, f.sh (by omega) hx, (dzList f).sh (by show f.n + 1 ≤ 64; omega) hxs, by
    have e : ((xs.map f.d).any fun z => PyData.eqv z (f.d x)) = @decide (x ∈ xs) dm := by
      rw [List.any_map]
      by_cases h : x ∈ xs
      · rw [decide_eq_true h]
        exact List.any_eq_true.mpr ⟨x, h, by simp [f.dec]⟩
      · rw [decide_eq_false h]
        exact List.any_eq_false.mpr fun y hy => by simp [f.dec]; exact fun z => h (z ▸ hy)
    rw [e]; exact q _ W1 (Le.refl _) rfl⟩
theorem ev_ninD [DecidableEq α] {x : α} {xs : List α} {dm : Decidable (x ∈ xs)} (f : Dz r) (hn : f.n ≤ 60) (hx : f.ok x) (hxs : ∀ y ∈ xs, f.ok y) (ha : EvR ta σ W r x) (hb : EvR tb σ W (rList r) xs) : EvR (tOp (rNotInD K) ta tb) σ W rBool (!@decide (x ∈ xs) dm) :=
  ev_op ha hb fun W1 v w Q l hv hw q => ⟨f.d x, xs.map f.d, f.dp K _ _ _ _ W1.gh hv, (dzList f).dp K _ _ _ _ W1.gh hw, f.sh (by omega) hx, (dzList f).sh (by show f.n + 1 ≤ 64; omega) hxs, by
    have e : ((xs.map f.d).any fun z => PyData.eqv z (f.d x)) = @decide (x ∈ xs) dm := by
      rw [List.any_map]
      by_cases h : x ∈ xs
      · rw [decide_eq_true h]
        exact List.any_eq_true.mpr ⟨x, h, by simp [f.dec]⟩
      · rw [decide_eq_false h]
        exact List.any_eq_false.mpr fun y hy => by simp [f.dec]; exact fun z => h (z ▸ hy)
    rw [e]; exact q _ W1 (Le.refl _) rfl⟩
/-- tuple(xs), of a list or of a tuple -/
abbrev oTuple (K : PySem.W.Frag) : List V → Hp → VK → Prop := fun xs H Q => ∃ p ys, xs = [.ref p] ∧ ((SqL K H p ys ∧ ∀ l, H l = none → Q (.ref l) (upd H l (.tup ys))) ∨ (SqT K H p ys ∧ Q (.ref p) H))
theorem ev_tuple {xs : List α} (ha : EvR ta σ W (rList r) xs) : EvR (tCB (oTuple K) (tCons ta tNil)) σ W (rTup r) xs := fun W1 l Q q => ha W1 l _ fun v W2 l2 hv => by
  obtain ⟨a, vs, rfl, h1, h2⟩ := hv
  exact ⟨a, vs, rfl, .inl ⟨sqL_of W2.gh h1, fun p hp => q _ (W2.add p _ hp) (l2.trans (W2.add_le hp)) ⟨p, vs, rfl, W2.add_at hp, h2.imp fun _ _ => r.mono (W2.add_le hp).ex⟩⟩⟩
theorem ev_tupleT {xs : List α} (ha : EvR ta σ W (rTup r) xs) : EvR (tCB (oTuple K) (tCons ta tNil)) σ W (rTup r) xs := fun W1 l Q q => ha W1 l _ fun v W2 l2 hv => by
  obtain ⟨a, vs, rfl, h1, h2⟩ := hv
  exact ⟨a, vs, rfl, .inr ⟨sqT_of W2.gh h1, q _ W2 l2 ⟨a, vs, rfl, h1, h2⟩⟩⟩
theorem ev_t1 {x : α} (ha : EvR ta σ W r x) : EvR (tTup (tCons ta tNil)) σ W (rTup r) [x] := fun W1 l Q q => ha W1 l _ fun v W2 l2 hv => ⟨by show 1 ≤ _; decide, fun p hp => q _ (W2.add p _ hp) (l2.trans (W2.add_le hp)) ⟨p, [v], rfl, W2.add_at hp, All2.one (r.mono (W2.add_le hp).ex hv)⟩⟩
/-- t + u -/
theorem ev_catT {xs ys : List α} (ha : EvR ta σ W (rTup r) xs) (hb : EvR tb σ W (rTup r) ys) (hz : xs.length + ys.length ≤ 100000) : EvR (tOp (rCatA K) ta tb) σ W (rTup r) (xs ++ ys) :=
  ev_op ha hb fun W1 v w Q l hv hw q => by
    obtain ⟨a, vs, rfl, h1, h2⟩ := hv
    obtain ⟨b, ws, rfl, h3, h4⟩ := hw
    refine ⟨a, b, vs, ws, rfl, rfl, sqT_of W1.gh h1, sqT_of W1.gh h3, by rw [h2.1, h4.1]; exact Nat.le_trans hz (by decide), fun e => ?_, fun _ e => ?_, fun _ _ p hp => ?_⟩
    · subst e
      have z := h2.nil_of
      subst z
      exact q _ W1 (Le.refl _) ⟨b, ws, rfl, h3, h4⟩
    · subst e
      have z := h4.nil_of
      subst z
      exact q _ W1 (Le.refl _) ⟨a, vs, rfl, h1, by rw [List.append_nil]; exact h2⟩
    · exact q _ (W1.add p _ hp) (W1.add_le hp) ⟨p, _, rfl, W1.add_at hp, (h2.append h4).imp fun _ _ => r.mono (W1.add_le hp).ex⟩
theorem q_forT {D : Ends} {tz tx : TS} {xs : List α} {g : TG} (h : EvR tl σ W (rTup r) xs) (k : ∀ W1 : Wd F, Le W W1 → LoopL W1 r xs g tx D (tz D) σ) : tSeq (tFor (iTup K tl) g tx) tz D σ W.H := s_forT (D := { D with nx := tz D }) h k
theorem eon_lcT {xs : List α} {j : Nat} {ws : List Nat} {R : α → Option β → Prop} (h : EvR tl σ W (rTup r) xs) (hz : xs.length ≤ 40000) (hw : ∀ x, wipe ((wipe σ ws).set j (some x)) ws = wipe σ ws)
    (c : ∀ (i : Nat) x v (W1 : Wd F), Le W W1 → xs[i]? = some x → r.rel W1.G v x → EvC tt te ((wipe σ ws).set j (some v)) W1 s (R x)) : EvON (tLc (iTup K tl) (gName j) tt te ws) σ W s (LcR R xs) := fun W1 l Q q => by
  refine h W1 l _ fun v W2 l2 hv => ?_
  obtain ⟨a, vs, rfl, h1, h2⟩ := hv
  refine ⟨a, rfl, ⟨vs, sqT_of W2.gh h1⟩, fun p hp => lc_tup (K := K) (a := a) (xs := vs) (Acc W2 p s R xs) ⟨W2.own p _ hp, [], rfl, W2.own_le hp, ⟨[], W2.own_at hp, All2.nil⟩, Nat.le_refl _, [], by simp, fun i x o hx => by simp at hx, rfl⟩ ?_ ?_ ?_⟩
  · rintro i _ _ ⟨W3, zs, rfl, l3, _⟩
    exact sqT_of W3.gh (l3.ex _ _ h1)
  · rintro i y _ hi ⟨W3, zs, rfl, l3, o, hzs, hl⟩
    obtain ⟨x, hx, hr⟩ := h2.getv hi
    have hi' := (List.getElem?_eq_some_iff.mp hx).1
    exact ⟨hw y, acc_turn hp l3 o hzs (by omega) hl hx (c i x y W2 (l.trans l2) hx hr)⟩
  · rintro _ ⟨W3, zs, rfl, l3, o, hzs, hl⟩
    rw [h2.1, List.take_length] at hl
    obtain ⟨ys, o1, o2⟩ := o.ex
    exact q p ys W3 zs (l2.trans l3) (le_fresh l2 hp) o1 o2 hl
theorem eo_lcT {xs : List α} {j : Nat} {ws : List Nat} (f : α → Bool) (g : α → β) (h : EvR tl σ W (rTup r) xs) (hz : xs.length ≤ 40000) (hw : ∀ x, wipe ((wipe σ ws).set j (some x)) ws = wipe σ ws)
    (c1 : ∀ (i : Nat) x v (W1 : Wd F), Le W W1 → xs[i]? = some x → r.rel W1.G v x → EvB tt ((wipe σ ws).set j (some v)) W1 (f x))
    (c2 : ∀ (i : Nat) x v (W1 : Wd F), Le W W1 → xs[i]? = some x → r.rel W1.G v x → f x = true → EvR te ((wipe σ ws).set j (some v)) W1 s (g x)) : EvO (tLc (iTup K tl) (gName j) tt te ws) σ W s ((xs.filter f).map g) := fun W1 l Q q =>
  eon_lcT (R := fun x o => o = if f x then some (g x) else none) h hz hw (fun i x v W1 l hx hr => EvC.mk (c1 i x v W1 l hx hr) (c2 i x v W1 l hx hr)) W1 l Q fun p vs W2 zs l2 hp o a hl => q p vs W2 l2 hp o (lcr_fm hl ▸ a)
/-- list(t) and sorted(t) as lists; len of a tuple -/
theorem ev_lenT {xs : List α} (ha : EvR ta σ W (rTup r) xs) : EvR (tCB (oLenA K) (tCons ta tNil)) σ W rInt (xs.length : Nat) := fun W1 l Q q => ha W1 l _ fun v W2 l2 hv => by
  obtain ⟨a, vs, rfl, h1, h2⟩ := hv
  exact .inl ⟨a, vs, rfl, .inr (sqT_of W2.gh h1), by rw [h2.1]; exact q _ W2 l2 rfl⟩
end
theorem hu1_of {k : Nat} {A : Around} (r : Room k A) : A.units + 200 < cLine := by have := r.un; omega
section
variable {X : Cx} (K : PySem.W.Frag)
theorem kSortedA (hK : X.K = K := by rfl) : CallR X (.builtin "sorted") (rSortedA K) := hK ▸ cr_sortedA
theorem kTupleC (hK : X.K = K := by rfl) : CallR X (.type "tuple") (oTuple K) := hK ▸ call_tuple_of
theorem kCatA (hK : X.K = K := by rfl) : OpR X (binaryOp .Add) (rCatA K) := hK ▸ op_catA
theorem kInD (hu : X.A.units + 200 < cLine) (hK : X.K = K := by rfl) : OpR X (compareOp .In) (rInD K) := hK ▸ op_inD (by omega)
theorem kNotInD (hu : X.A.units + 200 < cLine) (hK : X.K = K := by rfl) : OpR X (compareOp .NotIn) (rNotInD K) := hK ▸ op_notInD (by omega)
end
end Q

/-! the sublists of r items, in the order in which combinations come; which one comes behind which -/
namespace Q
def nextC (n : Nat) : List Nat → Option (List Nat)
  | [] => none
  | a :: t => match nextC n t with
    | some t' => some (a :: t')
    | none => if a + t.length + 1 < n then some (List.range' (a + 1) (t.length + 1)) else none
/-- r numbers below n, with room behind each for those that come -/
def WfC (n : Nat) (ix : List Nat) : Prop := ∀ j, j < ix.length → ix.getD j 0 + (ix.length - j) ≤ n
theorem WfC.tail {n a : Nat} {t : List Nat} (h : WfC n (a :: t)) : WfC n t := fun j hj => by
  have := h (j + 1) (by simpa using hj)
  simpa using this
theorem nextC_none {n : Nat} : ∀ {ix : List Nat}, WfC n ix → (∀ j, j < ix.length → ix.getD j 0 = j + n - ix.length) → nextC n ix = none
  | [], _, _ => rfl
  | a :: t, w, h => by
    have e := nextC_none (ix := t) w.tail fun j hj => by
      have := h (j + 1) (by simpa using hj)
      simp only [List.getD_cons_succ, List.length_cons] at this
      omega
    have a0 := h 0 (by simp)
    simp only [List.getD_cons_zero, List.length_cons] at a0
    unfold nextC
    rw [e]
    have w0 := w 0 (by simp)
    simp only [List.getD_cons_zero, List.length_cons] at w0
    show (if _ then _ else _) = _
    rw [if_neg (by omega)]
theorem nextC_some {n : Nat} : ∀ {ix : List Nat} {i : Nat}, WfC n ix → i < ix.length → ix.getD i 0 ≠ i + n - ix.length → (∀ j, i < j → j < ix.length → ix.getD j 0 = j + n - ix.length) →
    nextC n ix = some (ix.take i ++ (List.range (ix.length - i)).map fun k => ix.getD i 0 + 1 + k)
  | [], _, _, h, _, _ => by simp at h
  | a :: t, 0, w, _, h, hj => by
    have e := nextC_none (ix := t) w.tail fun j hj' => by
      have := hj (j + 1) (by omega) (by simpa using hj')
      simp only [List.getD_cons_succ, List.length_cons] at this
      omega
    simp only [List.getD_cons_zero, List.length_cons] at h
    have w0 := w 0 (by simp)
    simp only [List.getD_cons_zero, List.length_cons] at w0
    unfold nextC
    rw [e]
    show (if _ then _ else _) = _
    rw [if_pos (by omega)]
    simp only [List.take_zero, List.nil_append, List.length_cons, List.getD_cons_zero, Nat.sub_zero]
    rw [List.range'_eq_map_range]
  | a :: t, i + 1, w, hi, h, hj => by
    have hi' : i < t.length := by simpa using hi
    have e := nextC_some (ix := t) (i := i) w.tail hi' (by
      simp only [List.getD_cons_succ, List.length_cons] at h
      omega) fun j h1 h2 => by
        have := hj (j + 1) (by omega) (by simpa using h2)
        simp only [List.getD_cons_succ, List.length_cons] at this
        omega
    unfold nextC
    rw [e]
    simp
/-- where a search from behind stops -/
theorem find_rev {p : Nat → Bool} {r i : Nat} (h : (List.range r).reverse.find? p = some i) : i < r ∧ p i = true ∧ ∀ j, i < j → j < r → p j = false := by
  obtain ⟨h1, as, bs, e, h2⟩ := List.find?_eq_some_iff_append.mp h
  have hm : i ∈ (List.range r).reverse := List.mem_of_find?_eq_some h
  refine ⟨List.mem_range.mp (List.mem_reverse.mp hm), h1, fun j hj hr => ?_⟩
  have hjm : j ∈ (List.range r).reverse := List.mem_reverse.mpr (List.mem_range.mpr hr)
  have pw : (List.range r).reverse.Pairwise (fun a b => b < a) := List.pairwise_reverse.mpr List.pairwise_lt_range
  rw [e] at hjm pw
  rcases List.mem_append.mp hjm with z | z
  · simpa using h2 j z
  · rcases List.mem_cons.mp z with z | z
    · omega
    · have := (List.pairwise_append.mp pw).2.1
      have := (List.pairwise_cons.mp this).1 j z
      omega
theorem find_rev_none {p : Nat → Bool} {r : Nat} (h : (List.range r).reverse.find? p = none) : ∀ j, j < r → p j = false := fun j hj => by
  have := List.find?_eq_none.mp h j (List.mem_reverse.mpr (List.mem_range.mpr hj))
  simpa using this
/-- r of the k numbers from lo on -/
def cbs : Nat → Nat → Nat → List (List Nat)
  | _, _, 0 => [[]]
  | _, 0, _ + 1 => []
  | lo, k + 1, r + 1 => (cbs (lo + 1) k r).map (lo :: ·) ++ cbs (lo + 1) k (r + 1)
theorem cbs_nil : ∀ (k lo r : Nat), k < r → cbs lo k r = []
  | 0, _, _ + 1, _ => by unfold cbs; rfl
  | k + 1, lo, r + 1, h => by
    unfold cbs
    rw [cbs_nil k (lo + 1) r (by omega), cbs_nil k (lo + 1) (r + 1) (by omega)]
    rfl
theorem cbs_head : ∀ (k lo r : Nat), r ≤ k → (cbs lo k r)[0]? = some (List.range' lo r)
  | k, lo, 0, _ => by unfold cbs; rfl
  | k + 1, lo, r + 1, h => by
    unfold cbs
    have e := cbs_head k (lo + 1) r (by omega)
    have z : 0 < (cbs (lo + 1) k r).length := by
      obtain ⟨h1, _⟩ := List.getElem?_eq_some_iff.mp e
      exact h1
    rw [List.getElem?_append_left (by simpa using z), List.getElem?_map, e]
    rfl
theorem cbs_len : ∀ (k lo r : Nat) {ix : List Nat}, ix ∈ cbs lo k r → ix.length = r
  | k, lo, 0, ix, h => by unfold cbs at h; simp at h; simp [h]
  | 0, lo, r + 1, ix, h => by unfold cbs at h; simp at h
  | k + 1, lo, r + 1, ix, h => by
    unfold cbs at h
    rcases List.mem_append.mp h with h | h
    · obtain ⟨t, ht, rfl⟩ := List.mem_map.mp h
      simp [cbs_len k (lo + 1) r ht]
    · exact cbs_len k (lo + 1) (r + 1) h
theorem cbs_wf : ∀ (k lo r : Nat) {ix : List Nat}, ix ∈ cbs lo k r → WfC (lo + k) ix
  | k, lo, 0, ix, h => by unfold cbs at h; simp at h; subst h; intro j hj; simp at hj
  | 0, lo, r + 1, ix, h => by unfold cbs at h; simp at h
  | k + 1, lo, r + 1, ix, h => by
    by_cases hk : r ≤ k
    · unfold cbs at h
      rcases List.mem_append.mp h with h | h
      · obtain ⟨t, ht, rfl⟩ := List.mem_map.mp h
        have w := cbs_wf k (lo + 1) r ht
        have l := cbs_len k (lo + 1) r ht
        intro j hj
        match j, hj with
        | 0, _ => simp; omega
        | j + 1, hj =>
          have := w j (by simpa using hj)
          simp only [List.getD_cons_succ, List.length_cons]
          omega
      · have w := cbs_wf k (lo + 1) (r + 1) h
        intro j hj
        have := w j hj
        omega
    · rw [cbs_nil (k + 1) lo (r + 1) (by omega)] at h
      cases h
theorem cbs_next : ∀ (k lo r i : Nat) {ix : List Nat}, (cbs lo k r)[i]? = some ix → nextC (lo + k) ix = (cbs lo k r)[i + 1]?
  | k, lo, 0, i, ix, h => by
    unfold cbs at h ⊢
    match i, h with
    | 0, h => cases h; rfl
    | i + 1, h => simp at h
  | 0, lo, r + 1, i, ix, h => by unfold cbs at h; simp at h
  | k + 1, lo, r + 1, i, ix, h => by
    unfold cbs at h ⊢
    have e : lo + (k + 1) = lo + 1 + k := by omega
    by_cases hi : i < (cbs (lo + 1) k r).length
    · rw [List.getElem?_append_left (by simpa using hi), List.getElem?_map] at h
      cases hA : (cbs (lo + 1) k r)[i]? with
      | none => rw [hA] at h; cases h
      | some t =>
        rw [hA] at h
        cases h
        have l := cbs_len k (lo + 1) r (List.mem_of_getElem? hA)
        have nx := cbs_next k (lo + 1) r i hA
        unfold nextC
        rw [e, nx]
        by_cases hi2 : i + 1 < (cbs (lo + 1) k r).length
        · rw [List.getElem?_append_left (by simpa using hi2), List.getElem?_map, List.getElem?_eq_getElem hi2]
          rfl
        · have ei : i + 1 = (cbs (lo + 1) k r).length := by omega
          rw [List.getElem?_eq_none (by omega), List.getElem?_append_right (by simp; omega)]
          have e0 : i + 1 - ((cbs (lo + 1) k r).map (lo :: ·)).length = 0 := by simp; omega
          rw [e0, l]
          show (if _ then _ else _) = _
          by_cases hr : r + 1 ≤ k
          · rw [if_pos (by omega), cbs_head k (lo + 1) (r + 1) hr]
          · rw [if_neg (by omega), cbs_nil k (lo + 1) (r + 1) (by omega)]
            rfl
    · have el : ((cbs (lo + 1) k r).map (lo :: ·)).length = (cbs (lo + 1) k r).length := by simp
      rw [List.getElem?_append_right (by omega)] at h
      rw [List.getElem?_append_right (by omega), e, cbs_next k (lo + 1) (r + 1) _ h, el]
      congr 1
      omega
/-- the same of a list's items -/
def combs {α : Type} : List α → Nat → List (List α)
  | _, 0 => [[]]
  | [], _ + 1 => []
  | x :: xs, r + 1 => (combs xs r).map (x :: ·) ++ combs xs (r + 1)
theorem combs_cbs {α : Type} {f : Nat → α} : ∀ (xs : List α) (lo r : Nat), (∀ i, i < xs.length → xs[i]? = some (f (lo + i))) → (cbs lo xs.length r).map (fun ix => ix.map f) = combs xs r
  | xs, lo, 0, _ => by unfold cbs combs; rfl
  | [], lo, r + 1, _ => by unfold cbs combs; rfl
  | x :: xs, lo, r + 1, h => by
    have hx : x = f lo := by simpa using h 0 (by simp)
    have hs : ∀ i, i < xs.length → xs[i]? = some (f (lo + 1 + i)) := fun i hi => by
      have := h (i + 1) (by simpa using hi)
      rw [List.getElem?_cons_succ] at this
      rw [this]
      congr 2
      omega
    rw [List.length_cons]
    unfold cbs combs
    rw [List.map_append, List.map_map, ← combs_cbs xs (lo + 1) r hs, ← combs_cbs xs (lo + 1) (r + 1) hs, List.map_map, hx]
    rfl
end Q

/-! the first of the best of all sublists, and the least key -/
namespace Q
open PySem.W (listLt)
def key3 (y x : Int × Int × List Int) : Bool := if y.1 = x.1 then (if y.2.1 = x.2.1 then listLt y.2.2 x.2.2 else decide (y.2.1 < x.2.1)) else decide (y.1 < x.1)
theorem listLt_cons {x : Int} {xs ys : List Int} (h : listLt xs ys = true) : listLt (x :: xs) (x :: ys) = true := by
  unfold listLt
  rw [if_pos rfl]
  exact h
theorem listLt_head {x y : Int} {xs ys : List Int} (h : x < y) : listLt (x :: xs) (y :: ys) = true := by
  unfold listLt
  rw [if_neg (by omega)]
  exact decide_eq_true h
theorem combs_sub {α : Type} : ∀ {xs : List α} {r : Nat} {z : List α}, z ∈ combs xs r → z.Sublist xs ∧ z.length = r
  | xs, 0, z, h => by cases xs <;> (unfold combs at h; simp at h; subst h; simp)
  | [], r + 1, z, h => by unfold combs at h; simp at h
  | x :: xs, r + 1, z, h => by
    unfold combs at h
    rcases List.mem_append.mp h with h | h
    · obtain ⟨t, ht, rfl⟩ := List.mem_map.mp h
      obtain ⟨h1, h2⟩ := combs_sub ht
      exact ⟨List.Sublist.cons_cons _ h1, by simp [h2]⟩
    · obtain ⟨h1, h2⟩ := combs_sub h
      exact ⟨h1.cons _, h2⟩
theorem mem_combs {α : Type} : ∀ {xs z : List α}, z.Sublist xs → z ∈ combs xs z.length
  | xs, [], _ => by cases xs <;> (unfold combs; simp)
  | x :: xs, y :: ys, h => by
    show _ ∈ combs (x :: xs) (ys.length + 1)
    unfold combs
    cases h with
    | cons _ h => exact List.mem_append_right _ (mem_combs h)
    | cons_cons _ h => exact List.mem_append_left _ (List.mem_map.mpr ⟨_, mem_combs h, rfl⟩)
theorem combs_lt : ∀ {xs : List Int} (r : Nat), xs.Pairwise (· < ·) → (combs xs r).Pairwise fun a b => listLt a b = true
  | xs, 0, _ => by cases xs <;> (unfold combs; simp)
  | [], r + 1, _ => by unfold combs; exact .nil
  | x :: xs, r + 1, h => by
    obtain ⟨h1, h2⟩ := List.pairwise_cons.mp h
    unfold combs
    refine List.pairwise_append.mpr ⟨?_, combs_lt (r + 1) h2, fun a ha b hb => ?_⟩
    · rw [List.pairwise_map]
      exact (combs_lt r h2).imp fun h => listLt_cons h
    · obtain ⟨t, ht, rfl⟩ := List.mem_map.mp ha
      obtain ⟨s1, s2⟩ := combs_sub hb
      match b, s2 with
      | y :: ys, _ => exact listLt_head (h1 y (s1.subset (List.mem_cons_self ..)))
/-- all of them, fewer items first -/
def allC (xs : List Int) (r : Nat) : List (List Int) := (List.range r).flatMap (combs xs)
theorem allC_succ {xs : List Int} {r : Nat} : allC xs (r + 1) = allC xs r ++ combs xs r := by
  unfold allC
  rw [List.range_succ, List.flatMap_append]
  simp
theorem mem_allC {xs z : List Int} {r : Nat} : z ∈ allC xs r ↔ z.Sublist xs ∧ z.length < r := by
  unfold allC
  rw [List.mem_flatMap]
  constructor
  · rintro ⟨k, hk, h⟩
    obtain ⟨h1, h2⟩ := combs_sub h
    exact ⟨h1, by have := List.mem_range.mp hk; omega⟩
  · rintro ⟨h1, h2⟩
    exact ⟨z.length, List.mem_range.mpr h2, mem_combs h1⟩
theorem allC_lt {xs : List Int} (hx : xs.Pairwise (· < ·)) : ∀ r, (allC xs r).Pairwise fun a b => a.length < b.length ∨ (a.length = b.length ∧ listLt a b = true)
  | 0 => .nil
  | r + 1 => by
    rw [allC_succ]
    refine List.pairwise_append.mpr ⟨allC_lt hx r, ?_, fun a ha b hb => ?_⟩
    · refine List.Pairwise.imp_of_mem (fun {a b} ha hb h => ?_) (combs_lt r hx)
      exact .inr ⟨by rw [(combs_sub ha).2, (combs_sub hb).2], h⟩
    · have := (mem_allC.mp ha).2
      have := (combs_sub hb).2
      exact .inl (by omega)
def stepB (f : List Int → Int) (z : Int × List Int) (S : List Int) : Int × List Int := if f S > z.1 then (f S, S) else z
/-- what a going over keeps: the first of the best -/
theorem foldB {f : List Int → Int} : ∀ (L : List (List Int)) (z : Int × List Int),
    (L.foldl (stepB f) z = z ∧ ∀ S ∈ L, f S ≤ z.1) ∨ ∃ (i : Nat) (S : List Int), L[i]? = some S ∧ L.foldl (stepB f) z = (f S, S) ∧ z.1 < f S ∧ (∀ (j : Nat) (T : List Int), j < i → L[j]? = some T → f T < f S) ∧ ∀ T ∈ L, f T ≤ f S
  | [], z => .inl ⟨rfl, fun _ h => nomatch h⟩
  | x :: L, z => by
    rw [List.foldl_cons]
    by_cases hx : f x > z.1
    · have e : stepB f z x = (f x, x) := if_pos hx
      rw [e]
      rcases foldB L (f x, x) with ⟨h1, h2⟩ | ⟨i, S, h1, h2, h3, h4, h5⟩
      · refine .inr ⟨0, x, rfl, h1, hx, fun j T hj => by omega, fun T hT => ?_⟩
        rcases List.mem_cons.mp hT with rfl | hT
        · omega
        · exact h2 T hT
      · have h3 : f x < f S := h3
        refine .inr ⟨i + 1, S, h1, h2, by omega, fun j T hj hT => ?_, fun T hT => ?_⟩
        · cases j with
          | zero => cases hT; exact h3
          | succ j => exact h4 j T (by omega) hT
        · rcases List.mem_cons.mp hT with rfl | hT
          · omega
          · exact h5 T hT
    · have e : stepB f z x = z := if_neg hx
      rw [e]
      rcases foldB L z with ⟨h1, h2⟩ | ⟨i, S, h1, h2, h3, h4, h5⟩
      · refine .inl ⟨h1, fun T hT => ?_⟩
        rcases List.mem_cons.mp hT with rfl | hT
        · omega
        · exact h2 T hT
      · refine .inr ⟨i + 1, S, h1, h2, h3, fun j T hj hT => ?_, fun T hT => ?_⟩
        · cases j with
          | zero => cases hT; omega
          | succ j => exact h4 j T (by omega) hT
        · rcases List.mem_cons.mp hT with rfl | hT
          · omega
          · exact h5 T hT
/-- how many are lit where these may be together -/
def lightsB (good : List Int → Bool) (g : List Int → Nat) (S : List Int) : Int := if good S then (g S : Int) else 0
def bestB (good : List Int → Bool) (g : List Int → Nat) (xs : List Int) : Int × List Int := (allC xs (xs.length + 1)).foldl (stepB (lightsB good g)) (0, [])
def keyB (g : List Int → Nat) (S : List Int) : Int × Int × List Int := (0 - (g S : Int), (S.length : Int), S)
theorem best_key {good : List Int → Bool} {g : List Int → Nat} {xs : List Int} (hx : xs.Pairwise (· < ·)) (g0 : good [] = true) {x : Int × Int × List Int}
    (hk : ∃ S, S.Sublist xs ∧ good S = true ∧ x = keyB g S) (hm : ∀ S, S.Sublist xs → good S = true → key3 (keyB g S) x = false) : bestB good g xs = (0 - x.1, x.2.2) := by
  obtain ⟨S, s1, s2, rfl⟩ := hk
  have lS : lightsB good g S = (g S : Int) := if_pos s2
  have in0 : ∀ T, T.Sublist xs → T ∈ allC xs (xs.length + 1) := fun T h => mem_allC.mpr ⟨h, by have := h.length_le; omega⟩
  have l0 : lightsB good g [] = (g [] : Int) := if_pos g0
  show bestB good g xs = (0 - (0 - (g S : Int)), S)
  have e0 : (0 - (0 - (g S : Int))) = (g S : Int) := by omega
  rw [e0]
  unfold bestB
  rcases foldB (f := lightsB good g) (allC xs (xs.length + 1)) (0, []) with ⟨h1, h2⟩ | ⟨i, C, h1, h2, h3, h4, h5⟩
  · rw [h1]
    have hS := h2 S (in0 S s1)
    have h0 := h2 [] (in0 [] (List.nil_sublist _))
    rw [lS] at hS
    rw [l0] at h0
    have hS : (g S : Int) ≤ 0 := hS
    have h0 : (g [] : Int) ≤ 0 := h0
    have eS : S = [] := by
      cases hS2 : S with
      | nil => rfl
      | cons y ys =>
        have z := hm [] (List.nil_sublist _) g0
        unfold key3 keyB at z
        rw [if_pos (show (0 - (g [] : Int)) = 0 - (g S : Int) by omega)] at z
        have hl : S.length = ys.length + 1 := by rw [hS2]; rfl
        rw [if_neg (show ¬ (((([] : List Int).length : Nat) : Int) = (S.length : Int)) by simp; omega)] at z
        have : ((([] : List Int).length : Nat) : Int) < (S.length : Int) := by simp; omega
        rw [decide_eq_true this] at z
        cases z
    subst eS
    have : (g [] : Int) = 0 := by omega
    rw [this]
  · rw [h2]
    have hC := mem_allC.mp (List.mem_of_getElem? h1)
    have gC : good C = true := by
      cases hg : good C with
      | true => rfl
      | false =>
        have : lightsB good g C = 0 := by unfold lightsB; rw [hg]; rfl
        rw [this] at h3
        exact absurd h3 (by show ¬ (0 : Int) < 0; omega)
    have lC : lightsB good g C = (g C : Int) := if_pos gC
    have z := hm C hC.1 gC
    have hS := h5 S (in0 S s1)
    rw [lS, lC] at hS
    obtain ⟨j, hj⟩ := List.getElem?_of_mem (in0 S s1)
    unfold key3 keyB at z
    by_cases e1 : (0 - (g C : Int)) = 0 - (g S : Int)
    · rw [if_pos e1] at z
      have hji : i ≤ j := by
        refine Nat.le_of_not_lt fun q => ?_
        have := h4 j S q hj
        rw [lS, lC] at this
        omega
      by_cases hij : i = j
      · subst hij
        rw [h1] at hj
        cases hj
        rw [lC]
      · obtain ⟨a1, a2⟩ := List.getElem?_eq_some_iff.mp h1
        obtain ⟨b1, b2⟩ := List.getElem?_eq_some_iff.mp hj
        have pw := List.pairwise_iff_getElem.mp (allC_lt hx (xs.length + 1)) i j a1 b1 (by omega)
        rw [a2, b2] at pw
        rcases pw with q | ⟨q1, q2⟩
        · rw [if_neg (show ¬ ((C.length : Int) = (S.length : Int)) by omega), decide_eq_true (show (C.length : Int) < (S.length : Int) by omega)] at z
          cases z
        · rw [if_pos (show (C.length : Int) = (S.length : Int) by omega)] at z
          have z : listLt C S = false := z
          rw [q2] at z
          cases z
    · rw [if_neg e1, decide_eq_true (show (0 - (g C : Int)) < 0 - (g S : Int) by omega)] at z
      cases z
end Q

/-! min(xs), a list of tuples (int, int, list of ints) -/
namespace Q
open PySem PySem.Spec PyProof.Rows L2
open PySem.W (dataLt AlikeAll)
theorem best_min {bt : Nat → Nat → Bool} (ir : ∀ i, bt i i = false) (tr : ∀ i j k, bt i j = true → bt j k = true → bt i k = true) : ∀ n, argBest bt n ≤ n ∧ ∀ j, j ≤ n → bt j (argBest bt n) = false
  | 0 => ⟨Nat.le_refl _, fun j hj => by have : j = 0 := by omega
                                        subst this; exact ir 0⟩
  | n + 1 => by
    obtain ⟨h1, h2⟩ := best_min ir tr n
    unfold argBest
    cases hb : bt (n + 1) (argBest bt n) with
    | true =>
      refine ⟨Nat.le_refl _, fun j hj => ?_⟩
      by_cases e : j = n + 1
      · subst e; exact ir _
      · cases hj2 : bt j (n + 1) with
        | false => simpa using hj2
        | true => have := tr _ _ _ hj2 hb; rw [h2 j (by omega)] at this; cases this
    | false =>
      refine ⟨by simp; omega, fun j hj => ?_⟩
      by_cases e : j = n + 1
      · subst e; simpa using hb
      · simpa using h2 j (by omega)
def rMinD (K : PySem.W.Frag) : List V → Hp → VK → Prop := fun vs H Q => ∃ (a : Addr) (xs : List V) (ds : List PyData), vs = [V.ref a] ∧ SqL K H a xs ∧ Dp K H (V.ref a) (.list ds) ∧ ds ≠ [] ∧ AlikeAll ds ∧ PyData.depthAll ds ≤ 60 ∧
  ∀ i v, xs[i]? = some v → (∀ j, j < ds.length → dataLt (ds.getD j .none) (ds.getD i .none) = false) → Q v H
theorem cr_minD {X : Cx} (hc : X.calm = true) (hu : X.A.units + 65 < cLine) : CallR X (.builtin "min") (rMinD X.K) := by
  intro pins s σ H vs us Q I r h
  obtain ⟨a, xs, ds, rfl, hs, hd, hne, ha, hdp, q⟩ := h
  rw [Vals.ref1 r]
  cases hd with
  | lst hs' hda =>
    have e := I.list_inj hs' hs
    subst e
    obtain ⟨its, rv, hl, hz⟩ := I.list hs'
    obtain ⟨as, hr⟩ := Dp.readsAll I ds _ its hda rv
    have hn : its.length = ds.length := SeqAt.ReadsAll.length ds its as hr
    have hpos : 0 < ds.length := List.length_pos_iff.mpr hne
    have hr' : ReadsAll s.heap its.toArray.toList ds as := hr
    refine call_min_walkH (PySem.W.iter_listW (A := X.A.in1) (I.ok.hd hc) hl.isList fun s₂ e W st hfp hw hk => ?_)
    refine ⟨_, _, _, _, its.length, _, _, s.heap, _, rfl, by simpa using W, st, hfp, by omega, hw, hk, PySem.W.cmpIn_lt (A := X.A.in1) hr' ha (by show X.A.units + 1 + _ < _; omega), fun v s' hP m => ?_⟩
    obtain ⟨h', tk, rfl, hk'⟩ := PySem.W.moved_old e rfl m
    obtain ⟨b1, b2⟩ := best_min (bt := fun i j => dataLt (ds.getD i .none) (ds.getD j .none)) (fun i => lex_irrefl _) (fun i j k => lex_trans _ _ _) (its.length - 1)
    generalize argBest _ (its.length - 1) = bi at *
    have hlen := rv.length
    have hi : its[bi]? = some v := by simpa using hP
    have hb2 : bi < its.length := (List.getElem?_eq_some_iff.mp hi).1
    have hb3 := hb2
    rw [← hlen] at hb3
    obtain ⟨u, hu', ru⟩ := rv.get (List.getElem?_eq_getElem hb3)
    have e2 : u = v := Option.some.inj (hu'.symm.trans hi)
    subst e2
    exact ⟨_, H, I.kept (t' := tk) hk', ru, q bi _ (List.getElem?_eq_getElem hb3) fun j hj => b2 j (by omega)⟩
def datK (x : Int × Int × List Int) : PyData := .tuple [.int x.1, .int x.2.1, .list (x.2.2.map .int)]
theorem datK_lt (y x : Int × Int × List Int) : dataLt (datK y) (datK x) = key3 y x :=
  PySem.W.DatumOrd.lt_eq (⟨y.1, y.2.1, y.2.2⟩ : PySem.W.T3 Int Int (List Int)) ⟨x.1, x.2.1, x.2.2⟩
theorem datK_alike (y x : Int × Int × List Int) : PySem.W.alike (datK y) (datK x) = true :=
  PySem.W.DatumOrd.alike (⟨y.1, y.2.1, y.2.2⟩ : PySem.W.T3 Int Int (List Int)) ⟨x.1, x.2.1, x.2.2⟩
section
variable {F : Fr} {K : PySem.W.Frag} {σ : L2.St} {W : Wd F} {ta : TE}
abbrev rKey : Rp (Int × Int × List Int) := rT3 rInt rInt (rList rInt)
abbrev dzKey : Dz rKey := dzT3 (Dc.z dcInt) (Dc.z dcInt) (dzList (Dc.z dcInt))
theorem ev_minK {xs : List (Int × Int × List Int)} (hne : xs ≠ []) (ha : EvR ta σ W (rList rKey) xs) : EvN (tCB (rMinD K) (tCons ta tNil)) σ W rKey (fun x => x ∈ xs ∧ ∀ y ∈ xs, key3 y x = false) := fun W1 l Q q => ha W1 l _ fun v W2 l2 hv => by
  have hd := (dzList dzKey).dp K _ _ _ _ W2.gh hv
  obtain ⟨a, vs, rfl, h1, h2⟩ := hv
  have hD : (xs.map dzKey.d) = xs.map datK := rfl
  refine ⟨a, vs, xs.map datK, rfl, sqL_of W2.gh h1, hd, by simpa using hne, ⟨?_, ?_⟩, ?_, fun i v hi hm => ?_⟩
  · intro x hx y hy
    obtain ⟨x', _, rfl⟩ := List.mem_map.mp hx
    obtain ⟨y', _, rfl⟩ := List.mem_map.mp hy
    exact datK_alike _ _
  · intro x hx e
    obtain ⟨x', _, rfl⟩ := List.mem_map.mp hx
    cases e
  · have := depAll dzKey.b xs
    have e2 : dzKey.n = 2 := rfl
    exact Nat.le_trans this (by decide)
  · obtain ⟨x, hx, hr⟩ := h2.getv hi
    refine q v W2 x l2 hr ⟨List.mem_of_getElem? hx, fun y hy => ?_⟩
    obtain ⟨j, hj⟩ := List.getElem?_of_mem hy
    have hj' := (List.getElem?_eq_some_iff.mp hj).1
    have z := hm j (by simpa using hj')
    have gx : (xs.map datK).getD i .none = datK x := by rw [List.getD, List.getElem?_map, hx]; rfl
    have gy : (xs.map datK).getD j .none = datK y := by rw [List.getD, List.getElem?_map, hj]; rfl
    rw [gx, gy, datK_lt] at z
    exact z
/-- x is None, x told by what is known of it -/
theorem ev_isNON {α : Type} {r : Rp α} {P : Option α → Prop} {tn : TE} {op : R2} (he : op = fun x y H Q => y = .non ∧ Q (.bl (decide (x = .non))) H) (hn : tn = tC .non) (nn : ∀ G v (x : α), r.rel G v x → v ≠ .non) (ha : EvN ta σ W (rOpt r) P) : EvN (tOp op ta tn) σ W rBool (fun b => ∃ x, P x ∧ b = x.isNone) := by
  subst he hn
  refine fun W1 l Q q => ha W1 l _ fun v W2 x l2 hv hx => ⟨rfl, ?_⟩
  cases x with
  | none =>
    have hv : v = .non := hv
    subst hv
    exact q _ W2 true l2 rfl ⟨none, hx, rfl⟩
  | some y =>
    have : v ≠ .non := nn _ _ _ hv
    rw [decide_eq_false this]
    exact q _ W2 false l2 rfl ⟨some y, hx, rfl⟩
theorem kMinD {X : Cx} (K : PySem.W.Frag) (hc : X.calm = true) (hu : X.A.units + 200 < cLine) (hK : X.K = K := by rfl) : CallR X (.builtin "min") (rMinD K) := hK ▸ cr_minD hc (by omega)
end
end Q

/-! objects of one's own with own lists and dicts in their fields; {deed} in an f-string -/
namespace Q
open PySem PySem.Spec PyProof.Rows L2
section
variable {X : Cx}
/-- {t}, t a word and a whole number -/
def tFmtD (K : PySem.W.Frag) (te : TE) : TE := fun σ H Q => te σ H fun x H1 => ∃ (a : Addr) (wd : Str) (i : Int), x = .ref a ∧ SqT K H1 a [.str wd, .int i] ∧ wd.length ≤ 100 ∧ (∀ c ∈ wd.cps.toList, c < 16 ^ 8) ∧ i.natAbs < 10 ^ 6 ∧ ∀ m : Str, m.length ≤ 2000 → Q (.str m) H1
theorem pe_fmtD {e : Expr} {te : TE} {pos : Pos} (hu : X.A.units + 200 < cLine) (he : PE X e te) : PE X (.FormattedValue e (-1) none pos) (tFmtD X.K te) where
  run pins s σ H Q I h := by
    refine wpAny_FormattedValue_plain (thn (he.run pins s σ H _ I h) fun v s1 got => ?_)
    obtain ⟨_, H1, J, r, a, wd, i, rfl, hq, hl, hc, hi, q⟩ := got
    cases r
    obtain ⟨its, rv, ⟨o, ho, hcl, n, hd⟩, _⟩ := J.tuple hq
    have t1 := StrLaws.reprText_len wd hc
    have t2 : (Str.ofString (toString i)).length ≤ 7 := by rw [PySem.ofString_length]; exact int_text_length_le10 (k := 6) (by decide) hi
    have txt := fmt_text [reprText wd, Str.ofString (toString i)]
    rw [piled_cons, piled_cons, piled_nil] at txt
    have big : 5000 ≤ sizeLine := by decide
    have all : ReprAll X.prog X.w its [reprText wd, Str.ofString (toString i)] := by
      cases rv with
      | cons r1 r2 =>
        cases r2 with
        | cons r2 r3 =>
          cases r3
          obtain ⟨k1, rfl⟩ := r1
          obtain ⟨k2, rfl⟩ := r2
          refine .cons (ReprIs.str wd k1 (by omega)) (.cons (ReprIs.int k2 ?_) .nil)
          by_cases h0 : i.natAbs = 0
          · rw [h0]; decide
          · exact (Nat.log2_lt h0).mpr (Nat.lt_trans hi (Nat.lt_of_lt_of_le (by decide : 10 ^ 6 < 2 ^ 20) (Nat.pow_le_pow_right (by decide) (by decide))))
    exact fmt_tuple (ts := [reprText wd, Str.ofString (toString i)]) (by omega) ho hcl hd all (by omega) fun m u tk hm => ⟨.str m, H1, J.tok _, ⟨u, rfl⟩, q m (by omega)⟩
end
/-- what is the caller's, and is not frozen -/
structure At {F : Fr} (W : Wd F) (p : Addr) (o : HO) : Prop where
  g : W.G p = none
  h : W.H p = some o
  nm : ¬ F.M p
section
variable {F : Fr} {W W1 : Wd F} {p q : Addr} {o u : HO}
theorem At.up (l : Le W W1) (x : At W p o) : At W1 p o := by
  obtain ⟨h1, h2⟩ := l.kp p x.nm x.g (by rw [x.h]; exact fun z => nomatch z)
  exact ⟨h1, h2.trans x.h, x.nm⟩
theorem Own.at' (x : Own W p o) : At W p o := ⟨x.g, x.h, x.nm⟩
theorem At.ne (x : At W p o) (h : W.H q = none) : p ≠ q := ne_of_none x.h h
/-- within a callee that turns nothing -/
theorem At.inp (x : At W p o) {gh : Ex W.G W.H} : At (Wd.in W.G W.H gh) p o := ⟨x.g, x.h, fun z => z⟩
open Classical in
/-- H without what stands at S -/
noncomputable def cutS (H : Hp) (S : Addr → Prop) : Hp := fun a => if S a then none else H a
theorem cutS_in {H : Hp} {S : Addr → Prop} {a : Addr} (h : S a) : cutS H S a = none := by unfold cutS; rw [if_pos h]
theorem cutS_out {H : Hp} {S : Addr → Prop} {a : Addr} (h : ¬ S a) : cutS H S a = H a := by unfold cutS; rw [if_neg h]
/-- a callee that may turn what stands at S -/
noncomputable def sF (G H : Hp) (S : Addr → Prop) : Fr where
  G0 := G
  H0 := cutS H S
  M := fun _ => False
  I := fun _ => True
  st := fun _ _ _ _ => True.intro
  has := fun _ _ _ z => z.elim
  i0 := True.intro
noncomputable def Wd.inS (G H : Hp) (S : Addr → Prop) (gh : Ex G H) : Wd (sF G H S) where
  G := G
  H := H
  gh := gh
  gg := Ex.refl _
  kp := fun a _ g n => ⟨g, (cutS_out (H := H) fun z => n (cutS_in z)).symm⟩
  mg := fun _ z => False.elim z
  iv := True.intro
theorem Wd.inS_own {G H : Hp} {S : Addr → Prop} {gh : Ex G H} (h : S p) (g : G p = none) (e : H p = some o) : Own (Wd.inS G H S gh) p o := ⟨g, e, cutS_in h⟩
/-- behind it -/
noncomputable def Wd.backS (W : Wd F) {S : Addr → Prop} (own : ∀ a, S a → W.G a = none ∧ F.H0 a = none) (W' : Wd (sF W.G W.H S)) : Wd F where
  G := W'.G
  H := W'.H
  gh := W'.gh
  gg := W.gg.trans W'.gg
  kp := fun a m g n => by
    obtain ⟨h1, h2⟩ := W.kp a m g n
    have out : ¬ S a := fun z => n (own a z).2
    obtain ⟨h3, h4⟩ := W'.kp a (fun z => z) h1 (by rw [show (sF W.G W.H S).H0 a = W.H a from cutS_out out, h2]; exact n)
    exact ⟨h3, h4.trans ((show (sF W.G W.H S).H0 a = W.H a from cutS_out out).trans h2)⟩
  mg := fun a m => by
    have n := F.has _ _ W.iv m
    have out : ¬ S a := fun z => F.has _ _ F.i0 m (own a z).2
    exact (W'.kp a (fun z => z) (W.mg a m) (by rw [show (sF W.G W.H S).H0 a = W.H a from cutS_out out]; exact n)).1
  iv := F.st _ _ (fun a m => by
    have n := F.has _ _ W.iv m
    have out : ¬ S a := fun z => F.has _ _ F.i0 m (own a z).2
    have e : (sF W.G W.H S).H0 a = W.H a := cutS_out out
    exact ((W'.kp a (fun z => z) (W.mg a m) (by rw [e]; exact n)).2).trans e) W.iv
/-- all of one's own but what stands at S is as it was -/
structure KpS (S : Addr → Prop) (W W1 : Wd F) : Prop where
  ex : Ex W.G W1.G
  kp : ∀ q u, ¬ S q → Own W q u → Own W1 q u
theorem KpS.of_le {S : Addr → Prop} (l : Le W W1) : KpS S W W1 := ⟨l.ex, fun _ _ _ x => x.up l⟩
theorem KpS.trans {S : Addr → Prop} {A B C : Wd F} (x : KpS S A B) (y : KpS S B C) : KpS S A C := ⟨x.ex.trans y.ex, fun q u n o => y.kp q u n (x.kp q u n o)⟩
theorem KpS.of_kp {S : Addr → Prop} (k : Kp p W W1) (h : S p) : KpS S W W1 := ⟨k.ex, fun q u n x => k.kp q u (fun z => n (z ▸ h)) x⟩
theorem KpS.mono {S S' : Addr → Prop} (x : KpS S W W1) (h : ∀ a, S a → S' a) : KpS S' W W1 := ⟨x.ex, fun q u n o => x.kp q u (fun z => n (h q z)) o⟩
theorem KpS.wk {S : Addr → Prop} (x : KpS S W W1) : Wk W W1 := ⟨x.ex⟩
theorem Wd.backS_kp {S : Addr → Prop} {own : ∀ a, S a → W.G a = none ∧ F.H0 a = none} (W' : Wd (sF W.G W.H S)) : KpS S W (W.backS own W') := ⟨W'.gg, fun q u n x => by
  have e : (sF W.G W.H S).H0 q = W.H q := cutS_out n
  obtain ⟨h1, h2⟩ := W'.kp q (fun z => z) x.g (by rw [e, x.h]; exact fun z => nomatch z)
  exact ⟨h1, h2.trans (e.trans x.h), x.z⟩⟩
theorem Own.ofS {S : Addr → Prop} {own : ∀ a, S a → W.G a = none ∧ F.H0 a = none} {W' : Wd (sF W.G W.H S)} (x : Own W' p o) : Own (W.backS own W') p o := ⟨x.g, x.h, by
  by_cases h : S p
  · exact (own p h).2
  · exact W.h0 ((cutS_out h).symm.trans x.z)⟩
/-- nothing turned: what S has is as it was -/
theorem Wd.backS_le {S : Addr → Prop} {own : ∀ a, S a → W.G a = none ∧ F.H0 a = none} (W' : Wd (sF W.G W.H S)) (l : Le (Wd.inS W.G W.H S W.gh) W') : Le W (W.backS own W') := ⟨W'.gg, fun a _ g n => l.kp a (fun z => z) g n⟩
end
section
variable {F : Fr} {K : PySem.W.Frag} {σ : L2.St} {W W1 : Wd F} {ta tb te tc tl : TE} {tt : TT} {α β γ δ : Type} {r : Rp α} {s : Rp β} {D : Ends} {tz : TS} {C x dx : Addr} {fs : List (Str × V)} {f : Str}
/-- x.f, the object not frozen, its field's value frozen -/
theorem ev_fldA {i : Nat} {v : V} {y : α} (hi : σ[i]? = some (some (.ref x))) (a : At W x (.ins C dx fs)) (cl : Cls K C) (na : NoAttr K C f) (hl : fs.lookup f = some v) (hr : r.rel W.G v y) : EvR (tFld K (tVar i) f) σ W r y := fun W1 l Q q =>
  ⟨_, hi, x, C, dx, fs, v, rfl, (a.up l).h, cl, na, hl, q v W1 (Le.refl _) (r.mono l.ex hr)⟩
/-- a list that is not frozen -/
structure AtL (W : Wd F) (p : Addr) (r : Rp α) (xs : List α) : Prop where
  ex : ∃ vs, At W p (.lst vs) ∧ All2 (r.rel W.G) vs xs
theorem AtL.up {p : Addr} {xs : List α} (l : Le W W1) (h : AtL W p r xs) : AtL W1 p r xs := by
  obtain ⟨vs, h1, h2⟩ := h.ex
  exact ⟨vs, h1.up l, h2.imp fun _ _ => r.mono l.ex⟩
theorem OwnL.atL {p : Addr} {xs : List α} (h : OwnL W p r xs) : AtL W p r xs := by
  obtain ⟨vs, h1, h2⟩ := h.ex
  exact ⟨vs, h1.at', h2⟩
/-- list(x.f), the field's list not frozen -/
theorem eo_listA {i : Nat} {p : Addr} {xs : List α} (hi : σ[i]? = some (some (.ref x))) (a : At W x (.ins C dx fs)) (cl : Cls K C) (na : NoAttr K C f) (hl : fs.lookup f = some (.ref p)) (b : AtL W p r xs) : EvO (tCB (oList K) (tCons (tFld K (tVar i) f) tNil)) σ W r xs := fun W1 l Q q => by
  obtain ⟨vs, h1, h2⟩ := (b.up l).ex
  refine ⟨_, hi, x, C, dx, fs, .ref p, rfl, (a.up l).h, cl, na, hl, p, vs, rfl, .inl (sqL_of (Ex.refl _) h1.h), fun z hz => ?_⟩
  exact q z vs (W1.own z _ hz) (W1.own_le hz) hz (W1.own_at hz) (h2.imp fun _ _ => r.mono (W1.own_le hz).ex)
/-- x.f = e, the object one's own -/
theorem q_setO {i : Nat} {P : α → Prop} (hi : σ[i]? = some (some (.ref x))) (a : Own W x (.ins C dx fs)) (cl : Cls K C) (na : NoAttr K C f) (hl : fs.length < 1000) (h : EvN te σ W r P)
    (k : ∀ v (W1 : Wd F) y, Kp x W W1 → Own W1 x (.ins C dx (putF f v fs)) → r.rel W1.G v y → P y → tz D σ W1.H) : tSeq (sFld K (tVar i) te f) tz D σ W.H :=
  h W (Le.refl _) _ fun v W1 y l hv hy => by
    have o1 := a.up l
    exact ⟨_, hi, x, C, dx, fs, rfl, o1.h, cl, na, hl, k v (W1.put x (.ins C dx (putF f v fs)) o1.z o1.g) y ⟨l.ex, fun q u ne z => (z.up l).put ne _ _⟩ (W1.put_at o1.z o1.g) hv hy⟩
/-- x.f.append(e), the object and its list one's own -/
theorem q_appO {i : Nat} {p : Addr} {xs : List α} {y : α} (hi : σ[i]? = some (some (.ref x))) (a : Own W x (.ins C dx fs)) (cl : Cls K C) (na : NoAttr K C f) (hl : fs.lookup f = some (.ref p)) (o : OwnL W p r xs) (h : EvR te σ W r y) (hz : xs.length < 100000)
    (k : ∀ W1 : Wd F, Kp p W W1 → OwnL W1 p r (xs ++ [y]) → tz D σ W1.H) : tSeq (tDrop (tBM K "list" rAppend (tFld K (tVar i) f) (tCons te tNil))) tz D σ W.H := by
  obtain ⟨vs, h1, h2⟩ := o.ex
  refine ⟨_, hi, x, C, dx, fs, .ref p, rfl, a.h, cl, na, hl, .inl ⟨rfl, _, sqL_of (Ex.refl _) h1.h⟩, h W (Le.refl _) _ fun v W1 l hv => ?_⟩
  have o1 := h1.up l
  exact ⟨p, vs, v, rfl, rfl, o1.h, by rw [h2.1]; exact Nat.lt_of_lt_of_le hz (by decide), k (W1.put p (.lst (vs ++ [v])) o1.z o1.g) ⟨l.ex, fun q u ne z => (z.up l).put ne _ _⟩ ⟨_, W1.put_at o1.z o1.g, (h2.imp fun _ _ => r.mono l.ex).snoc hv⟩⟩
end
end Q

/-! sorted(xs), xs a list of nested data; (*x, e); xs.extend(e) -/
namespace Q
open PySem PySem.Spec PyProof.Rows L2
open PySem.W (dataLe AllAlike Sortable EachIs alike)
theorem each_vals : ∀ {zs : List (V × PyData)} {us : List Value}, Vals (zs.map (·.1)) us → EachIs (fun u (z : V × PyData) => RelV z.1 u) us zs
  | [], _, r => by rw [List.map_nil] at r; cases r; exact .nil
  | z :: zs, _, r => by
    rw [List.map_cons] at r
    cases r with
    | cons a t => exact .cons a (each_vals t)
theorem vals_each : ∀ {us : List Value} {zs : List (V × PyData)}, EachIs (fun u (z : V × PyData) => RelV z.1 u) us zs → Vals (zs.map (·.1)) us
  | _, _, .nil => .nil
  | _, _, .cons a t => .cons a (vals_each t)
def rSortD (K : PySem.W.Frag) : List V → Hp → VK → Prop := fun vs H Q => ∃ (a : Addr) (zs : List (V × PyData)), vs = [V.ref a] ∧ SqL K H a (zs.map (·.1)) ∧ Dp K H (V.ref a) (.list (zs.map (·.2))) ∧ AllAlike (zs.map (·.2)) ∧ Sortable (zs.map (·.2)) ∧ (∀ z ∈ zs, z.2.depth ≤ 60) ∧
  ∀ p, H p = none → Q (.ref p) (upd H p (.lst ((zs.mergeSort (dataLe false (·.2))).map (·.1))))
theorem cr_sortD {X : Cx} (hu : X.A.units + 65 < cLine) : CallR X (.builtin "sorted") (rSortD X.K) := by
  intro pins s σ H vs us Q I r h
  obtain ⟨a, zs, rfl, hs, hd, al, so, dep, q⟩ := h
  rw [Vals.ref1 r]
  cases hd with
  | lst hs' hda =>
    have e := I.list_inj hs' hs
    subst e
    obtain ⟨its, rv, hl, hz⟩ := I.list hs'
    obtain ⟨as, hr⟩ := Dp.readsAll I _ _ its hda rv
    have lz : zs.length ≤ sizeLine := by rw [List.length_map] at hz; exact hz
    refine PySem.W.sorted_data (bs := zs) (R := fun u (z : V × PyData) => RelV z.1 u) (enc := (·.2)) hl.isList (each_vals rv) (PySem.W.readsAll_each (fun z : V × PyData => z.2) hr) al so lz (fun z hz => by have := dep z hz; show X.A.units + 2 + z.2.depth < _; omega) fun out ho eo => ?_
    obtain ⟨ep, at_⟩ := PyProof.Rows.sortedAll_at s.heap its out.toArray
    have few : ((zs.mergeSort (dataLe false (·.2))).map (·.1)).length ≤ sizeLine := by
      rw [List.length_map, List.length_mergeSort]; exact lz
    exact ⟨.ref _, upd H (s.heap.objs.size + 1) (.lst ((zs.mergeSort (dataLe false (·.2))).map (·.1))), I.laid (t' := s.toks) (fun _ _ => PyProof.Rows.sortedAll_old) (Nat.le_succ _) ⟨few, out, ep, vals_each eo, at_⟩, rfl, q _ (I.hok.fresh (Nat.le_succ _))⟩
theorem kSortD {X : Cx} (K : PySem.W.Frag) (hu : X.A.units + 200 < cLine) (hK : X.K = K := by rfl) : CallR X (.builtin "sorted") (rSortD K) := hK ▸ cr_sortD (by omega)
theorem pa_starK {X : Cx} {e : Expr} {es : List Expr} {te : TE} {t : TA} {p : Pos} (K : PySem.W.Frag) (he : PE X e te) (hr : PA X es t) (hK : X.K = K := by rfl) (hs : starEach (.Starred e p :: es) X.env = (true, eval e X.env) :: starEach es X.env := by rfl) : PA X (.Starred e p :: es) (StX.tStar K te t) := hK ▸ StX.pa_star he hr hs
section
variable {F : Fr} {K : PySem.W.Frag} {σ : L2.St} {W W1 : Wd F} {ta tb te tc : TE} {α β γ : Type} {r : Rp α} {s : Rp β} {t : Rp γ} {D : Ends} {tz : TS}
theorem all2_pairs {R : V → α → Prop} : ∀ {ws : List (V × α)}, (∀ p ∈ ws, R p.1 p.2) → All2 R (ws.map (·.1)) (ws.map (·.2))
  | [], _ => All2.nil
  | p :: ws, h => All2.cons (h p List.mem_cons_self) (all2_pairs fun q hq => h q (List.mem_cons_of_mem _ hq))
theorem all2_zip {R : V → α → Prop} {vs : List V} {xs : List α} (h : All2 R vs xs) : ∃ ws : List (V × α), ws.map (·.1) = vs ∧ ws.map (·.2) = xs ∧ ∀ p ∈ ws, R p.1 p.2 := by
  refine ⟨vs.zip xs, List.map_fst_zip (by rw [h.1]; exact Nat.le_refl _), List.map_snd_zip (by rw [h.1]; exact Nat.le_refl _), fun p hp => ?_⟩
  obtain ⟨i, hi⟩ := List.getElem?_of_mem hp
  obtain ⟨h1, h2⟩ := List.getElem?_zip_eq_some.mp hi
  exact h.get h1 h2
/-- sorted(xs), a list of data -/
def srtD (f : Dz r) (xs : List α) : List α := xs.mergeSort (dataLe false f.d)
theorem eo_sortD {xs : List α} (f : Dz r) (ha : EvR ta σ W (rList r) xs) (al : AllAlike (xs.map f.d)) (so : Sortable (xs.map f.d)) (dep : f.n ≤ 60) : EvO (tCB (rSortD K) (tCons ta tNil)) σ W r (srtD f xs) := fun W1 l Q q => ha W1 l _ fun v W2 l2 hv => by
  have hd := (dzList f).dp K _ _ _ _ W2.gh hv
  obtain ⟨a, vs, rfl, h1, h2⟩ := hv
  obtain ⟨ws, e1, e2, hw⟩ := all2_zip h2
  subst e1 e2
  have m2 : ((ws.map fun p => (p.1, f.d p.2)).map (·.2)) = (ws.map (·.2)).map f.d := by simp [Function.comp_def]
  have m1 : ((ws.map fun p => (p.1, f.d p.2)).map (·.1)) = ws.map (·.1) := by simp [Function.comp_def]
  refine ⟨a, ws.map fun p => (p.1, f.d p.2), rfl, by rw [m1]; exact sqL_of W2.gh h1, by rw [m2]; exact hd, by rw [m2]; exact al, by rw [m2]; exact so, fun z hz => ?_, fun p hp => ?_⟩
  · obtain ⟨y, _, rfl⟩ := List.mem_map.mp hz
    exact Nat.le_trans (f.b _) dep
  · have s1 : (ws.map fun p => (p.1, f.d p.2)).mergeSort (dataLe false (·.2)) = (ws.mergeSort (dataLe false fun p => f.d p.2)).map fun p => (p.1, f.d p.2) := (List.map_mergeSort (r := dataLe false fun p : V × α => f.d p.2) (s := dataLe false (·.2)) (f := fun p : V × α => (p.1, f.d p.2)) (l := ws) fun a _ b _ => rfl).symm
    have s2 : srtD f (ws.map (·.2)) = (ws.mergeSort (dataLe false fun p => f.d p.2)).map (·.2) := (List.map_mergeSort (r := dataLe false fun p : V × α => f.d p.2) (s := dataLe false f.d) (f := fun p : V × α => p.2) (l := ws) fun a _ b _ => rfl).symm
    have s3 : ((ws.mergeSort (dataLe false fun p => f.d p.2)).map fun p => (p.1, f.d p.2)).map (·.1) = (ws.mergeSort (dataLe false fun p => f.d p.2)).map (·.1) := by simp [Function.comp_def]
    rw [s1, s3]
    refine q p _ (W2.own p _ hp) (l2.trans (W2.own_le hp)) (le_fresh l2 hp) (W2.own_at hp) ?_
    rw [s2]
    exact (all2_pairs fun z hz => hw z ((List.mergeSort_perm ws _).mem_iff.mp hz)).imp fun _ _ => r.mono (W2.own_le hp).ex
theorem srtD_perm {f : Dz r} {xs : List α} : (srtD f xs).Perm xs := List.mergeSort_perm _ _
/-- (*x, e), x a pair -/
theorem ev_star2 {x : α} {y : β} {z : γ} (ha : EvR ta σ W (rT2 r s) (x, y)) (hb : EvR tb σ W t z) : EvR (tTup (StX.tStar K ta (tCons tb tNil))) σ W (rT3 r s t) (x, y, z) := fun W1 l Q q =>
  ha W1 l _ fun v W2 l2 hv => by
    obtain ⟨a, u, w, rfl, h1, h2, h3⟩ := hv
    refine ⟨a, [u, w], rfl, .inl (sqT_of W2.gh h1), hb W2 (l.trans l2) _ fun c W3 l3 hc => ⟨by show 3 ≤ sizeLine; decide, fun p hp => ?_⟩⟩
    have l4 := W3.add_le (o := .tup ([u, w] ++ [c])) hp
    exact q (.ref p) (W3.add p _ hp) ((l2.trans l3).trans l4) ⟨p, u, w, c, rfl, W3.add_at hp, r.mono (l3.ex.trans l4.ex) h2, s.mono (l3.ex.trans l4.ex) h3, t.mono l4.ex hc⟩
/-- xs.extend(e), xs of one's own -/
theorem s_ext {i : Nat} {p : Addr} {xs ys : List α} (hi : σ[i]? = some (some (.ref p))) (o : OwnL W p r xs) (h : EvR te σ W (rList r) ys) (hz : xs.length + ys.length ≤ 16000000)
    (k : ∀ W1 : Wd F, Kp p W W1 → OwnL W1 p r (xs ++ ys) → D.nx σ W1.H) : tDrop (tBM K "list" rExtend (tVar i) (tCons te tNil)) D σ W.H := by
  obtain ⟨vs, h1, h2⟩ := o.ex
  refine ⟨_, hi, .inl ⟨rfl, _, sqL_of (Ex.refl _) h1.h⟩, h W (Le.refl _) _ fun v W1 l hv => ?_⟩
  obtain ⟨a, ws, rfl, g1, g2⟩ := hv
  have o1 := h1.up l
  refine ⟨p, a, vs, ws, rfl, rfl, o1.h, W1.gh _ _ g1, by rw [h2.1, g2.1]; exact Nat.le_trans hz (by decide), ?_⟩
  exact k (W1.put p (.lst (vs ++ ws)) o1.z o1.g) ⟨l.ex, fun q u ne x => (x.up l).put ne _ _⟩ ⟨_, W1.put_at o1.z o1.g, (h2.imp fun _ _ => r.mono l.ex).append g2⟩
theorem q_ext {i : Nat} {p : Addr} {xs ys : List α} (hi : σ[i]? = some (some (.ref p))) (o : OwnL W p r xs) (h : EvR te σ W (rList r) ys) (hz : xs.length + ys.length ≤ 16000000)
    (k : ∀ W1 : Wd F, Kp p W W1 → OwnL W1 p r (xs ++ ys) → tz D σ W1.H) : tSeq (tDrop (tBM K "list" rExtend (tVar i) (tCons te tNil))) tz D σ W.H := s_ext (D := { D with nx := tz D }) hi o h hz k
/-- a word among a tuple's -/
theorem all2_strsT {vs : List V} {xs : List Str} (h : All2 (fun v (x : Str) => v = V.str x) vs xs) : vs = xs.map V.str := by
  apply List.ext_getElem?
  intro i
  rw [List.getElem?_map]
  cases e : xs[i]? with
  | none =>
    have : xs.length ≤ i := List.getElem?_eq_none_iff.mp e
    exact List.getElem?_eq_none (by rw [h.1]; exact this)
  | some x =>
    obtain ⟨v, h1, h2⟩ := h.2 i x e
    rw [h1, h2]; rfl
end
end Q

/-! texts exactly: +, str, int, join, split, in, len, a sign, all, f-strings; w, *xs = a list; d.get of a written dict -/
namespace Q
open PySem PySem.Spec PyProof.Rows L2
abbrev numS (i : Int) : Str := Str.ofString (toString i)
abbrev signS (c : Nat) : Str := ⟨#[c]⟩
def rLenS : List V → Hp → VK → Prop := fun xs H Q => ∃ z : Str, xs = [.str z] ∧ z.length ≤ sizeLine ∧ Q (.int z.length) H
def rStrI : List V → Hp → VK → Prop := fun xs H Q => ∃ i : Int, xs = [.int i] ∧ i.natAbs.log2 < 1920 ∧ Q (.str (toString i)) H
def rIntS : List V → Hp → VK → Prop := fun xs H Q => ∃ a n, xs = [.str a] ∧ PySem.intText? a = some n ∧ a.length ≤ 640 ∧ Q (.int n) H
def rJoinS (K : PySem.W.Frag) : V → List V → Hp → VK → Prop := fun x xs H Q => ∃ a p, ∃ ys : List Str, x = .str a ∧ xs = [.ref p] ∧ (SqL K H p (ys.map V.str) ∨ SqT K H p (ys.map V.str)) ∧ (ys.map (·.length)).sum + ys.length * a.length ≤ 16777216 ∧ Q (.str (Txt.join a ys)) H
def rSplitS : V → List V → Hp → VK → Prop := fun x xs H Q => ∃ a b, x = .str a ∧ xs = [.str b] ∧ (b.length == 0) = false ∧ a.length + 2 ≤ sizeLine ∧ rNewStrs (Txt.split a b) H Q
def oInSign : R2 := fun x y H Q => ∃ (c : Nat) (z : Str), x = .str ⟨#[c]⟩ ∧ y = .str z ∧ Q (.bl (decide (c ∈ z.cps.toList))) H
/-- d.get(k), d a written dict -/
def KGet (K : PySem.W.Frag) (w : World) (a : Addr) (x : Str) (o : Option V) : Prop := (a == sysModules) = false ∧ ∃ es n, K.lookup a = some ⟨.type "dict", none, .dict es n, #[]⟩ ∧ PySem.W.KeysLit w.params es.toList ∧ ∃ u : Option Value, PySem.W.nsIn K a x = some u ∧ RelO o u
def tKGet (K : PySem.W.Frag) (w : World) (td ty : TE) : TE := fun σ H Q => td σ H fun x H1 => ∃ p : Addr, x = .ref p ∧ (∃ (z : Str) (o : Option V), KGet K w p z o) ∧ ty σ H1 fun y H2 => ∃ (z : Str) (o : Option V), y = .str z ∧ KGet K w p z o ∧ Q (o.getD .non) H2
/-- w, *xs = a list -/
def gStar (K : PySem.W.Frag) (t1 t2 : TG) : TG := fun v σ H Q => ∃ (a : Addr) (x : V) (xs : List V), v = .ref a ∧ SqL K H a (x :: xs) ∧ xs.length ≤ 16000 ∧ ∀ p, H p = none → gCons t1 (gCons t2 gNil) [x, .ref p] σ (upd H p (.lst xs)) Q
section
variable {X : Cx}
theorem kLenS : CallR X (.builtin "len") rLenS := call_len_str
theorem kStrI : CallR X (.type "str") rStrI := call_str_int
theorem kIntS : CallR X (.type "int") rIntS := call_int_str
theorem kInSign : OpR X (compareOp .In) oInSign := op_in_sign
theorem kJoinS {o e : Expr} {to te : TE} {apos pos : Pos} (K : PySem.W.Frag) (ho : PE X o to) (he : PE X e te) (hK : X.K = K := by rfl) (hs : starEach [e] X.env = [(false, eval e X.env)] := by rfl) (hbase : attributeBase o "join" X.env (eval o X.env) = eval o X.env := by rfl) (hline : (apos.endLine == pos.line) = true := by rfl) :
    PE X (.Call (.Attribute o "join" apos) [e] [] pos) (tM1 (rJoinS K) to te) := hK ▸ pe_join ho he hs hbase hline
theorem kSplitS {o e : Expr} {to te : TE} {apos pos : Pos} (ho : PE X o to) (he : PE X e te) (hs : starEach [e] X.env = [(false, eval e X.env)] := by rfl) (hbase : attributeBase o "split" X.env (eval o X.env) = eval o X.env := by rfl) (hline : (apos.endLine == pos.line) = true := by rfl) :
    PE X (.Call (.Attribute o "split" apos) [e] [] pos) (tM1 rSplitS to te) := pe_split ho he hs hbase hline
theorem pe_kget {o e : Expr} {td ty : TE} {apos cpos : Pos} (K : PySem.W.Frag) (w : World) (ho : PE X o td) (he : PE X e ty) (m : M1 X o "get" apos e cpos) (hK : X.K = K := by rfl) (hw : X.w = w := by rfl) : PE X (.Call (.Attribute o "get" apos) [e] [] cpos) (tKGet K w td ty) := by
  subst hK hw
  refine ⟨fun pins s σ H Q I h => ?_⟩
  refine wpAny_Call_method m.base m.few m.line PySem.F.plainAttrs_dict PySem.F.slot_dict_get PySem.F.type_dict_get (thn (ho.run pins s σ H _ I h) fun u s1 ⟨x, H1, I1, rx, p, ex, kg, q1⟩ => ?_)
  subst ex
  cases (show u = Value.ref p from rx)
  obtain ⟨z0, o0, _, es0, n0, hl0, hk0, _⟩ := kg
  have hm0 := PySem.W.mapOf_K (prog := X.prog) (w := X.w) I1.kIn hl0 hk0
  refine ⟨hm0.typeIs, fun b q => ?_, ?_⟩
  · cases q
    obtain ⟨ob, _, _, h1, h2, _⟩ := id hm0
    exact ⟨ob, h1, h2.2.1⟩
  rw [m.trees]
  refine Calls.callWith_builtin rfl (Calls.evalArgs_plain (Calls.spliced_cons (thn (he.run pins s1 σ H1 _ I1 q1) fun iv s2 ⟨y, H2, I2, ry, z, o, ey, ⟨low, es, n, hl, hk, u, hn, ru⟩, q2⟩ => Calls.spliced_nil ?_)))
  subst ey
  obtain ⟨t, rfl⟩ := (show ∃ t, iv = Value.str z t from ry)
  have hm := PySem.W.mapOf_K (prog := X.prog) (w := X.w) I2.kIn hl hk
  refine call_meetsIn PySem.F.slot_dict_get hm.typeIs PySem.F.entry_dict_get (PySem.F.args_dict_get_2 _ _) (meets_dict_get (strKind X.prog X.w) p (strKind_is X.prog X.w z t) low) ⟨_, hm, ⟨_, H2, I2.tok _, ?_, q2⟩⟩
  rw [PySem.W.find_K hl hn]
  exact ru.getD rfl
theorem pg_star {e1 e2 : Expr} {k : Nat} {pos p2 : Pos} {t1 t2 : TG} (K : PySem.W.Frag) (hc : X.calm = true) (h1 : PG X e1 t1) (h2 : PG X e2 t2) (hK : X.K = K := by rfl) (hn : (assignEach [e1, .Starred e2 p2] X.env).length = 2 := by rfl) (hst : (assignEach [e1, .Starred e2 p2] X.env).findIdx? (·.1) = some 1 := by rfl)
    (hm : (assignEach [e1, .Starred e2 p2] X.env).map (·.2) = [assign e1 X.env, assign e2 X.env] := by rfl) (hm1 : (assignEach [e1, e2] X.env).map (·.2) = [assign e1 X.env, assign e2 X.env] := by rfl)
    (hm2 : (assignEach [e1, e2] X.env).map (·.2) = assign e1 X.env :: (assignEach [e2] X.env).map (·.2) := by rfl) (hm3 : (assignEach [e2] X.env).map (·.2) = assign e2 X.env :: (assignEach [] X.env).map (·.2) := by rfl) : PG X (.Tuple [e1, .Starred e2 p2] k pos) (gStar K t1 t2) := by
  subst hK
  refine ⟨fun pins s σ H v u Q I r h => ?_⟩
  obtain ⟨a, x, xs, e, hq, few, h⟩ := h
  subst e
  cases r
  obtain ⟨its, rv, pl, hz⟩ := I.list hq
  rw [assign_Tuple]
  refine wpAny_bind (wpAny_standAt ?_)
  unfold unpack
  rw [hn, hst]
  have hl := pl.isList
  obtain ⟨ol, at_l, cl_l, nl, d_l⟩ := id hl
  have lt := Heap.lt_size at_l
  have ne : a ≠ s.heap.objs.size := Nat.ne_of_lt lt
  cases rv with
  | @cons _ u0 _ us r0 rs =>
    have size : (u0 :: us).toArray.size = us.length + 1 := by simp
    have len : us.length = xs.length := rs.length.symm
    refine wpAny_bind (wpAny_holding ?_)
    unfold unpackItems
    refine wpAny_bind ?_
    unfold notIterableAtAll
    refine wpAny_bind (wpAny_specialOf hl.typeIs slot_list_iter.lookup (wpAny_pure ?_))
    simp only [Bool.false_eq_true, if_false]
    refine wpAny_bind (wpAny_holding (wpAny_pyIter_list hl (wpAny_bind (wpAny_holding (PySem.W.kun_draw ne 1 0 _ _ ⟨_, Heap.get?_push_size _ rfl, rfl, rfl⟩ (hl.push _) (by rw [size]; omega) fun h1' it1 but1 => ?_)))))
    have hl1 : h1'.IsList a (u0 :: us).toArray := (hl.push _).extBut but1.extBut ne
    obtain ⟨oi, at_i, _⟩ := id it1
    obtain ⟨ol1, at_l1, _⟩ := id hl1
    rw [List.drop_zero]
    show wpAny _ _ (if ([u0] : List Value).length < 1 then _ else _) _ _ _
    rw [if_neg (show ¬ ([u0] : List Value).length < 1 by simp)]
    refine wpAny_bind (wpAny_holding (PySem.W.kun_collect (s := { s with heap := h1' }) (T := "list_iterator") (.inr (.inr (.inl rfl))) (Walks.list (A := X.A.in1) (I.ok.hd hc) s.heap.objs.size a ne (u0 :: us).toArray) (fun j u st => st.1.typeIs) (k := 1) (by rw [size]; omega) ⟨it1, hl1⟩ (Heap.lt_size at_i) (Heap.lt_size at_l1) (fun h2' tk keep => ?_) (by rw [size, len, sizeLine_eq]; omega)))
    show wpAny _ _ (if us.length < 2 - 1 - 1 then _ else _) _ _ _
    rw [if_neg (by omega)]
    show wpAny _ _ (newList (us.take (us.length - (2 - 1 - 1))) >>= fun d => pure ([u0] ++ [d] ++ us.drop (us.length - (2 - 1 - 1)))) _ _ _
    rw [show us.length - (2 - 1 - 1) = us.length by omega, List.take_length, List.drop_length]
    refine wpAny_bind (wpAny_newList ?_ (by rw [len, sizeLine_eq]; omega))
    refine wpAny_pure ?_
    show wpAny _ _ (assignInOrder ((assignEach [e1, .Starred e2 p2] X.env).map (·.2)) [u0, .ref h2'.objs.size]) _ _ _
    rw [hm, ← hm1]
    have old : ∀ b o, s.heap.get? b = some o → h2'.get? b = some o := fun b o e => keep b o (Nat.ne_of_lt (Heap.lt_size e)) (but1.extBut b o (Nat.ne_of_lt (Heap.lt_size e)) (Heap.get?_push_of_some _ e))
    have gone : s.heap.get? h2'.objs.size = none := by
      cases z : s.heap.get? h2'.objs.size with
      | none => rfl
      | some o => exact absurd (Heap.lt_size (old _ _ z)) (Nat.lt_irrefl _)
    have free : H h2'.objs.size = none := (I.hok.kept old).fresh (Nat.le_refl _)
    have J : Inv X pins σ (upd H h2'.objs.size (.lst xs)) { s with heap := h2'.push { cls := .type "list", data := .seq us.toArray }, toks := tk } :=
      L2.Inv.laidN (t' := tk) I (fun b o e => Heap.get?_push_of_some _ (old b o e)) gone free ⟨by rw [sizeLine_eq]; omega, us, 0, rs, Heap.get?_push_size _ rfl⟩
    exact (pgs_cons h1 (pgs_cons h2 pgs_nil hm3) hm2).run pins _ σ _ [x, .ref h2'.objs.size] [u0, .ref h2'.objs.size] Q J (.cons r0 (.cons rfl .nil)) (h _ free)
end
end Q
namespace Q
open PySem PySem.Spec PyProof.Rows L2
/-- the scope of the comprehension in a last row  return x.join(xs + [..]) -/
def retScJ (s : Stmt) : Scope := match (defBody s).getLast? with
  | some (.Return (some (.Call _ (.BinOp _ _ e _ :: _) _ _)) _) => relOf (defScope s) (scpOf e)
  | _ => ⟨.function, [], false, false, []⟩
theorem kAll {X : Cx} (K : PySem.W.Frag) (hc : X.calm = true) (hK : X.K = K := by rfl) : CallR X (.builtin "all") (rAll K) := hK ▸ cr_all hc
theorem keysLit3 {P : Params} {e1 e2 e3 : DictEntry} {x1 x2 x3 : Str} {t1 t2 t3 : Tok} (h1 : e1.key = .str x1 t1 ∧ e1.hash = PyData.keyHash P x1 := by exact ⟨rfl, rfl⟩) (h2 : e2.key = .str x2 t2 ∧ e2.hash = PyData.keyHash P x2 := by exact ⟨rfl, rfl⟩) (h3 : e3.key = .str x3 t3 ∧ e3.hash = PyData.keyHash P x3 := by exact ⟨rfl, rfl⟩) : PySem.W.KeysLit P [e1, e2, e3] :=
  ⟨⟨_, _, h1⟩, ⟨_, _, h2⟩, ⟨_, _, h3⟩, trivial⟩
end Q

/-! what the rules for texts give -/
namespace Q
open PySem PySem.Spec PyProof.Rows L2
theorem lc_str {z : Str} {g : TG} {tt : TT} {te : TE} {vs : List Nat} {σ : L2.St} {H1 : Hp} {D : Addr} {Qd : Hp → Prop} (Pv : Nat → Hp → Prop) (h0 : Pv 0 (upd H1 D (.lst [])))
    (hs : ∀ (i c : Nat) H, z.cps[i]? = some c → Pv i H → g (.str ⟨#[c]⟩) (wipe σ vs) H fun σ2 H2 => wipe σ2 vs = wipe σ vs ∧ tt σ2 H2 fun b H3 =>
      if b = true then te σ2 H3 fun y H4 => ∃ acc, H4 D = some (.lst acc) ∧ acc.length < sizeLine ∧ Pv (i + 1) (upd H4 D (.lst (acc ++ [y]))) else Pv (i + 1) H3) (hd : ∀ H, Pv z.cps.size H → Qd H) :
    ∃ W : Nat → Nat → Hp → Prop, (∃ m, W 0 m (upd H1 D (.lst []))) ∧ ∀ i m H, W i m H →
      ((Its z).stop i H ∧ Qd H) ∨ ((Its z).go i H ∧ ∃ Nx : Hp → Prop, (∀ H', Nx H' → ∃ m', m' < m ∧ W (i + 1) m' H') ∧ ∀ x H', (Its z).yld i H x H' → g x (wipe σ vs) H' fun σ2 H2 => wipe σ2 vs = wipe σ vs ∧ tt σ2 H2 fun b H3 =>
        if b = true then te σ2 H3 fun y H4 => ∃ acc, H4 D = some (.lst acc) ∧ acc.length < sizeLine ∧ Nx (upd H4 D (.lst (acc ++ [y]))) else Nx H3) := by
  refine ⟨fun i m H => m = z.cps.size - i ∧ i ≤ z.cps.size ∧ Pv i H, ⟨z.cps.size, by simp, Nat.zero_le _, h0⟩, fun i m H t => ?_⟩
  obtain ⟨rfl, le, p⟩ := t
  rcases Nat.lt_or_ge i z.cps.size with lt | ge
  · refine .inr ⟨lt, Pv (i + 1), fun H' p' => ⟨z.cps.size - (i + 1), by omega, rfl, lt, p'⟩, fun x H' y => ?_⟩
    obtain ⟨rfl, c, hc, rfl⟩ := y
    exact hs i c _ hc p
  · obtain rfl : i = z.cps.size := by omega
    exact .inl ⟨Nat.le_refl _, hd H p⟩
section
variable {F : Fr} {K : PySem.W.Frag} {w : World} {σ : L2.St} {W W1 : Wd F} {ta tb tc te tl : TE} {tt : TT} {α β γ : Type} {r : Rp α} {s : Rp β} {t : Rp γ} {D : Ends} {tz : TS}
theorem ev_catS {a b : Str} (ha : EvR ta σ W rStr a) (hb : EvR tb σ W rStr b) (hz : a.length + b.length ≤ 100000) : EvR (tOp oAddA ta tb) σ W rStr (a ++ b) :=
  ev_op ha hb fun W1 v u Q l hv hu q => .inr (.inr ⟨a, b, hv, hu, Nat.le_trans hz (by decide), q _ W1 (Le.refl _) rfl⟩)
theorem ev_lenS {z : Str} (ha : EvR ta σ W rStr z) (hz : z.length ≤ 100000) : EvR (tCB rLenS (tCons ta tNil)) σ W rInt ((z.length : Nat) : Int) := fun W1 l Q q => ha W1 l _ fun v W2 l2 hv => ⟨z, by rw [show v = .str z from hv], Nat.le_trans hz (by decide), q _ W2 l2 rfl⟩
theorem ev_strI {i : Int} (ha : EvR ta σ W rInt i) (hz : i.natAbs < 10 ^ 9) : EvR (tCB rStrI (tCons ta tNil)) σ W rStr (numS i) := fun W1 l Q q => ha W1 l _ fun v W2 l2 hv => ⟨i, by rw [show v = .int i from hv], log_small hz, q _ W2 l2 rfl⟩
theorem ev_intS {a : Str} {n : Int} (ha : EvR ta σ W rStr a) (h : PySem.intText? a = some n) (hz : a.length ≤ 640) : EvR (tCB rIntS (tCons ta tNil)) σ W rInt n := fun W1 l Q q => ha W1 l _ fun v W2 l2 hv => ⟨a, n, by rw [show v = .str a from hv], h, hz, q _ W2 l2 rfl⟩
theorem ev_join {a : Str} {ys : List Str} (ha : EvR ta σ W rStr a) (hb : EvR tb σ W (rList rStr) ys) (hz : (ys.map (·.length)).sum + ys.length * a.length ≤ 16777216) : EvR (tM1 (rJoinS K) ta tb) σ W rStr (Str.join a ys) := fun W1 l Q q =>
  ha W1 l _ fun v W2 l2 hv => ⟨⟨a, hv⟩, hb W2 (l.trans l2) _ fun u W3 l3 hu => by
    obtain ⟨p, vs, rfl, h1, h2⟩ := hu
    have e := all2_strsT h2
    subst e
    exact ⟨a, p, ys, hv, rfl, .inl (sqL_of W3.gh h1), hz, q _ W3 (l2.trans l3) (by rw [TL.join_eq]; rfl)⟩⟩
theorem strs_all2 {G : Hp} : ∀ ys : List Str, All2 (rStr.rel G) (ys.map V.str) ys
  | [] => All2.nil
  | y :: ys => All2.cons rfl (strs_all2 ys)
theorem eo_split {a b : Str} (ha : EvR ta σ W rStr a) (hb : EvR tb σ W rStr b) (ne : (b.length == 0) = false) (hz : a.length ≤ 100000) : EvO (tM1 rSplitS ta tb) σ W rStr (Txt.split a b) := fun W1 l Q q =>
  ha W1 l _ fun v W2 l2 hv => ⟨⟨a, hv⟩, hb W2 (l.trans l2) _ fun u W3 l3 hu => ⟨a, b, hv, by rw [show u = .str b from hu], ne, Nat.le_trans (show a.length + 2 ≤ 100002 by omega) (by decide), fun p hp =>
    q p _ (W3.own p _ hp) ((l2.trans l3).trans (W3.own_le hp)) (le_fresh (l2.trans l3) hp) (W3.own_at hp) (strs_all2 _)⟩⟩
theorem ev_inSign {c : Nat} {z : Str} (ha : EvR ta σ W rStr (signS c)) (hb : EvR tb σ W rStr z) : EvR (tOp oInSign ta tb) σ W rBool (decide (c ∈ TL.tl z)) :=
  ev_op ha hb fun W1 v u Q l hv hu q => ⟨c, z, hv, hu, q _ W1 (Le.refl _) rfl⟩
theorem ev_ixS {z : Str} {i : Int} {c : Nat} (ha : EvR ta σ W rStr z) (hb : EvR tb σ W rInt i) (hz : z.length ≤ 100000) (h : atI (TL.tl z) i = some c) : EvR (tOp (rIx K) ta tb) σ W rStr (signS c) :=
  ev_op ha hb fun W1 v u Q l hv hu q => .inr (.inr ⟨z, i, c, hv, hu, Nat.le_trans hz (by decide), h, q _ W1 (Le.refl _) rfl⟩)
theorem all2_bools {vs : List V} {bs : List Bool} (h : All2 (fun v (b : Bool) => v = V.bl b) vs bs) : vs = bs.map V.bl := by
  apply List.ext_getElem?
  intro i
  rw [List.getElem?_map]
  cases e : bs[i]? with
  | none => exact List.getElem?_eq_none (by rw [h.1]; exact List.getElem?_eq_none_iff.mp e)
  | some x =>
    obtain ⟨v, h1, h2⟩ := h.2 i x e
    rw [h1, h2]; rfl
theorem ev_allB {bs : List Bool} (ha : EvR ta σ W (rList rBool) bs) : EvR (tCB (rAll K) (tCons ta tNil)) σ W rBool (bs.all id) := fun W1 l Q q => ha W1 l _ fun v W2 l2 hv => by
  obtain ⟨p, vs, rfl, h1, h2⟩ := hv
  have e := all2_bools h2
  subst e
  exact ⟨p, bs, rfl, sqL_of W2.gh h1, q _ W2 l2 rfl⟩
/-! f-strings exactly -/
theorem ev_fmtSX {x : Str} (h : EvR te σ W rStr x) (hz : x.length ≤ 1000) : EvR (tFmt te) σ W rStr x := fun W1 l Q q => h W1 l _ fun v W2 l2 hv => .inl ⟨x, hv, Nat.le_trans hz (by decide), q _ W2 l2 rfl⟩
theorem ev_fmtIX {x : Int} (h : EvR te σ W rInt x) (hz : x.natAbs < 10 ^ 9) : EvR (tFmt te) σ W rStr (numS x) := fun W1 l Q q => h W1 l _ fun v W2 l2 hv => .inr ⟨x, hv, log_small hz, q _ W2 l2 rfl⟩
inductive EvJx (σ : L2.St) (W : Wd F) : List TE → List Str → Prop
  | nil : EvJx σ W [] []
  | cons {te : TE} {ts : List TE} {x : Str} {xs : List Str} (h : EvR te σ W rStr x) (r : EvJx σ W ts xs) : EvJx σ W (te :: ts) (x :: xs)
theorem ev_jx {ts : List TE} {xs : List Str} (h : EvJx σ W ts xs) : ∀ (acc : Str), acc.length + (xs.map (·.length)).sum ≤ 100000 → ∀ W1 : Wd F, Le W W1 → ∀ Q : Str → Hp → Prop, (∀ (W2 : Wd F), Le W1 W2 → Q (xs.foldl (· ++ ·) acc) W2.H) → tJs ts acc σ W1.H Q := by
  induction h with
  | nil => exact fun acc _ W1 l Q q => q W1 (Le.refl _)
  | @cons te ts x xs h r ih =>
    intro acc ha W1 l Q q
    rw [List.map_cons, List.sum_cons] at ha
    refine h W1 l _ fun v W2 l2 hv => ⟨x, hv, ?_, ?_⟩
    · rw [strLen_append]; exact Nat.le_trans (show acc.length + x.length ≤ 100000 by omega) (by decide)
    · exact ih (acc ++ x) (by rw [strLen_append]; omega) W2 (l.trans l2) Q fun W3 l3 => q W3 (l2.trans l3)
theorem ev_joinedX {ts : List TE} {xs : List Str} (h : EvJx σ W ts xs) (hn : (xs.map (·.length)).sum ≤ 100000) : EvR (fun σ H Q => tJs ts Str.empty σ H fun out H1 => Q (.str out) H1) σ W rStr (xs.foldl (· ++ ·) Str.empty) := fun W1 l Q q => ev_jx h Str.empty (by show 0 + _ ≤ _; omega) W1 l _ fun W2 l2 => q _ W2 l2 rfl
/-- a comprehension over a text's signs -/
theorem eo_lcS {z : Str} {j : Nat} {ws : List Nat} (f : Nat → Bool) (g : Nat → β) (h : EvR tl σ W rStr z) (hz : z.length ≤ 100000) (hw : ∀ x, wipe ((wipe σ ws).set j (some x)) ws = wipe σ ws)
    (c1 : ∀ (c : Nat) (W1 : Wd F), Le W W1 → c ∈ TL.tl z → EvB tt ((wipe σ ws).set j (some (.str (signS c)))) W1 (f c)) (c2 : ∀ (c : Nat) (W1 : Wd F), Le W W1 → c ∈ TL.tl z → f c = true → EvR te ((wipe σ ws).set j (some (.str (signS c)))) W1 s (g c)) :
    EvO (tLc (iStr tl) (gName j) tt te ws) σ W s (((TL.tl z).filter f).map g) := fun W1 l Q q => by
  refine h W1 l _ fun v W2 l2 hv => ?_
  have size : (TL.tl z).length = z.cps.size := Array.length_toList
  have len : z.cps.size ≤ 100000 := hz
  refine ⟨z, hv, fun p hp => lc_str (Acc W2 p s (fun x o => o = if f x then some (g x) else none) (TL.tl z)) ⟨W2.own p _ hp, [], rfl, W2.own_le hp, ⟨[], W2.own_at hp, All2.nil⟩, Nat.le_refl _, [], by simp, fun i x o hx => by simp at hx, rfl⟩ ?_ ?_⟩
  · rintro i c _ hc ⟨W3, zs, rfl, l3, o, hzs, hl⟩
    have hx : (TL.tl z)[i]? = some c := by rw [Array.getElem?_toList]; exact hc
    have hi := (List.getElem?_eq_some_iff.mp hx).1
    have cm := List.mem_of_getElem? hx
    exact ⟨hw _, acc_turn hp l3 o hzs (by omega) hl hx (EvC.mk (c1 c W2 (l.trans l2) cm) (c2 c W2 (l.trans l2) cm))⟩
  · rintro _ ⟨W3, zs, rfl, l3, o, hzs, hl⟩
    rw [← size, List.take_length] at hl
    obtain ⟨ys, o1, o2⟩ := o.ex
    exact q p ys W3 (l2.trans l3) (le_fresh l2 hp) o1 (lcr_fm hl ▸ o2)
theorem ev_kget {p : Addr} {z : Str} {o : Option V} (h1 : EvR ta σ W (⟨fun _ v _ => v = .ref p, fun _ h => h⟩ : Rp Unit) ()) (h2 : EvR tb σ W rStr z) (kg : KGet K w p z o) (x : β) (hx : ∀ G, s.rel G (o.getD .non) x) : EvR (tKGet K w ta tb) σ W s x := fun W1 l Q q =>
  h1 W1 l _ fun v W2 l2 hv => ⟨p, hv, ⟨z, o, kg⟩, h2 W2 (l.trans l2) _ fun u W3 l3 hu => ⟨z, o, hu, kg, q _ W3 (l2.trans l3) (hx _)⟩⟩
/-- w, *xs = a list -/
theorem g_star {i j : Nat} {v : V} {x : α} {xs : List α} {Q : L2.St → Hp → Prop} (hv : (rList r).rel W.G v (x :: xs)) (few : xs.length ≤ 16000)
    (k : ∀ u p (W1 : Wd F) vs, Le W W1 → W.H p = none → r.rel W1.G u x → Own W1 p (.lst vs) → All2 (r.rel W1.G) vs xs → Q ((σ.set i (some u)).set j (some (.ref p))) W1.H) : gStar K (gName i) (gName j) v σ W.H Q := by
  obtain ⟨a, vs, rfl, h1, h2⟩ := hv
  cases vs with
  | nil => have := h2.1; simp at this
  | cons u vs =>
    refine ⟨a, u, vs, rfl, sqL_of W.gh h1, by have := h2.1; simp at this; omega, fun p hp => ?_⟩
    have l := W.own_le (o := .lst vs) hp
    refine ⟨u, [.ref p], rfl, ⟨.ref p, [], rfl, ⟨rfl, ?_⟩⟩⟩
    exact k u p (W.own p _ hp) vs l hp (r.mono l.ex (h2.get (i := 0) rfl rfl)) (W.own_at hp) ((h2.drop 1).imp fun _ _ => r.mono l.ex)
end
end Q

/-! rows of words and numbers, as texts -/
namespace Q
open PySem PySem.Spec PyProof.Rows L2
theorem join_two (y a b : Str) (r : List Str) : Str.join y (a :: b :: r) = a ++ y ++ Str.join y (b :: r) := rfl
theorem cat_assoc (a b c : Str) : a ++ b ++ c = a ++ (b ++ c) := TL.ext_tl (by simp only [TL.tl_append, List.append_assoc])
theorem empty_cat (a : Str) : Str.empty ++ a = a := TL.ext_tl (by rw [TL.tl_append]; rfl)
def FIG : Str := "0123456789"
theorem tl_fig : TL.tl FIG = [48, 49, 50, 51, 52, 53, 54, 55, 56, 57] := by decide +kernel
theorem mem_fig {c : Nat} : c ∈ TL.tl FIG ↔ 48 ≤ c ∧ c ≤ 57 := by
  rw [tl_fig]
  simp only [List.mem_cons, List.not_mem_nil, or_false]
  omega
/-- a number's own text -/
def isNumM (z : Str) : Bool := decide (1 ≤ z.length ∧ z.length ≤ 7) && !(decide ((TL.tl z).head? = some 48) && !decide (z = ("0" : Str))) && (TL.tl z).all fun c => decide (c ∈ TL.tl FIG)
theorem tl_numS {k : Int} (h : 0 ≤ k) : TL.tl (numS k) = TL.numL k.toNat := by
  obtain ⟨n, rfl⟩ := Int.eq_ofNat_of_zero_le h
  exact TL.tl_num n
theorem numS_len {k : Int} (h : 0 ≤ k) (h2 : k ≤ 9999999) : 1 ≤ (numS k).length ∧ (numS k).length ≤ 7 := by
  rw [TL.len_tl, tl_numS h]
  exact ⟨List.length_pos_iff.mpr (TL.numL_ne _), TL.numL_len (by decide) (by show k.toNat < 10000000; omega)⟩
theorem numL_head : ∀ n : Nat, 1 ≤ n → ∃ c r, TL.numL n = c :: r ∧ c ≠ 48 := by
  intro n
  induction n using Nat.strongRecOn with
  | _ n ih =>
    intro h
    by_cases s : n < 10
    · exact ⟨48 + n, [], TL.numL_lt s, by omega⟩
    · obtain ⟨c, r, e, ne⟩ := ih (n / 10) (by omega) (by omega)
      exact ⟨c, r ++ [48 + n % 10], by rw [TL.numL_step (by omega), e]; rfl, ne⟩
theorem numS_zero : numS 0 = ("0" : Str) := by decide +kernel
theorem isNum_numS {k : Int} (h : 0 ≤ k) (h2 : k ≤ 9999999) : isNumM (numS k) = true := by
  have d : (TL.tl (numS k)).all (fun c => decide (c ∈ TL.tl FIG)) = true := List.all_eq_true.mpr fun c hc => by
    rw [tl_numS h] at hc
    have z := TL.numL_digits _ c hc
    exact decide_eq_true (mem_fig.mpr ⟨by omega, by omega⟩)
  have b : (decide ((TL.tl (numS k)).head? = some 48) && !decide (numS k = ("0" : Str))) = false := by
    by_cases z : k = 0
    · subst z
      rw [numS_zero, decide_eq_true rfl]
      simp
    · obtain ⟨c, r, e, ne⟩ := numL_head k.toNat (by omega)
      rw [tl_numS h, e]
      rw [decide_eq_false (show ¬ (c :: r).head? = some 48 from fun y => ne (Option.some.inj y))]
      rfl
  unfold isNumM
  rw [decide_eq_true (numS_len h h2), b, d]; rfl
theorem int_numS {k : Int} (h : 0 ≤ k) (h2 : k ≤ 9999999) : PySem.intText? (numS k) = some k := by
  have l := (numS_len h h2).2
  rw [TL.len_tl, tl_numS h] at l
  obtain ⟨n, rfl⟩ := Int.eq_ofNat_of_zero_le h
  exact TL.int_num (Nat.le_trans l (by decide))
theorem numS_free {k : Int} (h : 0 ≤ k) {s : Nat} (hs : s < 48 ∨ 57 < s) : s ∉ TL.tl (numS k) := by
  rw [tl_numS h]; exact TL.numL_free hs
/-- a row: its word, its numbers -/
abbrev RowT := Str × List Int
def wordsR (r : RowT) : List Str := r.1 :: r.2.map numS
def rowS (r : RowT) : Str := Str.join " " (wordsR r)
def textS (rs : List RowT) : Str := Str.join "\n" (rs.map rowS)
structure RowOk (r : RowT) : Prop where
  word : (r.1 = ("place" : Str) ∧ r.2.length = 1) ∨ (r.1 = ("source" : Str) ∧ r.2.length = 1) ∨ (r.1 = ("line" : Str) ∧ r.2.length = 3)
  nums : ∀ k ∈ r.2, 0 ≤ k ∧ k ≤ 9999999
theorem tl_sp : TL.tl (" " : Str) = [32] := by decide +kernel
theorem tl_nl : TL.tl ("\n" : Str) = [10] := by decide +kernel
theorem all_sp : (" " : Str).cps.all (· < 256) = true := by decide +kernel
theorem all_nl : ("\n" : Str).cps.all (· < 256) = true := by decide +kernel
theorem tl_place : TL.tl ("place" : Str) = [112, 108, 97, 99, 101] := by decide +kernel
theorem tl_source : TL.tl ("source" : Str) = [115, 111, 117, 114, 99, 101] := by decide +kernel
theorem tl_line : TL.tl ("line" : Str) = [108, 105, 110, 101] := by decide +kernel
theorem word_free {r : RowT} (h : RowOk r) : (32 ∉ TL.tl r.1 ∧ 10 ∉ TL.tl r.1) ∧ r.1.length ≤ 6 ∧ r.2.length ≤ 3 := by
  rw [TL.len_tl]
  rcases h.word with ⟨e, l⟩ | ⟨e, l⟩ | ⟨e, l⟩
  · rw [e, tl_place, l]; decide
  · rw [e, tl_source, l]; decide
  · rw [e, tl_line, l]; decide
theorem words_free {r : RowT} (h : RowOk r) {s : Nat} (hs : s = 32 ∨ s = 10) : ∀ p ∈ wordsR r, s ∉ TL.tl p := fun p hp => by
  rcases List.mem_cons.mp hp with e | hp
  · rw [e]
    rcases hs with z | z
    · rw [z]; exact (word_free h).1.1
    · rw [z]; exact (word_free h).1.2
  · obtain ⟨k, hk, rfl⟩ := List.mem_map.mp hp
    exact numS_free (h.nums k hk).1 (.inl (by omega))
theorem mem_joinL {S : List Nat} {c : Nat} : ∀ {ps : List (List Nat)}, c ∈ TL.joinL S ps → c ∈ S ∨ ∃ p ∈ ps, c ∈ p
  | [], h => by cases h
  | [p], h => .inr ⟨p, List.mem_singleton.mpr rfl, h⟩
  | p :: q :: r, h => by
    rcases List.mem_append.mp (show c ∈ p ++ (S ++ TL.joinL S (q :: r)) from h) with z | z
    · exact .inr ⟨p, List.mem_cons_self, z⟩
    · rcases List.mem_append.mp z with z | z
      · exact .inl z
      · rcases mem_joinL z with y | ⟨p', a, b⟩
        · exact .inl y
        · exact .inr ⟨p', List.mem_cons_of_mem _ a, b⟩
theorem row_free {r : RowT} (h : RowOk r) : 10 ∉ TL.tl (rowS r) := fun z => by
  unfold rowS at z
  rw [TL.tl_join, tl_sp] at z
  rcases mem_joinL z with y | ⟨p, hp, hc⟩
  · simp at y
  · obtain ⟨q, hq, rfl⟩ := List.mem_map.mp hp
    exact words_free h (.inr rfl) q hq hc
theorem split_row {r : RowT} (h : RowOk r) : Txt.split (rowS r) " " = wordsR r := by
  have e := TL.split_join (y := (" " : Str)) tl_sp all_sp (parts := wordsR r) (by simp [wordsR]) fun p hp => words_free h (.inl rfl) p hp
  rw [TL.join_eq] at e
  exact e
theorem split_text {rs : List RowT} (ne : rs ≠ []) (h : ∀ r ∈ rs, RowOk r) : Txt.split (textS rs) "\n" = rs.map rowS := by
  have e := TL.split_join (y := ("\n" : Str)) tl_nl all_nl (parts := rs.map rowS) (by simpa using ne) fun p hp => by
    obtain ⟨r, hr, rfl⟩ := List.mem_map.mp hp
    exact row_free (h r hr)
  rw [TL.join_eq] at e
  exact e
theorem len_join (y : Str) : ∀ ps : List Str, (Str.join y ps).length ≤ (ps.map (·.length)).sum + ps.length * y.length
  | [] => by show 0 ≤ _; omega
  | [p] => by show p.length ≤ p.length + 0 + 1 * y.length; omega
  | p :: q :: r => by
    have ih := len_join y (q :: r)
    rw [join_two, strLen_append, strLen_append, List.map_cons, List.sum_cons, List.length_cons, Nat.add_mul]
    omega
theorem sum_le {xs : List Nat} {m : Nat} (h : ∀ x ∈ xs, x ≤ m) : xs.sum ≤ xs.length * m := by
  induction xs with
  | nil => simp
  | cons x xs ih =>
    have a := h x List.mem_cons_self
    have b := ih fun y hy => h y (List.mem_cons_of_mem _ hy)
    rw [List.sum_cons, List.length_cons, Nat.add_mul]
    omega
theorem words_len {r : RowT} (h : RowOk r) : ((wordsR r).map (·.length)).sum ≤ 27 ∧ (wordsR r).length ≤ 4 := by
  have a := word_free h
  have l : (wordsR r).length = r.2.length + 1 := by simp [wordsR]
  have b := sum_le (xs := (r.2.map numS).map (·.length)) (m := 7) fun x hx => by
    rw [List.map_map] at hx
    obtain ⟨k, hk, rfl⟩ := List.mem_map.mp hx
    exact (numS_len (h.nums k hk).1 (h.nums k hk).2).2
  rw [List.length_map, List.length_map] at b
  refine ⟨?_, by omega⟩
  show r.1.length + ((r.2.map numS).map (·.length)).sum ≤ 27
  have := Nat.mul_le_mul_right 7 a.2.2
  omega
theorem row_len {r : RowT} (h : RowOk r) : (rowS r).length ≤ 31 := by
  have a := len_join " " (wordsR r)
  have b := words_len h
  have c : (" " : Str).length = 1 := by decide +kernel
  rw [c] at a
  unfold rowS
  omega
theorem text_len {rs : List RowT} (h : ∀ r ∈ rs, RowOk r) : (textS rs).length ≤ rs.length * 32 := by
  have a := len_join "\n" (rs.map rowS)
  have b := sum_le (xs := (rs.map rowS).map (·.length)) (m := 31) fun x hx => by
    rw [List.map_map] at hx
    obtain ⟨r, hr, rfl⟩ := List.mem_map.mp hx
    exact row_len (h r hr)
  have c : ("\n" : Str).length = 1 := by decide +kernel
  rw [c] at a
  rw [List.length_map] at a
  rw [List.length_map, List.length_map] at b
  unfold textS
  omega
/-! the program's and the law's ways to write a row -/
theorem row_one (w : Str) (k : Int) : [w, (" " : Str), numS k].foldl (· ++ ·) Str.empty = rowS (w, [k]) := by
  show Str.empty ++ w ++ " " ++ numS k = w ++ " " ++ numS k
  rw [empty_cat]
theorem row_three (a b c : Int) : [("line " : Str), numS a, (" " : Str), numS b, (" " : Str), numS c].foldl (· ++ ·) Str.empty = rowS ("line", [a, b, c]) := by
  show Str.empty ++ "line " ++ numS a ++ " " ++ numS b ++ " " ++ numS c = "line" ++ " " ++ (numS a ++ " " ++ (numS b ++ " " ++ numS c))
  have e : ("line " : Str) = "line" ++ " " := by decide +kernel
  rw [empty_cat, e]
  simp only [cat_assoc]
theorem law_place (k : Int) : ("place " : Str) ++ numS k = rowS ("place", [k]) := by
  have e : ("place " : Str) = "place" ++ " " := by decide +kernel
  rw [e]; rfl
theorem law_source (k : Int) : ("source " : Str) ++ numS k = rowS ("source", [k]) := by
  have e : ("source " : Str) = "source" ++ " " := by decide +kernel
  rw [e]; rfl
theorem law_line (a b c : Int) : ("line " : Str) ++ Str.join " " [numS a, numS b, numS c] = rowS ("line", [a, b, c]) := by
  have e : ("line " : Str) = "line" ++ " " := by decide +kernel
  rw [e]; rfl
end Q

/-! dicts whose keys are tuples of any depth: by one's own object's description (HO.ext) -/
namespace Q
open PySem PySem.Spec PyProof.Rows L2
/-- the tuple at b is the key k, wherever what G tells is held -/
def KeyAt (G : Hp) (k : NestedKey) (b : Addr) : Prop := ∀ (P : Program) (w : World) (H : Hp) (h : Heap), Ex G H → HOk P w H h → NestedIs h k (.ref b) ∧ k.depth ≤ 8
theorem KeyAt.up {G G' : Hp} {k : NestedKey} {b : Addr} (e : Ex G G') (h : KeyAt G k b) : KeyAt G' k b := fun P w H h' e2 ok => h P w H h' (e.trans e2) ok
abbrev NKV := List (NestedKey × Addr × V)
def KeysAt (G : Hp) (kvs : NKV) : Prop := ∀ x ∈ kvs, KeyAt G x.1 x.2.1
theorem KeysAt.up {G G' : Hp} {kvs : NKV} (e : Ex G G') (h : KeysAt G kvs) : KeysAt G' kvs := fun x hx => (h x hx).up e
theorem KeysAt.snoc {G : Hp} {kvs : NKV} {k : NestedKey} {b : Addr} {v : V} (h : KeysAt G kvs) (hk : KeyAt G k b) : KeysAt G (kvs ++ [(k, b, v)]) := fun x hx => by
  rcases List.mem_append.mp hx with z | z
  · exact h x z
  · rw [List.mem_singleton.mp z]; exact hk
def valN (kvs : NKV) (k : NestedKey) : Option V := (kvs.find? fun x => decide (x.1 = k)).map fun x => x.2.2
theorem valN_pos {p : NestedKey × Addr × V} {r : NKV} {k : NestedKey} (e : p.1 = k) : valN (p :: r) k = some p.2.2 := by simp [valN, List.find?_cons, e]
theorem valN_neg {p : NestedKey × Addr × V} {r : NKV} {k : NestedKey} (e : ¬ p.1 = k) : valN (p :: r) k = valN r k := by simp [valN, List.find?_cons, e]
abbrev NPair : NKV → List (NestedKey × Addr × Value) → Prop := Paired fun p q => p.1 = q.1 ∧ p.2.1 = q.2.1 ∧ RelV p.2.2 q.2.2
theorem NPair.val {kvs : NKV} {xs : List (NestedKey × Addr × Value)} (r : NPair kvs xs) (k : NestedKey) : RelO (valN kvs k) ((atKey xs k).map (·.2)) := by
  induction r with
  | nil => exact True.intro
  | @cons p q ps qs h t ih =>
    obtain ⟨h1, _, h2⟩ := h
    by_cases e : p.1 = k
    · have e' : q.1 = k := h1.symm.trans e
      have b : atKey (q :: qs) k = some q.2 := by simp [atKey, List.find?_cons, e']
      rw [valN_pos e, b]; exact h2
    · have e' : ¬ q.1 = k := fun z => e (h1.trans z)
      have b : atKey (q :: qs) k = atKey qs k := by simp [atKey, List.find?_cons, e']
      rw [valN_neg e, b]; exact ih
/-- what stands at such a dict's address -/
def DN (P : Program) (w : World) (a : Addr) (kvs : NKV) : Heap → Prop := fun h => kvs.length ≤ sizeLine ∧ (a == sysModules) = false ∧ ∃ xs : List (NestedKey × Addr × Value), NPair kvs xs ∧
  ∃ o es ep, h.get? a = some o ∧ o.ExactDict ∧ o.data = .dict es ep ∧ es.toList = xs.map (entryOfKey (nestedKind P w)) ∧ (xs.map (·.1)).Nodup
def dn (P : Program) (w : World) (a : Addr) (kvs : NKV) : HO := .ext (DN P w a kvs)
section
variable {P : Program} {w : World} {H : Hp} {h : Heap} {a : Addr} {kvs : NKV}
theorem dn_ok (z : DN P w a kvs h) : ObjOk P w H h a (dn P w a kvs) := by
  refine ⟨z, ?_, fun h1 h2 y k => ?_⟩
  · obtain ⟨_, _, xs, _, o, es, ep, e, _⟩ := z
    exact ⟨o, e⟩
  · obtain ⟨y1, y2, xs, r, o, es, ep, e, c⟩ := y
    exact ⟨y1, y2, xs, r, o, es, ep, k _ e, c⟩
theorem NPair.mem {xs : List (NestedKey × Addr × Value)} (r : NPair kvs xs) : ∀ x ∈ xs, ∃ y ∈ kvs, y.1 = x.1 ∧ y.2.1 = x.2.1 := by
  induction r with
  | nil => intro x hx; cases hx
  | @cons p q ps qs h t ih =>
    intro x hx
    rcases List.mem_cons.mp hx with e | hx
    · subst e; exact ⟨p, List.mem_cons_self, h.1, h.2.1⟩
    · obtain ⟨y, hy, e⟩ := ih x hx
      exact ⟨y, List.mem_cons_of_mem _ hy, e⟩
theorem dn_rd (ok : HOk P w H h) (e : H a = some (dn P w a kvs)) (ks : KeysAt H kvs) : kvs.length ≤ sizeLine ∧ (a == sysModules) = false ∧ ∃ xs, NPair kvs xs ∧ h.DictOfH (nestedKind P w) a xs := by
  obtain ⟨⟨z, y, xs, r, o, es, ep, h1, h2, h3, h4, h5⟩, _, _⟩ := (show ObjOk P w H h a (dn P w a kvs) from ok a _ e)
  refine ⟨z, y, xs, r, o, es, ep, h1, h2, h3, h4, fun x hx => ?_, h5⟩
  obtain ⟨y, hy, e1, e2⟩ := r.mem x hx
  rw [← e1, ← e2]
  exact ks y hy P w H h (Ex.refl _) ok
theorem dn_new (h : Heap) (hb : sysModules < h.objs.size) : ObjOk P w H (h.push { cls := .type "dict", data := .dict #[] }) h.objs.size (dn P w h.objs.size []) :=
  dn_ok ⟨Nat.zero_le _, beq_eq_false_iff_ne.mpr (Ne.symm (Nat.ne_of_lt hb)), [], .nil, _, #[], 0, Heap.get?_push_size _ rfl, ⟨rfl, rfl, rfl⟩, rfl, rfl, List.nodup_nil⟩
theorem nroom {A : Around} (hu : A.units + 64 < cLine) : (nestedKind P w).room A.in1 := by show A.units + 1 + 8 < cLine; omega
end
section
variable {X : Cx} {pins : List (Addr × Obj)} {σ : L2.St} {H : Hp} {s : Shared} {a b : Addr} {kvs : NKV} {k : NestedKey} {v : V} {u r : Value} {o : Option V} {A : Around} {E : Value → Shared → Prop}
theorem n_getItem {Q : Value → Shared → Prop} (hu : A.units + 64 < cLine) (I : Inv X pins σ H s) (e : H a = some (dn X.prog X.w a kvs)) (ks : KeysAt H kvs) (kb : KeyAt H k b) (l : valN kvs k = some v) (h : ∀ w' s', Inv X pins σ H s' → RelV v w' → Q w' s') :
    wpAny (model X.prog X.w) A (getItem (.ref a) (.ref b)) Q E s := by
  obtain ⟨z, hd, xs, rel, dd⟩ := dn_rd I.hok e ks
  obtain ⟨w', hw, rw'⟩ := RelO.some_of (v := v) (o := (atKey xs k).map (·.2)) (by rw [← l]; exact rel.val k)
  obtain ⟨p, hp, hp2⟩ := Option.map_eq_some_iff.mp hw
  refine wpAny_getItem_heap (nroom hu) (kb X.prog X.w _ _ (Ex.refl _) I.hok) dd hp ?_
  rw [hp2]
  exact h w' _ (I.tok _) rw'
theorem n_in {Q : Value → Shared → Prop} (hu : A.units + 64 < cLine) (I : Inv X pins σ H s) (e : H a = some (dn X.prog X.w a kvs)) (ks : KeysAt H kvs) (kb : KeyAt H k b) (h : ∀ s', Inv X pins σ H s' → Q (.bool (valN kvs k).isSome) s') :
    wpAny (model X.prog X.w) A (compareOp .In (.ref b) (.ref a)) Q E s := by
  obtain ⟨z, hd, xs, rel, dd⟩ := dn_rd I.hok e ks
  refine wpAny_in_heap (nroom hu) (kb X.prog X.w _ _ (Ex.refl _) I.hok) hd dd ?_
  have q := (rel.val k).isSome_eq
  rw [Option.isSome_map] at q
  rw [← q]
  exact h _ (I.tok _)
theorem n_notIn {Q : Value → Shared → Prop} (hu : A.units + 64 < cLine) (I : Inv X pins σ H s) (e : H a = some (dn X.prog X.w a kvs)) (ks : KeysAt H kvs) (kb : KeyAt H k b) (h : ∀ s', Inv X pins σ H s' → Q (.bool (!(valN kvs k).isSome)) s') :
    wpAny (model X.prog X.w) A (compareOp .NotIn (.ref b) (.ref a)) Q E s := by
  obtain ⟨z, hd, xs, rel, dd⟩ := dn_rd I.hok e ks
  refine wpAny_notIn_heap (nroom hu) (kb X.prog X.w _ _ (Ex.refl _) I.hok) hd dd ?_
  have q := (rel.val k).isSome_eq
  rw [Option.isSome_map] at q
  rw [← q]
  exact h _ (I.tok _)
theorem n_written {h' : Heap} {t' : Nat} {xs : List (NestedKey × Addr × Value)} (I : Inv X pins σ H s) (e : H a = some (dn X.prog X.w a kvs)) (hd : (a == sysModules) = false) (hl : kvs.length < sizeLine) (rel : NPair kvs xs) (n : valN kvs k = none) (rv : RelV v r)
    (dd' : h'.DictOfH (nestedKind X.prog X.w) a (storedH xs k b r)) (hs : Heap.SameBut a s.heap h') : Inv X pins σ (upd H a (dn X.prog X.w a (kvs ++ [(k, b, v)]))) { s with heap := h', toks := t' } := by
  have nk : atKey xs k = none := by
    have q := (rel.val k).isSome_eq
    rw [n, Option.isSome_map] at q
    cases z : atKey xs k with
    | none => rfl
    | some p => rw [z] at q; cases q
  rw [storedH_new nk] at dd'
  obtain ⟨q, es, ep, hq, h2, h3, h4, _, h5⟩ := dd'
  refine d_write I (by rw [e]; exact True.intro) hs ⟨q, hq⟩ (dn_ok ⟨?_, hd, _, Paired.snoc rel ⟨rfl, rfl, rv⟩, q, es, ep, hq, h2, h3, h4, h5⟩)
  rw [List.length_append, List.length_singleton]
  exact hl
/-- d[k] = v, k new -/
theorem n_setItem {Q : Unit → Shared → Prop} (hu : A.units + 64 < cLine) (I : Inv X pins σ H s) (e : H a = some (dn X.prog X.w a kvs)) (ks : KeysAt H kvs) (kb : KeyAt H k b) (n : valN kvs k = none) (hl : kvs.length < sizeLine) (rv : RelV v r)
    (h : ∀ s', Inv X pins σ (upd H a (dn X.prog X.w a (kvs ++ [(k, b, v)]))) s' → Q () s') : wpAny (model X.prog X.w) A (setItem (.ref a) (.ref b) r) Q E s := by
  obtain ⟨z, hd, xs, rel, dd⟩ := dn_rd I.hok e ks
  have hz : xs.length ≤ sizeLine := by rw [← Paired.length rel]; exact z
  exact wpAny_setItem_heap (hsz := hz) (nroom hu) (kb X.prog X.w _ _ (Ex.refl _) I.hok) dd fun h' dd' hs => h _ (n_written I e hd hl rel n rv dd' hs)
end
/-! ### rules -/
def tNGet (P : Program) (w : World) (td ty : TE) : TE := fun σ H Q => td σ H fun x H1 => ty σ H1 fun y H2 => ∃ a b kvs k v, x = .ref a ∧ y = .ref b ∧ H2 a = some (dn P w a kvs) ∧ KeysAt H2 kvs ∧ KeyAt H2 k b ∧ valN kvs k = some v ∧ Q v H2
def tNIn (P : Program) (w : World) (ty td : TE) : TE := fun σ H Q => ty σ H fun y H1 => td σ H1 fun x H2 => ∃ a b kvs k, x = .ref a ∧ y = .ref b ∧ H2 a = some (dn P w a kvs) ∧ KeysAt H2 kvs ∧ KeyAt H2 k b ∧ Q (.bl (valN kvs k).isSome) H2
def tNNotIn (P : Program) (w : World) (ty td : TE) : TE := fun σ H Q => ty σ H fun y H1 => td σ H1 fun x H2 => ∃ a b kvs k, x = .ref a ∧ y = .ref b ∧ H2 a = some (dn P w a kvs) ∧ KeysAt H2 kvs ∧ KeyAt H2 k b ∧ Q (.bl (!(valN kvs k).isSome)) H2
def sNPut (P : Program) (w : World) (td ty tv : TE) : TS := fun D σ H => tv σ H fun v H1 => td σ H1 fun x H2 => ty σ H2 fun y H3 => ∃ a b kvs k, x = .ref a ∧ y = .ref b ∧ H3 a = some (dn P w a kvs) ∧ KeysAt H3 kvs ∧ KeyAt H3 k b ∧ valN kvs k = none ∧ kvs.length < sizeLine ∧
  D.nx σ (upd H3 a (dn P w a (kvs ++ [(k, b, v)])))
def tNNew (P : Program) (w : World) : TE := fun _ H Q => ∀ p, H p = none → Q (.ref p) (upd H p (dn P w p []))
/-- {k: v} -/
def tNDisp (P : Program) (w : World) (tk tv : TE) : TE := fun σ H Q => ∀ p, H p = none → tk σ (upd H p (dn P w p [])) fun x H1 => tv σ H1 fun y H2 => ∃ b k, x = .ref b ∧ H2 p = some (dn P w p []) ∧ KeyAt H2 k b ∧ Q (.ref p) (upd H2 p (dn P w p [(k, b, y)]))
section
variable {X : Cx} {o i e value : Expr} {pos pos' tpos : Pos} {td ty tv tk : TE}
theorem pe_nget (hu : X.A.units + 64 < cLine) (ho : PE X o td) (hi : PE X i ty) (hs : NoSl i) : PE X (.Subscript o i pos) (tNGet X.prog X.w td ty) := by
  refine ⟨fun pins s σ H Q I h => ?_⟩
  refine subD_of PySem.F.slot_dict_getitem.lookup hs (thn (ho.run pins s σ H _ I h) fun u s1 ⟨x, H1, I1, rx, q1⟩ => thn (hi.run pins s1 σ H1 _ I1 q1) fun iv s2 ⟨y, H2, I2, ry, a, b, kvs, k, v, ex, ey, g1, g2, g3, g4, q2⟩ => ?_)
  subst ex ey
  obtain rfl : u = Value.ref a := rx
  obtain rfl : iv = Value.ref b := ry
  obtain ⟨_, _, xs, _, dd⟩ := dn_rd I2.hok g1 g2
  exact ⟨dd.typeIs, n_getItem hu I2 g1 g2 g3 g4 fun w' s3 I3 rw' => ⟨v, H2, I3, rw', q2⟩⟩
theorem pc_nin (hu : X.A.units + 64 < cLine) (hi : PE X i ty) (ho : PE X o td) : PC X .In i o (tNIn X.prog X.w ty td) := by
  refine ⟨fun pins s σ H Q I h => ?_⟩
  refine thn (hi.run pins s σ H _ I h) fun iv s1 ⟨y, H1, I1, ry, q1⟩ => thn (ho.run pins s1 σ H1 _ I1 q1) fun u s2 ⟨x, H2, I2, rx, a, b, kvs, k, ex, ey, g1, g2, g3, q2⟩ => ?_
  subst ex ey
  obtain rfl : u = Value.ref a := rx
  obtain rfl : iv = Value.ref b := ry
  exact n_in hu I2 g1 g2 g3 fun s3 I3 => ⟨.bl _, H2, I3, rfl, q2⟩
theorem pc_nnotin (hu : X.A.units + 64 < cLine) (hi : PE X i ty) (ho : PE X o td) : PC X .NotIn i o (tNNotIn X.prog X.w ty td) := by
  refine ⟨fun pins s σ H Q I h => ?_⟩
  refine thn (hi.run pins s σ H _ I h) fun iv s1 ⟨y, H1, I1, ry, q1⟩ => thn (ho.run pins s1 σ H1 _ I1 q1) fun u s2 ⟨x, H2, I2, rx, a, b, kvs, k, ex, ey, g1, g2, g3, q2⟩ => ?_
  subst ex ey
  obtain rfl : u = Value.ref a := rx
  obtain rfl : iv = Value.ref b := ry
  exact n_notIn hu I2 g1 g2 g3 fun s3 I3 => ⟨.bl _, H2, I3, rfl, q2⟩
theorem ps_nput (hu : X.A.units + 64 < cLine) (ho : PE X o td) (hi : PE X i ty) (hv : PE X value tv) (hs : swapsWith value (some (.Subscript o i pos')) pos.line X.env = pure false) :
    PS X (.Assign [.Subscript o i pos'] value pos) (sNPut X.prog X.w td ty tv) := by
  refine ⟨fun pins s σ H D I h => ?_⟩
  refine wpAny_Assign_Subscript (thn (hv.run pins s σ H _ I h) fun r s1 ⟨v, H1, I1, rv, q1⟩ => thn (ho.run pins s1 σ H1 _ I1 q1) fun u s2 ⟨x, H2, I2, rx, q2⟩ => thn (hi.run pins s2 σ H2 _ I2 q2) fun iv s3 ⟨y, H3, I3, ry, a, b, kvs, k, ex, ey, g1, g2, g3, g4, g5, q3⟩ => ?_) hs
  subst ex ey
  obtain rfl : u = Value.ref a := rx
  obtain rfl : iv = Value.ref b := ry
  exact n_setItem hu I3 g1 g2 g3 g4 g5 rv fun s4 I4 => ⟨σ, _, I4, q3⟩
theorem pe_nnew : PE X (.Dict [] [] pos) (tNNew X.prog X.w) := ⟨fun pins s σ H Q I h =>
  wpAny_Dict_empty ⟨.ref s.heap.objs.size, _, I.laid (a := s.heap.objs.size) (o := dn X.prog X.w s.heap.objs.size []) (t' := s.toks) (fun _ _ q => Heap.get?_push_of_some _ q) (Nat.le_refl _) (dn_new s.heap I.big), rfl, h _ (I.hok.fresh (Nat.le_refl _))⟩⟩
theorem pe_ndisp (hu : X.A.units + 64 < cLine) (hk : PE X i tk) (hv : PE X e tv) : PE X (.Dict [some i] [e] pos) (tNDisp X.prog X.w tk tv) := by
  refine ⟨fun pins s σ H Q I q => ?_⟩
  have hn := I.hok.fresh (Nat.le_refl s.heap.objs.size)
  have I1 := I.laid (a := s.heap.objs.size) (o := dn X.prog X.w s.heap.objs.size []) (h' := s.heap.push { cls := .type "dict", data := .dict #[] }) (t' := s.toks) (fun _ _ q => Heap.get?_push_of_some _ q) (Nat.le_refl _) (dn_new s.heap I.big)
  refine wpAny_Dict_any rfl rfl (fun z => nomatch z) (by show 1 ≤ 15; decide) ?_
  refine pairTrees_cons_walk (thn (hk.run pins _ σ _ _ I1 (q _ hn)) fun iv s2 ⟨x, H2, I2, rx, q2⟩ => thn (hv.run pins s2 σ H2 _ I2 q2) fun r s3 ⟨y, H3, I3, ry, b, k, ex, g1, g2, q3⟩ => pairTrees_nil_walk ?_)
  subst ex
  obtain rfl : iv = Value.ref b := rx
  have ks : KeysAt H3 [] := fun x hx => by cases hx
  obtain ⟨z, hd, xs, rel, dd⟩ := dn_rd I3.hok g1 ks
  cases rel
  refine wpAny_storeAllH (knd := nestedKind X.prog X.w) (by show X.A.units + 8 < cLine; omega) [(Value.ref b, r)] [(k, b, r)] [] s3 _ ⟨rfl, rfl, g2 X.prog X.w _ _ (Ex.refl _) I3.hok, trivial⟩ dd (by show 1 ≤ sizeLine; decide) fun h' tk dd' hs => ?_
  exact ⟨.ref s.heap.objs.size, _, n_written (t' := tk) (b := b) I3 g1 hd (by decide) .nil rfl ry dd' hs, rfl, q3⟩
end
end Q

/-! states as tuples, deeds -/
namespace Q
open PySem L2
abbrev StD := List Int × List Int
abbrev rSt : Rp StD := rT2 (rTup rInt) (rTup rInt)
abbrev rDd : Rp (Str × Int) := rT2 rStr rInt
def dropM (xs : List Int) (l : Int) : List Int := xs.filter fun x => !decide (x = l)
def addM (xs : List Int) (l : Int) : List Int := srt (xs ++ [l])
def deedsM (L : Nat) (st : StD) : List (Str × Int) := (st.1.map fun l => (("open" : Str), l)) ++ ((((rg L).filter fun l => !decide (l ∈ st.2)).filter fun l => !decide (l ∈ st.1)).map fun l => (("close" : Str), l)) ++ st.2.map fun l => (("mend" : Str), l)
def afterM (st : StD) (d : Str × Int) : StD := if d.1 = "open" then (dropM st.1 d.2, st.2) else if d.1 = "close" then (addM st.1 d.2, st.2) else if d.1 = "mend" then (st.1, dropM st.2 d.2) else (dropM st.1 d.2, addM st.2 d.2)
structure StFew (st : StD) : Prop where
  a : st.1.length ≤ 100
  b : st.2.length ≤ 100
theorem dropM_len {xs : List Int} {l : Int} : (dropM xs l).length ≤ xs.length := List.length_filter_le _ _
theorem addM_len {xs : List Int} {l : Int} : (addM xs l).length = xs.length + 1 := by unfold addM; rw [srt_len, List.length_append]; rfl
end Q

/-! fewer closed lines of a good state -/
namespace Q
open PySem L2
section
variable {n : Nat} {ls : List Ln} {needs ss S S' : List Int}
theorem sumAt_mono : ∀ {xs ys : List Int}, xs.Sublist ys → (∀ y ∈ ys, 0 ≤ needs.getD y.toNat 0) → sumAt needs xs ≤ sumAt needs ys
  | _, _, .slnil, _ => Int.le_refl _
  | _, _, .cons a h, k => by
    have := sumAt_mono h fun y hy => k y (.tail _ hy)
    have := k a (.head _)
    simp only [sumAt, List.map_cons, List.sum_cons] at *
    omega
  | _, _, .cons_cons a h, k => by
    have := sumAt_mono h fun y hy => k y (.tail _ hy)
    simp only [sumAt, List.map_cons, List.sum_cons] at *
    omega
theorem getD_nonneg (h : ∀ x ∈ needs, 0 ≤ x) (k : Nat) : 0 ≤ needs.getD k 0 := by
  rw [List.getD_eq_getElem?_getD]
  cases e : needs[k]? with
  | none => simp
  | some y => simp; exact h y (List.mem_of_getElem? e)
theorem led_sub (lk : LinesOk n ls) (nb : Nums ls.length S) (h : ∀ l ∈ S', l ∈ S) {b : Int} (hb : Pl n b) : (ledM n ls S' [b]).Sublist (ledM n ls S [b]) := by
  have m := led_mono lk nb (S := [b]) (fun s hs => by rw [List.mem_singleton.mp hs]; exact hb) h
  unfold ledM at m ⊢
  have : ((rg n).filter fun p => decide ((groupsM n ls S').getD p.toNat 0 ∈ [b].map fun b => (groupsM n ls S').getD b.toNat 0)) = (((rg n).filter fun p => decide ((groupsM n ls S).getD p.toNat 0 ∈ [b].map fun b => (groupsM n ls S).getD b.toNat 0))).filter fun p => decide ((groupsM n ls S').getD p.toNat 0 ∈ [b].map fun b => (groupsM n ls S').getD b.toNat 0) := by
    rw [List.filter_filter]
    refine List.filter_congr fun p hp => ?_
    by_cases z : (groupsM n ls S').getD p.toNat 0 ∈ [b].map fun b => (groupsM n ls S').getD b.toNat 0
    · have := (List.mem_filter.mp (m p (List.mem_filter.mpr ⟨hp, by simpa using z⟩))).2
      rw [this, decide_eq_true z]; rfl
    · rw [decide_eq_false z]; rfl
  rw [this]
  exact List.filter_sublist
theorem hasSrc_mono (lk : LinesOk n ls) (nb : Nums ls.length S) (h : ∀ l ∈ S', l ∈ S) {b : Int} (hb : Pl n b) (e : hasSrc n ls ss S' b = true) : hasSrc n ls ss S b = true := by
  unfold hasSrc at *
  have e : ((ledM n ls S' [b]).filter fun q => decide (q ∈ ss)) ≠ [] := by simpa using e
  have sub := (led_sub lk nb h hb).filter fun q => decide (q ∈ ss)
  have : ((ledM n ls S [b]).filter fun q => decide (q ∈ ss)) ≠ [] := fun z => by
    rw [z] at sub
    exact e (List.sublist_nil.mp sub)
  simpa using this
theorem bear_nonneg (hn : ∀ x ∈ needs, 0 ≤ x) {l : Int} : 0 ≤ bearM n ls needs ss S l := by
  have z : ∀ xs : List Int, 0 ≤ sumAt needs xs := fun xs => by
    have := sumAt_mono (needs := needs) (List.nil_sublist xs) fun y _ => getD_nonneg hn _
    simpa [sumAt] using this
  unfold bearM
  split
  · exact z _
  · split
    · exact z _
    · exact Int.le_refl _
theorem line_conn (g : Good n ls ss S) {l : Int} (hl : l ∈ S) : conn n ls S (lineAt ls l).1 (lineAt ls l).2.1 := by
  have hx := g.lk.l2 _ (lineAt_mem (g.nb l hl))
  obtain ⟨i, hi, e⟩ := List.getElem_of_mem hl
  have e : S[i]? = some l := e ▸ List.getElem?_eq_getElem hi
  refine conn_mono g.lk g.nb (S := S.take i ++ [l]) (fun x hx => ?_) hx.1 hx.2.1 ((conn_snoc hx.1 hx.2.1).mpr (.inr (.inl ⟨rfl, rfl⟩)))
  rcases List.mem_append.mp hx with h | h
  · exact List.mem_of_mem_take h
  · rw [List.mem_singleton.mp h]; exact hl
theorem bear_mono (g : Good n ls ss S) (hn : ∀ x ∈ needs, 0 ≤ x) (h : ∀ l ∈ S', l ∈ S) {l : Int} (hl : l ∈ S) : bearM n ls needs ss S' l ≤ bearM n ls needs ss S l := by
  have hx := g.lk.l2 _ (lineAt_mem (g.nb l hl))
  have pa : Pl n (lineAt ls l).1 := hx.1
  have pb : Pl n (lineAt ls l).2.1 := hx.2.1
  have nb := del1_nums (l := l) g.nb
  have hd : ∀ x ∈ del1 S' l, x ∈ del1 S l := fun x hx => mem_del1.mpr ⟨h x (mem_del1.mp hx).1, (mem_del1.mp hx).2⟩
  have le : ∀ {p : Int}, Pl n p → sumAt needs (ledM n ls (del1 S' l) [p]) ≤ sumAt needs (ledM n ls (del1 S l) [p]) := fun hp => sumAt_mono (led_sub g.lk nb hd hp) fun y _ => getD_nonneg hn _
  have join : conn n ls S (lineAt ls l).1 (lineAt ls l).2.1 := line_conn g hl
  unfold bearM
  by_cases b1 : hasSrc n ls ss (del1 S' l) (lineAt ls l).2.1 = true
  · rw [if_pos b1, if_pos (hasSrc_mono g.lk nb hd pb b1)]
    exact le pa
  · rw [if_neg b1]
    by_cases a1 : hasSrc n ls ss (del1 S' l) (lineAt ls l).1 = true
    · rw [if_pos a1]
      have a2 := hasSrc_mono g.lk nb hd pa a1
      have b2 : ¬ hasSrc n ls ss (del1 S l) (lineAt ls l).2.1 = true := fun z => by
        obtain ⟨s1, m1, c1⟩ := (hasSrc_iff g.hs).mp a2
        obtain ⟨s2, m2, c2⟩ := (hasSrc_iff g.hs).mp z
        have e : s1 = s2 := g.dup s1 m1 s2 m2 (((up_S g pa (g.hs s1 m1) c1).symm.trans join).trans (up_S g pb (g.hs s2 m2) c2))
        subst e
        exact g.ring l hl (c1.trans c2.symm)
      rw [if_neg b2, if_pos a2]
      exact le pb
    · rw [if_neg a1]
      exact bear_nonneg hn
/-- fewer closed lines of a good state are a good state -/
theorem why_fewer (g : Good n ls ss S) (sn : ss.Nodup) (hn : ∀ x ∈ needs, 0 ≤ x) (hw : whyM n ls needs ss S = "") (h : ∀ l ∈ S', l ∈ S) (nd : S'.Nodup) : whyM n ls needs ss S' = "" := by
  have nb' : Nums ls.length S' := nums_sub g.nb h
  have hd : ∀ {l x : Int}, x ∈ del1 S' l → x ∈ del1 S l := fun hx => mem_del1.mpr ⟨h _ (mem_del1.mp hx).1, (mem_del1.mp hx).2⟩
  have r : ringM n ls S' = false := by
    unfold ringM
    rw [List.any_eq_false]
    intro l hl z
    have hx := g.lk.l2 _ (lineAt_mem (nb' l hl))
    exact g.ring l (h l hl) (conn_mono g.lk (del1_nums g.nb) (fun x hx => hd hx) hx.1 hx.2.1 (of_decide_eq_true z))
  have d : dupM n ls ss S' = false := by
    unfold dupM
    rw [Bool.not_eq_false', decide_eq_true_eq]
    refine List.pairwise_map.mpr (sn.imp_of_mem fun {a b} ha hb ne z => ne (g.dup a ha b hb (conn_mono g.lk g.nb h (g.hs a ha) (g.hs b hb) z)))
  have o : overM n ls needs ss S' = [] := by
    have o1 : overM n ls needs ss S = [] := by
      unfold whyM at hw
      split at hw
      · exact absurd hw (by decide +kernel)
      · split at hw
        · exact absurd hw (by decide +kernel)
        · split at hw
          · exact absurd hw (by decide +kernel)
          · rename_i z; exact Classical.not_not.mp z
    unfold overM at *
    rw [List.filter_eq_nil_iff] at *
    intro l hl z
    have z := of_decide_eq_true z
    have := o1 l (h l hl)
    have b := bear_mono g hn h (h l hl)
    simp only [decide_eq_true_eq] at this
    omega
  unfold whyM
  rw [r, d, o]
  simp
end
end Q

/-! the desk as an object; defs that tell lists of one's own -/
namespace Q
open PySem PySem.Spec PyProof.Rows L2
def deskFs (vn vs : V) (p : Addr) : List (Str × V) := [("_net", vn), ("_state", vs), ("_deeds", .ref p)]
theorem df_net {vn vs : V} {p : Addr} : (deskFs vn vs p).lookup ("_net" : Str) = some vn := by
  unfold deskFs
  simp
theorem df_state {vn vs : V} {p : Addr} : (deskFs vn vs p).lookup ("_state" : Str) = some vs := by
  unfold deskFs
  rw [List.lookup_cons, show (("_state" : Str) == ("_net" : Str)) = false by decide +kernel]
  simp
theorem df_deeds {vn vs : V} {p : Addr} : (deskFs vn vs p).lookup ("_deeds" : Str) = some (.ref p) := by
  unfold deskFs
  rw [List.lookup_cons, show (("_deeds" : Str) == ("_net" : Str)) = false by decide +kernel]
  simp only []
  rw [List.lookup_cons, show (("_deeds" : Str) == ("_state" : Str)) = false by decide +kernel]
  simp
theorem df_none {vn vs : V} {p : Addr} {m : Str} (h1 : (m == ("_net" : Str)) = false) (h2 : (m == ("_state" : Str)) = false) (h3 : (m == ("_deeds" : Str)) = false) : (deskFs vn vs p).lookup m = none := by
  unfold deskFs
  simp [List.lookup_cons, h1, h2, h3]
theorem df_put {vn vs vs' : V} {p : Addr} : putF "_state" vs' (deskFs vn vs p) = deskFs vn vs' p := by
  unfold deskFs putF
  rw [if_neg (by decide +kernel)]
  unfold putF
  rw [if_pos rfl]
theorem df_new {vn vs : V} {p : Addr} : putF "_deeds" (.ref p) (putF "_state" vs (putF "_net" vn [])) = deskFs vn vs p := by
  have e1 : putF "_state" vs (putF "_net" vn []) = [(("_net" : Str), vn), (("_state" : Str), vs)] := by
    show putF "_state" vs [("_net", vn)] = _
    unfold putF
    rw [if_neg (by decide +kernel)]
    rfl
  rw [e1]
  unfold putF
  rw [if_neg (by decide +kernel)]
  unfold putF
  rw [if_neg (by decide +kernel)]
  rfl
abbrev LogD := List (Str × Int)
section
variable {F : Fr} {W W1 : Wd F} {C CN x p : Addr} {n : NetD} {st : StD} {log : LogD}
/-- a desk that is not frozen -/
structure DeskA (W : Wd F) (C CN x p : Addr) (n : NetD) (st : StD) (log : LogD) : Prop where
  ex : ∃ dx vn vs, At W x (.ins C dx (deskFs vn vs p)) ∧ (rNet CN).rel W.G vn n ∧ rSt.rel W.G vs st
  l : AtL W p rDd log
/-- a desk of one's own -/
structure DeskO (W : Wd F) (C CN x p : Addr) (n : NetD) (st : StD) (log : LogD) : Prop where
  ex : ∃ dx vn vs, Own W x (.ins C dx (deskFs vn vs p)) ∧ (rNet CN).rel W.G vn n ∧ rSt.rel W.G vs st
  l : OwnL W p rDd log
theorem DeskO.a (d : DeskO W C CN x p n st log) : DeskA W C CN x p n st log := by
  obtain ⟨dx, vn, vs, h1, h2, h3⟩ := d.ex
  exact ⟨⟨dx, vn, vs, h1.at', h2, h3⟩, d.l.atL⟩
theorem DeskA.up (l : Le W W1) (d : DeskA W C CN x p n st log) : DeskA W1 C CN x p n st log := by
  obtain ⟨dx, vn, vs, h1, h2, h3⟩ := d.ex
  exact ⟨⟨dx, vn, vs, h1.up l, Rp.up l.ex h2, Rp.up l.ex h3⟩, d.l.up l⟩
theorem DeskO.up (l : Le W W1) (d : DeskO W C CN x p n st log) : DeskO W1 C CN x p n st log := by
  obtain ⟨dx, vn, vs, h1, h2, h3⟩ := d.ex
  exact ⟨⟨dx, vn, vs, h1.up l, Rp.up l.ex h2, Rp.up l.ex h3⟩, d.l.up l⟩
theorem DeskO.ne (d : DeskO W C CN x p n st log) : x ≠ p := fun z => by
  obtain ⟨dx, vn, vs, h1, _⟩ := d.ex
  obtain ⟨ws, h2, _⟩ := d.l.ex
  subst z
  cases h1.h.symm.trans h2.h
theorem DeskO.kpS {S : Addr → Prop} (k : KpS S W W1) (nx : ¬ S x) (np : ¬ S p) (d : DeskO W C CN x p n st log) : DeskO W1 C CN x p n st log := by
  obtain ⟨dx, vn, vs, h1, h2, h3⟩ := d.ex
  obtain ⟨ws, h4, h5⟩ := d.l.ex
  exact ⟨⟨dx, vn, vs, k.kp _ _ nx h1, Rp.up k.ex h2, Rp.up k.ex h3⟩, ⟨ws, k.kp _ _ np h4, h5.imp fun _ _ => rDd.mono k.ex⟩⟩
theorem DeskO.kp {y : Addr} (k : Kp y W W1) (nx : x ≠ y) (np : p ≠ y) (d : DeskO W C CN x p n st log) : DeskO W1 C CN x p n st log :=
  d.kpS (S := (· = y)) (.of_kp k rfl) nx np
theorem DeskA.inp {gh : Ex W.G W.H} (d : DeskA W C CN x p n st log) : DeskA (Wd.in W.G W.H gh) C CN x p n st log := by
  obtain ⟨dx, vn, vs, h1, h2, h3⟩ := d.ex
  obtain ⟨ws, h4, h5⟩ := d.l.ex
  exact ⟨⟨dx, vn, vs, h1.inp, h2, h3⟩, ⟨ws, h4.inp, h5⟩⟩
/-- what a desk has -/
abbrev deskS (x p : Addr) : Addr → Prop := fun a => a = x ∨ a = p
theorem DeskO.ins {gh : Ex W.G W.H} (d : DeskO W C CN x p n st log) : DeskO (Wd.inS W.G W.H (deskS x p) gh) C CN x p n st log := by
  obtain ⟨dx, vn, vs, h1, h2, h3⟩ := d.ex
  obtain ⟨ws, h4, h5⟩ := d.l.ex
  exact ⟨⟨dx, vn, vs, Wd.inS_own (.inl rfl) h1.g h1.h, h2, h3⟩, ⟨ws, Wd.inS_own (.inr rfl) h4.g h4.h, h5⟩⟩
theorem DeskO.own (d : DeskO W C CN x p n st log) : ∀ a, deskS x p a → W.G a = none ∧ F.H0 a = none := by
  obtain ⟨dx, vn, vs, h1, h2, h3⟩ := d.ex
  obtain ⟨ws, h4, h5⟩ := d.l.ex
  rintro a (rfl | rfl)
  · exact ⟨h1.g, h1.z⟩
  · exact ⟨h4.g, h4.z⟩
theorem DeskO.ofS {S : Addr → Prop} {own : ∀ a, S a → W.G a = none ∧ F.H0 a = none} {W' : Wd (sF W.G W.H S)} (d : DeskO W' C CN x p n st log) : DeskO (W.backS own W') C CN x p n st log := by
  obtain ⟨dx, vn, vs, h1, h2, h3⟩ := d.ex
  obtain ⟨ws, h4, h5⟩ := d.l.ex
  exact ⟨⟨dx, vn, vs, h1.ofS, h2, h3⟩, ⟨ws, h4.ofS, h5⟩⟩
end
section
variable {F : Fr} {K : PySem.W.Frag} {σ : L2.St} {W W1 : Wd F} {ta tb te tc tl : TE} {tt : TT} {α β γ δ : Type} {r : Rp α} {s : Rp β} {t : Rp γ} {D : Ends} {tz : TS} {C CN x p : Addr} {n : NetD} {st : StD} {log : LogD}
/-- a def of two that tells a list of its caller's own -/
def FnO2 (r : Rp α) (s : Rp β) (t : Rp γ) (pre : α → β → Prop) (f : α → β → List γ) : Sp := fun vs H Q _ => ∃ G v w x y, vs = [v, w] ∧ Ex G H ∧ r.rel G v x ∧ s.rel G w y ∧ pre x y ∧ ∀ p (W : Wd (pF G H)), OwnL W p t (f x y) → Q (.ref p) W.H
theorem eo_callO2 {pre : α → β → Prop} {f : α → β → List γ} {E : XK} {x : α} {y : β} (ha : EvR ta σ W r x) (hb : EvR tb σ W s y) (hp : pre x y) : EvO (tCall (FnO2 r s t pre f) [] E (tCons ta (tCons tb tNil))) σ W t (f x y) := fun W1 l Q q =>
  ha W1 l _ fun v W2 l2 h1 => hb W2 (l.trans l2) _ fun w W3 l3 h2 => ⟨W3.G, v, w, x, y, rfl, W3.gh, Rp.up l3.ex h1, h2, hp, fun p W4 o => by
    obtain ⟨vs, o1, o2⟩ := o.ex
    exact q p vs (W3.back W4) ((l2.trans l3).trans (W3.back_le W4)) (le_fresh (l2.trans l3) (own_z o1)) o1.back o2⟩
theorem fnO2_fz {P : Program} {w : World} {K : PySem.W.Frag} {mg : Str → Option Value} {base : Heap} {CX : CXT} {k : Nat} {f : Addr} {fd : FuncData} {ps : List Str} {pre : α → β → Prop} {g : α → β → List γ} (h : FnOk P w K mg base CX k f fd ps (FnO2 r s t pre g)) : FnOk P w K mg base CX k f fd ps (Fn2 r s (rList t) pre g) :=
  ⟨fun vs H Q E z => by obtain ⟨G, v, w, x, y, rfl, gh, h1, h2, hp, k⟩ := z; exact h.len _ H Q E ⟨G, v, w, x, y, rfl, gh, h1, h2, hp, fun p W o => by
      obtain ⟨W1, e, _, hr⟩ := o.fz
      rw [← e]; exact k _ W1 hr⟩,
   fun A outer s H args us vs Q E hr e hb hv z => by
    obtain ⟨G, v, w, x, y, rfl, gh, h1, h2, hp, k⟩ := z
    exact h.run A outer s H args us _ Q E hr e hb hv ⟨G, v, w, x, y, rfl, gh, h1, h2, hp, fun p W o => by
      obtain ⟨W1, e, _, hr⟩ := o.fz
      rw [← e]; exact k _ W1 hr⟩⟩
/-- a method of the desk that tells a list of its caller's own and turns nothing -/
def SpDkO (C CN : Addr) (t : Rp γ) (pre : NetD → StD → Prop) (f : NetD → StD → LogD → List γ) : Sp := fun vs H Q _ => ∃ (G : Hp) (gh : Ex G H) (x p : Addr) (n : NetD) (st : StD) (log : LogD), vs = [.ref x] ∧ DeskA (Wd.in G H gh) C CN x p n st log ∧ pre n st ∧
  ∀ q (W : Wd (pF G H)), OwnL W q t (f n st log) → Q (.ref q) W.H
theorem eo_dk {m : Str} {pre : NetD → StD → Prop} {f : NetD → StD → LogD → List γ} {E : XK} {i : Nat} (h1 : (m == ("_net" : Str)) = false) (h2 : (m == ("_state" : Str)) = false) (h3 : (m == ("_deeds" : Str)) = false) (hi : σ[i]? = some (some (.ref x))) (d : DeskA W C CN x p n st log) (hp : pre n st) :
    EvO (tMeth C m (SpDkO C CN t pre f) [] E (tVar i) tNil) σ W t (f n st log) := fun W1 l Q q => by
  have d1 := d.up l
  obtain ⟨dx, vn, vs, g1, g2, g3⟩ := d1.ex
  exact ⟨_, hi, x, dx, _, rfl, g1.h, df_none h1 h2 h3, W1.G, W1.gh, x, p, n, st, log, rfl, d1.inp, hp, fun z W3 o => by
    obtain ⟨vs, o1, o2⟩ := o.ex
    exact q z vs (W1.back W3) (W1.back_le W3) (own_z o1) o1.back o2⟩
end
section
variable {F : Fr} {K : PySem.W.Frag} {σ : L2.St} {W W1 : Wd F} {ta tb tc te : TE} {D Dn : Ends} {tz : TS} {α : Type} {r : Rp α}
/-- x.f = a new list of one's own, the object one's own -/
theorem s_setOO {C x dx : Addr} {fs : List (Str × V)} {f : Str} {i : Nat} {xs : List α} (hi : σ[i]? = some (some (.ref x))) (a : Own W x (.ins C dx fs)) (cl : Cls K C) (na : NoAttr K C f) (hl : fs.length < 1000) (h : EvO te σ W r xs)
    (k : ∀ p (W1 : Wd F), KpS (· = x) W W1 → Ex W.G W1.G → Own W1 x (.ins C dx (putF f (.ref p) fs)) → OwnL W1 p r xs → D.nx σ W1.H) : sFld K (tVar i) te f D σ W.H :=
  h W (Le.refl _) _ fun p vs W1 l hp o av => by
    have o1 := a.up l
    have ne : p ≠ x := (a.ne hp).symm
    exact ⟨_, hi, x, C, dx, fs, rfl, o1.h, cl, na, hl, k p (W1.put x (.ins C dx (putF f (.ref p) fs)) o1.z o1.g) ⟨l.ex, fun q u nq z => (z.up l).put nq _ _⟩ l.ex (W1.put_at o1.z o1.g) ⟨vs, o.put ne _ _, av⟩⟩
theorem fault_ne' {n : NetD} {S : List Int} {x : Str × List Int} (h : FaultR n S none) (h' : FaultR n S (some x)) : False := by
  obtain ⟨w, sh⟩ := x
  have ne := fault_ne h'
  obtain ⟨e, _⟩ := h'
  exact ne (e.symm.trans h)
/-- a check that is passed -/
theorem q_checkRc {C D1 D2 : Addr} {E : XK} {n : NetD} {S B : List Int} (ha : EvR ta σ W (rNet C) n) (hb : EvR tb σ W (rList rInt) S) (hc : EvR tc σ W (rList rInt) B) (ng : NetG' n) (sm : SmallN S B) (ok : StOk n S B) (hf : FaultR n (srt S) none)
    (k : ∀ W1 : Wd F, Le W W1 → tz Dn σ W1.H) : tSeq (tDrop (tCall (fun vs H Q _ => SpCheckR C D1 D2 vs H Q fun _ _ _ => False) [] E (tCons ta (tCons tb (tCons tc tNil))))) tz Dn σ W.H :=
  q_checkR (E := fun _ _ _ => False) ha hb hc ng sm (fun z _ _ => z ⟨ok.nb, ok.nd⟩) (fun _ W1 d y _ hx _ => fault_ne' hf hx) fun _ _ W1 l => k W1 l
end
end Q

/-! tuples and lists of four; words in a list -/
namespace Q
open PySem L2
def rT4 {α β γ δ : Type} (r : Rp α) (s : Rp β) (t : Rp γ) (q : Rp δ) : Rp (α × β × γ × δ) := ⟨fun G v x => ∃ a u w y z, v = .ref a ∧ G a = some (.tup [u, w, y, z]) ∧ r.rel G u x.1 ∧ s.rel G w x.2.1 ∧ t.rel G y x.2.2.1 ∧ q.rel G z x.2.2.2,
  fun e ⟨a, u, w, y, z, h1, h2, h3, h4, h5, h6⟩ => ⟨a, u, w, y, z, h1, e _ _ h2, r.mono e h3, s.mono e h4, t.mono e h5, q.mono e h6⟩⟩
def rL4 {α β γ δ : Type} (r : Rp α) (s : Rp β) (t : Rp γ) (q : Rp δ) : Rp (α × β × γ × δ) := ⟨fun G v x => ∃ a u w y z, v = .ref a ∧ G a = some (.lst [u, w, y, z]) ∧ r.rel G u x.1 ∧ s.rel G w x.2.1 ∧ t.rel G y x.2.2.1 ∧ q.rel G z x.2.2.2,
  fun e ⟨a, u, w, y, z, h1, h2, h3, h4, h5, h6⟩ => ⟨a, u, w, y, z, h1, e _ _ h2, r.mono e h3, s.mono e h4, t.mono e h5, q.mono e h6⟩⟩
section
variable {F : Fr} {K : PySem.W.Frag} {σ : L2.St} {W W1 : Wd F} {ta tb te tc td tl : TE} {α β γ δ : Type} {r : Rp α} {s : Rp β} {t : Rp γ} {q : Rp δ} {D : Ends} {tz : TS}
theorem ev_t4N {P : α → Prop} {P' : β → Prop} {P2 : γ → Prop} {P3 : δ → Prop} (ha : EvN ta σ W r P) (hb : EvN tb σ W s P') (hc : EvN tc σ W t P2) (hd : EvN td σ W q P3) : EvN (tTup (tCons ta (tCons tb (tCons tc (tCons td tNil))))) σ W (rT4 r s t q) (fun z => P z.1 ∧ P' z.2.1 ∧ P2 z.2.2.1 ∧ P3 z.2.2.2) := fun W1 l Q k =>
  ha W1 l _ fun v1 W2 x1 l2 h1 p1 => hb W2 (l.trans l2) _ fun v2 W3 x2 l3 h2 p2 => hc W3 ((l.trans l2).trans l3) _ fun v3 W4 x3 l4 h3 p3 => hd W4 (((l.trans l2).trans l3).trans l4) _ fun v4 W5 x4 l5 h4 p4 => ⟨by show 4 ≤ _; decide, fun p hp =>
    k _ (W5.add p _ hp) (x1, x2, x3, x4) ((((l2.trans l3).trans l4).trans l5).trans (W5.add_le hp)) ⟨p, v1, v2, v3, v4, rfl, W5.add_at hp, r.mono (((l3.trans l4).trans l5).trans (W5.add_le hp)).ex h1, s.mono ((l4.trans l5).trans (W5.add_le hp)).ex h2, t.mono (l5.trans (W5.add_le hp)).ex h3, q.mono (W5.add_le hp).ex h4⟩ ⟨p1, p2, p3, p4⟩⟩
theorem ev_l4 {x : α} {y : β} {z : γ} {u : δ} (ha : EvR ta σ W r x) (hb : EvR tb σ W s y) (hc : EvR tc σ W t z) (hd : EvR td σ W q u) : EvR (tLst (tCons ta (tCons tb (tCons tc (tCons td tNil))))) σ W (rL4 r s t q) (x, y, z, u) := fun W1 l Q k =>
  ha W1 l _ fun v1 W2 l2 h1 => hb W2 (l.trans l2) _ fun v2 W3 l3 h2 => hc W3 ((l.trans l2).trans l3) _ fun v3 W4 l4 h3 => hd W4 (((l.trans l2).trans l3).trans l4) _ fun v4 W5 l5 h4 => ⟨by show 4 ≤ _; decide, fun p hp =>
    k _ (W5.add p _ hp) ((((l2.trans l3).trans l4).trans l5).trans (W5.add_le hp)) ⟨p, v1, v2, v3, v4, rfl, W5.add_at hp, r.mono (((l3.trans l4).trans l5).trans (W5.add_le hp)).ex h1, s.mono ((l4.trans l5).trans (W5.add_le hp)).ex h2, t.mono (l5.trans (W5.add_le hp)).ex h3, q.mono (W5.add_le hp).ex h4⟩⟩
abbrev gT4 (K : PySem.W.Frag) (i j k l : Nat) : TG := gTup K 4 (gCons (gName i) (gCons (gName j) (gCons (gName k) (gCons (gName l) gNil))))
theorem q_asg4N {i j m o : Nat} {P : α × β × γ × δ → Prop} (h : EvN te σ W (rT4 r s t q) P) (k : ∀ u w y z (W1 : Wd F) x, Le W W1 → r.rel W1.G u x.1 → s.rel W1.G w x.2.1 → t.rel W1.G y x.2.2.1 → q.rel W1.G z x.2.2.2 → P x → tz D ((((σ.set i (some u)).set j (some w)).set m (some y)).set o (some z)) W1.H) : tSeq (tAsg te (gT4 K i j m o)) tz D σ W.H :=
  h W (Le.refl _) _ fun v W1 x l hv hP => by
    obtain ⟨a, u, w, y, z, rfl, h1, h2, h3, h4, h5⟩ := hv
    exact ⟨a, _, rfl, sqT_of W1.gh h1, rfl, u, _, rfl, w, _, rfl, y, _, rfl, z, _, rfl, rfl, k u w y z W1 x l h2 h3 h4 h5 hP⟩
def dzL4 (f : Dz r) (g : Dz s) (k : Dz t) (m : Dz q) : Dz (rL4 r s t q) := ⟨fun x => .list [f.d x.1, g.d x.2.1, k.d x.2.2.1, m.d x.2.2.2], fun x => f.ok x.1 ∧ g.ok x.2.1 ∧ k.ok x.2.2.1 ∧ m.ok x.2.2.2, fun x h => by simp [PyData.canLay0, PyData.canLayAll0, f.c _ h.1, g.c _ h.2.1, k.c _ h.2.2.1, m.c _ h.2.2.2], f.n + g.n + k.n + m.n + 1, fun x => by simp only [PyData.depth, PyData.depthAll]; have := f.b x.1; have := g.b x.2.1; have := k.b x.2.2.1; have := m.b x.2.2.2; omega,
  fun K G H v x e h => by
    obtain ⟨a, u, w, y, z, rfl, h1, h2, h3, h4, h5⟩ := h
    exact .lst (sqL_of e h1) (.cons (f.dp K G H u _ e h2) (.cons (g.dp K G H w _ e h3) (.cons (k.dp K G H y _ e h4) (.cons (m.dp K G H z _ e h5) .nil)))),
  fun x y => by simp [PyData.eqv, PyData.eqvAll, f.eq, g.eq, k.eq, m.eq, Prod.ext_iff]⟩
theorem all2_strs {vs : List V} {xs : List Str} (h : All2 (fun v (x : Str) => v = V.str x) vs xs) : vs = xs.map V.str := by
  apply List.ext_getElem?
  intro i
  rw [List.getElem?_map]
  cases e : xs[i]? with
  | none => exact List.getElem?_eq_none (by rw [h.1]; exact List.getElem?_eq_none_iff.mp e)
  | some x =>
    obtain ⟨v, h1, h2⟩ := h.2 i x e
    rw [h1, h2]; rfl
theorem inV_strs {x : Str} : ∀ {xs : List Str}, inV (.str x) (xs.map V.str) = decide (x ∈ xs)
  | [] => by simp [inV]
  | y :: ys => by
    have ih := inV_strs (x := x) (xs := ys)
    unfold inV at *
    simp only [List.map_cons, List.any_cons, List.mem_cons, ih]
    by_cases h : x = y
    · subst h; simp [eqV]
    · have : ¬ y = x := fun z => h z.symm
      simp [eqV, h, this]
theorem flat_strs : ∀ (xs : List Str), (xs.map V.str).all flatV = true
  | [] => rfl
  | x :: xs => by simp [flatV, flat_strs xs]
theorem ev_inS {x : Str} {xs : List Str} (ha : EvR ta σ W rStr x) (hb : EvR tb σ W (rList rStr) xs) : EvR (tOp (rIn K false) ta tb) σ W rBool (decide (x ∈ xs)) :=
  ev_op ha hb fun W1 v w Q l hv hw q => by
    obtain ⟨a, vs, rfl, h1, h2⟩ := hw
    have hv : v = .str x := hv
    have h2 := all2_strs h2
    subst hv h2
    exact ⟨a, _, rfl, .inl (sqL_of W1.gh h1), rfl, flat_strs xs, by rw [if_neg (by decide), inV_strs]; exact q _ W1 (Le.refl _) rfl⟩
end
def doneM (st : StD) (d : Str × Int) : StD := if d.1 = "open" then (dropM st.1 d.2, st.2) else if d.1 = "close" then (addM st.1 d.2, st.2) else (st.1, dropM st.2 d.2)
def canM (L : Nat) (st : StD) (ws : List Str) : List (Str × Int) := (if ("open" : Str) ∈ ws then ((rg L).filter fun l => decide (l ∈ st.1)).map fun l => (("open" : Str), l) else []) ++ (if ("close" : Str) ∈ ws then ((rg L).filter fun l => !decide (l ∈ st.1) && !decide (l ∈ st.2)).map fun l => (("close" : Str), l) else []) ++ (if ("mend" : Str) ∈ ws then ((rg L).filter fun l => decide (l ∈ st.2)).map fun l => (("mend" : Str), l) else [])
end Q

/-! data of any shape: whole numbers and texts, lists and tuples of them, level by level -/
namespace Q
open PySem L2
def rSum {α β : Type} (r : Rp α) (s : Rp β) : Rp (α ⊕ β) := ⟨fun G v x => match x with | .inl y => r.rel G v y | .inr y => s.rel G v y, fun {G G' v x} e h => by
  cases x with
  | inl y => exact r.mono e h
  | inr y => exact s.mono e h⟩
def DatT : Nat → Type
  | 0 => Int ⊕ Str
  | k + 1 => DatT k ⊕ (List (DatT k) ⊕ List (DatT k))
def rDat : (k : Nat) → Rp (DatT k)
  | 0 => rSum rInt rStr
  | k + 1 => rSum (rDat k) (rSum (rList (rDat k)) (rTup (rDat k)))
def okDat : (k : Nat) → DatT k → Prop
  | 0, _ => True
  | k + 1, .inl x => okDat k x
  | k + 1, .inr (.inl xs) => xs.length ≤ 1000 ∧ ∀ x ∈ xs, okDat k x
  | k + 1, .inr (.inr xs) => xs.length ≤ 1000 ∧ ∀ x ∈ xs, okDat k x
theorem ty_strR : TyR rStr "str" := fun K G H v x e h => by rw [show v = .str x from h]; exact .base (.str x)
theorem ty_tup {α : Type} {r : Rp α} : TyR (rTup r) "tuple" := fun K G H v x e h => by
  obtain ⟨a, vs, rfl, h1, _⟩ := h
  exact .base (.tup (e _ _ h1))
theorem nn_tup {α : Type} {r : Rp α} : ∀ (G : Hp) v (x : List α), (rTup r).rel G v x → v ≠ .non := fun G v x h z => by
  obtain ⟨a, vs, rfl, _⟩ := h
  cases z
section
variable {F : Fr} {K : PySem.W.Frag} {σ : L2.St} {W : Wd F} {ta tb : TE} {α β γ : Type} {r : Rp α} {s : Rp β}
/-- an item of a tuple by its place -/
theorem ev_ixT {xs : List α} {i : Int} {x : α} (ha : EvR ta σ W (rTup r) xs) (hb : EvR tb σ W rInt i) (hx : 0 ≤ i ∧ xs[i.toNat]? = some x) : EvR (tOp (rIx K) ta tb) σ W r x :=
  ev_op ha hb fun W1 v w Q l hv hw q => by
    obtain ⟨a, vs, rfl, h1, h2⟩ := hv
    have hw : w = .int i := hw
    subst hw
    obtain ⟨u, e1, e2⟩ := h2.2 _ _ hx.2
    refine .inr (.inl ⟨a, vs, i, u, rfl, rfl, sqT_of W1.gh h1, ?_, q u W1 (Le.refl _) e2⟩)
    have e : i = ((i.toNat : Nat) : Int) := by omega
    rw [e]; exact atI_nat e1
end
end Q

/-! lambdas that turn what is one's own, told of by a def that tells the refusal's word or None -/
namespace Q
open PySem L2 LamX
/-- told: a deed's refusal, a state's word, or None -/
def TTr (C1 C2 : Addr) : (XK → Hp → VK → Prop) → List V → Hp → VK → Prop := fun tl vs H Q => vs = [] ∧ ∀ (E : XK) (Q' : VK), (∀ H', (∀ H'', Ex H' H'' → Q (.str "deed") H'') → E (.ref C1) none H') →
  (∀ (H' : Hp) (dd : Addr) (fs : List (Str × V)) (wd : Str), H' dd = some (.xd fs) → fs.lookup ("why" : Str) = some (.str wd) → (∀ H'', Ex H' H'' → Q (.str wd) H'') → E (.ref C2) (some dd) H') → (∀ v H', (∀ H'', Ex H' H'' → Q .non H'') → Q' v H') → tl E H Q'
section
variable {F : Fr} {K : PySem.W.Frag} {W W1 : Wd F} {p : Addr} {q : Str} {σ : L2.St} {ta tb te : TE} {α β : Type} {r : Rp α} {s : Rp β} {D : Ends} {tz : TS}
theorem OwnT.kpS {S : Addr → Prop} (k : KpS S W W1) (np : ¬ S p) (h : OwnT W p q) : OwnT W1 p q := by
  obtain ⟨ps, h1, h2, h3⟩ := h.ex
  exact ⟨ps, k.kp _ _ np h1, h2, fun pos cv e => let ⟨c0, a, b⟩ := h3 pos cv e; ⟨c0, a, k.ex _ _ b⟩⟩
/-- what is asked of a lambda's body at W -/
structure Asks (C1 C2 : Addr) (due : Option Str) (R : Wd F → Prop) (E : XK) (Q' : VK) (W : Wd F) : Prop where
  deed : due = some ("deed" : Str) → ∀ W2 : Wd F, Le W W2 → E (.ref C1) none W2.H
  state : ∀ (W2 : Wd F) (dd : Addr) (fs : List (Str × V)) (wd : Str), Le W W2 → due = some wd → W2.G dd = some (.xd fs) → fs.lookup ("why" : Str) = some (.str wd) → E (.ref C2) (some dd) W2.H
  ok : due = none → ∀ (W2 : Wd F) v, R W2 → Q' v W2.H
theorem lam_desk {C1 C2 : Addr} {due : Option Str} {t : XK → TE} {Q : VK} {R : Wd F → Wd F → Prop} (ot : OwnT W p q) (hR : ∀ A B C, R A B → Le B C → R A C)
    (h : ∀ W1 : Wd F, Kp p W W1 → OwnT W1 p q → ∀ (E : XK) (Q' : VK), Asks C1 C2 due (R W1) E Q' W1 → t E σ W1.H Q')
    (k : ∀ (W1 W2 : Wd F) (x : V), Kp p W W1 → OwnT W1 p q → (due ≠ none → Le W1 W2) → (due = none → R W1 W2) → (rOpt rStr).rel W2.G x due → Q x W2.H) : tLamN p [(p, q)] q (TTr C1 C2) t tNil σ W.H Q :=
  lam_any ot fun W1 k1 o1 => ⟨rfl, fun E Q' kD kE kQ => h W1 k1 o1 E Q' ⟨fun e W2 l => kD W2.H fun H'' ex => k W1 (W2.more H'' ex) (.str "deed") k1 o1 (fun _ => l.trans (W2.more_le ex)) (fun z => by rw [e] at z; cases z) (by rw [e]; rfl),
    fun W2 dd fs wd l e a1 a2 => kE W2.H dd fs wd (W2.gh _ _ a1) a2 fun H'' ex => k W1 (W2.more H'' ex) (.str wd) k1 o1 (fun _ => l.trans (W2.more_le ex)) (fun z => by rw [e] at z; cases z) (by rw [e]; rfl),
    fun e W2 v hr => kQ v W2.H fun H'' ex => k W1 (W2.more H'' ex) .non k1 o1 (fun z => absurd e z) (fun _ => hR _ _ _ hr (W2.more_le ex)) (by rw [e]; rfl)⟩⟩
/-- x, y = e, f: the second a list of one's own -/
theorem q_asgRO {i j : Nat} {x : α} {ys : List β} (ha : EvR ta σ W r x) (hb : EvO tb σ W s ys)
    (k : ∀ u b (W1 : Wd F), Le W W1 → W.H b = none → r.rel W1.G u x → OwnL W1 b s ys → tz D ((σ.set i (some u)).set j (some (.ref b))) W1.H) : tSeq (tAsg (tTup (tCons ta (tCons tb tNil))) (gT2 K i j)) tz D σ W.H :=
  ha W (Le.refl _) _ fun u W2 l2 h1 => hb W2 l2 _ fun b ws W3 l3 fb ob ab => ⟨by show 2 ≤ _; decide, fun p hp => by
    have o2 : OwnL W3 b s ys := ⟨ws, ob, ab⟩
    have le := W3.add_le (o := .tup [u, V.ref b]) hp
    exact g_t2 (W := W3.add p (.tup [u, V.ref b]) hp) (r := r) (s := rRef) (x := (x, b)) ⟨p, _, _, rfl, W3.add_at hp, r.mono (l3.trans le).ex h1, rfl⟩ fun u w hu hw => by
      cases hw
      exact k u b _ ((l2.trans l3).trans le) (le_fresh l2 fb) hu (o2.up le)⟩
theorem q_par {i j : Nat} {P : α → Prop} {P' : β → Prop} (ha : EvN ta σ W r P) (hb : EvN tb σ W s P') (k : ∀ u w (W1 : Wd F) x y, Le W W1 → r.rel W1.G u x → s.rel W1.G w y → P x → P' y → tz D ((σ.set i (some u)).set j (some w)) W1.H) : tSeq (tPar i j (tCons ta (tCons tb tNil))) tz D σ W.H :=
  ha W (Le.refl _) _ fun u W2 x l2 h1 p1 => hb W2 l2 _ fun w W3 y l3 h2 p2 => ⟨u, w, rfl, k u w W3 x y (l2.trans l3) (r.mono l3.ex h1) h2 p1 p2⟩
theorem q_par3 {γ : Type} {t : Rp γ} {tc : TE} {i j m : Nat} {P : α → Prop} {P' : β → Prop} {P2 : γ → Prop} (ha : EvN ta σ W r P) (hb : EvN tb σ W s P') (hc : EvN tc σ W t P2) (k : ∀ u w z (W1 : Wd F) x y e, Le W W1 → r.rel W1.G u x → s.rel W1.G w y → t.rel W1.G z e → P x → P' y → P2 e → tz D (((σ.set i (some u)).set j (some w)).set m (some z)) W1.H) : tSeq (tPar3 i j m (tCons ta (tCons tb (tCons tc tNil)))) tz D σ W.H :=
  ha W (Le.refl _) _ fun u W2 x l2 h1 p1 => hb W2 l2 _ fun w W3 y l3 h2 p2 => hc W3 (l2.trans l3) _ fun z W4 e l4 h3 p3 => ⟨u, w, z, rfl, k u w z W4 x y e ((l2.trans l3).trans l4) (r.mono (l3.trans l4).ex h1) (s.mono l4.ex h2) h3 p1 p2 p3⟩
theorem fl_ostr : Fl (rOpt rStr) := fun G G' v w x y h1 h2 => by
  cases x with
  | none =>
    have h1 : v = .non := h1
    subst h1
    cases y with
    | none => have h2 : w = .non := h2; subst h2; exact ⟨rfl, by simp⟩
    | some y => have h2 : w = .str y := h2; subst h2; exact ⟨rfl, by simp⟩
  | some x =>
    have h1 : v = .str x := h1
    subst h1
    cases y with
    | none => have h2 : w = .non := h2; subst h2; exact ⟨rfl, by simp⟩
    | some y => have h2 : w = .str y := h2; subst h2; exact ⟨rfl, by simp⟩
theorem nn_str : ∀ (G : Hp) v (x : Str), rStr.rel G v x → v ≠ .non := fun G v x h z => by
  have h : v = .str x := h
  rw [z] at h; cases h
/-- x is None -/
theorem ev_isNO {x : Option α} {tn : TE} {op : R2} (he : op = fun x y H Q => y = .non ∧ Q (.bl (decide (x = .non))) H) (hn : tn = tC .non) (nn : ∀ G v (x : α), r.rel G v x → v ≠ .non) (ha : EvR ta σ W (rOpt r) x) : EvR (tOp op ta tn) σ W rBool x.isNone := by
  subst he hn
  refine fun W1 l Q q => ha W1 l _ fun v W2 l2 hv => ?_
  refine ⟨rfl, ?_⟩
  cases x with
  | none =>
    have hv : v = .non := hv
    subst hv
    exact q _ W2 l2 rfl
  | some y =>
    have : v ≠ .non := nn _ _ _ hv
    rw [decide_eq_false this]
    exact q _ W2 l2 rfl
end
theorem mt_tup {α : Type} {r : Rp α} (m : Mt r) : Mt (rTup r) := fun e v x ⟨a, vs, h1, h2, h3⟩ => ⟨a, vs, h1, e _ _ h2, h3.imp fun _ _ h => m e _ _ h⟩
/-- told: a deed's refusal, a state's word, or what the work tells -/
def TTo (C1 C2 : Addr) : (XK → Hp → VK → Prop) → List V → Hp → VK → Prop := fun tl vs H Q => vs = [] ∧ ∀ (E : XK) (Q' : VK), (∀ H', (∀ H'', Ex H' H'' → Q (.str "deed") H'') → E (.ref C1) none H') →
  (∀ (H' : Hp) (dd : Addr) (fs : List (Str × V)) (wd : Str), H' dd = some (.xd fs) → fs.lookup ("why" : Str) = some (.str wd) → (∀ H'', Ex H' H'' → Q (.str wd) H'') → E (.ref C2) (some dd) H') → (∀ v H', Q v H' → Q' v H') → tl E H Q'
/-- what is asked of such a work's body at W: R what stands behind it, with its value -/
structure AskO {F : Fr} (C1 C2 : Addr) (bad : Option Str) (R : Wd F → V → Prop) (E : XK) (Q' : VK) (W : Wd F) : Prop where
  deed : bad = some ("deed" : Str) → ∀ W2 : Wd F, Le W W2 → E (.ref C1) none W2.H
  state : ∀ (W2 : Wd F) (dd : Addr) (fs : List (Str × V)) (wd : Str), Le W W2 → bad = some wd → W2.G dd = some (.xd fs) → fs.lookup ("why" : Str) = some (.str wd) → E (.ref C2) (some dd) W2.H
  ok : bad = none → ∀ (W2 : Wd F) v, R W2 v → Q' v W2.H
theorem lam_out {F : Fr} {W : Wd F} {p : Addr} {q : Str} {σ : L2.St} {C1 C2 : Addr} {bad : Option Str} {t : XK → TE} {Q : VK} {R : Wd F → Wd F → V → Prop} (ot : OwnT W p q)
    (h : ∀ W1 : Wd F, Kp p W W1 → OwnT W1 p q → ∀ (E : XK) (Q' : VK), AskO C1 C2 bad (R W1) E Q' W1 → t E σ W1.H Q')
    (k : ∀ (W1 W2 : Wd F) (x : V), Kp p W W1 → OwnT W1 p q → ((∃ wd, bad = some wd ∧ x = .str wd ∧ Le W1 W2) ∨ (bad = none ∧ R W1 W2 x)) → Q x W2.H) : tLamN p [(p, q)] q (TTo C1 C2) t tNil σ W.H Q :=
  lam_any ot fun W1 kp o1 => ⟨rfl, fun E Q' kD kE kQ => h W1 kp o1 E Q' ⟨fun e W2 l => kD W2.H fun H'' ex => k W1 (W2.more H'' ex) (.str "deed") kp o1 (.inl ⟨_, e, rfl, l.trans (W2.more_le ex)⟩),
    fun W2 dd fs wd l e a1 a2 => kE W2.H dd fs wd (W2.gh _ _ a1) a2 fun H'' ex => k W1 (W2.more H'' ex) (.str wd) kp o1 (.inl ⟨wd, e, rfl, l.trans (W2.more_le ex)⟩), fun e W2 v hr => kQ v W2.H (k W1 W2 v kp o1 (.inr ⟨e, hr⟩))⟩⟩
def rV : Rp V := ⟨fun _ v x => v = x, fun _ h => h⟩
section
variable {F : Fr} {K : PySem.W.Frag} {W W1 : Wd F} {σ : L2.St} {ta tb tc td te : TE} {α β γ δ : Type} {r : Rp α} {s : Rp β} {t : Rp γ} {u : Rp δ} {D : Ends} {tz : TS}
theorem all2_self : ∀ (vs : List V), All2 (fun v (x : V) => v = x) vs vs := fun vs => ⟨rfl, fun i x h => ⟨x, h, rfl⟩⟩
theorem OwnL.raw {p : Addr} {xs : List α} (o : OwnL W p r xs) : ∃ vs, OwnL W p rV vs ∧ vs.length = xs.length := by
  obtain ⟨vs, h1, h2⟩ := o.ex
  exact ⟨vs, ⟨vs, h1, all2_self vs⟩, h2.1⟩
/-- [list(..), list(..)]: all of one's own -/
theorem q_asgO2 {i : Nat} {xs : List α} {ys : List β} (ha : EvO ta σ W r xs) (hb : EvO tb σ W s ys)
    (k : ∀ p a b (W1 : Wd F), Le W W1 → OwnL W1 a r xs → OwnL W1 b s ys → OwnL W1 p rRef [a, b] → (a ≠ b ∧ a ≠ p ∧ b ≠ p) → (W.H a = none ∧ W.H b = none ∧ W.H p = none) → tz D (σ.set i (some (.ref p))) W1.H) : tSeq (tAsg (tLst (tCons ta (tCons tb tNil))) (gName i)) tz D σ W.H :=
  ha W (Le.refl _) _ fun a vs W2 l2 fa oa aa => hb W2 l2 _ fun b ws W3 l3 fb ob ab => ⟨by show 2 ≤ _; decide, fun p hp => by
    have o1 : OwnL W3 a r xs := ⟨vs, oa.up l3, aa.imp fun _ _ => r.mono l3.ex⟩
    have o2 : OwnL W3 b s ys := ⟨ws, ob, ab⟩
    have le := W3.own_le (o := .lst [V.ref a, V.ref b]) hp
    exact k p a b (W3.own p _ hp) ((l2.trans l3).trans le) (o1.up le) (o2.up le) ⟨_, W3.own_at hp, All2.cons rfl (All2.one rfl)⟩ ⟨oa.ne fb, o1.ne hp, o2.ne hp⟩ ⟨fa, le_fresh l2 fb, le_fresh (l2.trans l3) hp⟩⟩
/-- four of them -/
theorem q_asgO4 {i : Nat} {xs : List α} {ys : List β} {zs : List γ} {us : List δ} (ha : EvO ta σ W r xs) (hb : EvO tb σ W s ys) (hc : EvO tc σ W t zs) (hd : EvO td σ W u us)
    (k : ∀ p a b c d (W1 : Wd F), Le W W1 → OwnL W1 a r xs → OwnL W1 b s ys → OwnL W1 c t zs → OwnL W1 d u us → OwnL W1 p rRef [a, b, c, d] → (a ≠ b ∧ a ≠ c ∧ a ≠ d ∧ b ≠ c ∧ b ≠ d ∧ c ≠ d) → (a ≠ p ∧ b ≠ p ∧ c ≠ p ∧ d ≠ p) → tz D (σ.set i (some (.ref p))) W1.H) : tSeq (tAsg (tLst (tCons ta (tCons tb (tCons tc (tCons td tNil))))) (gName i)) tz D σ W.H :=
  ha W (Le.refl _) _ fun a v1 W2 l2 fa oa aa => hb W2 l2 _ fun b v2 W3 l3 fb ob ab => hc W3 (l2.trans l3) _ fun c v3 W4 l4 fc oc ac => hd W4 ((l2.trans l3).trans l4) _ fun d v4 W5 l5 fd od ad => ⟨by show 4 ≤ _; decide, fun p hp => by
    have o1 : OwnL W5 a r xs := ⟨v1, ((oa.up l3).up l4).up l5, aa.imp fun _ _ => r.mono ((l3.trans l4).trans l5).ex⟩
    have o2 : OwnL W5 b s ys := ⟨v2, (ob.up l4).up l5, ab.imp fun _ _ => s.mono (l4.trans l5).ex⟩
    have o3 : OwnL W5 c t zs := ⟨v3, oc.up l5, ac.imp fun _ _ => t.mono l5.ex⟩
    have o4 : OwnL W5 d u us := ⟨v4, od, ad⟩
    have le := W5.own_le (o := .lst [V.ref a, V.ref b, V.ref c, V.ref d]) hp
    exact k p a b c d (W5.own p _ hp) ((((l2.trans l3).trans l4).trans l5).trans le) (o1.up le) (o2.up le) (o3.up le) (o4.up le) ⟨_, W5.own_at hp, All2.cons rfl (All2.cons rfl (All2.cons rfl (All2.one rfl)))⟩
      ⟨oa.ne fb, (oa.up l3).ne fc, ((oa.up l3).up l4).ne fd, ob.ne fc, (ob.up l4).ne fd, oc.ne fd⟩ ⟨o1.ne hp, o2.ne hp, o3.ne hp, o4.ne hp⟩⟩
/-- four lists and the list of them, frozen -/
theorem fz4 {p a b c d : Addr} {xs : List α} {ys : List β} {zs : List γ} {us : List δ} (o1 : OwnL W a r xs) (o2 : OwnL W b s ys) (o3 : OwnL W c t zs) (o4 : OwnL W d u us) (o : OwnL W p rRef [a, b, c, d]) (n1 : a ≠ b ∧ a ≠ c ∧ a ≠ d ∧ b ≠ c ∧ b ≠ d ∧ c ≠ d) (n2 : a ≠ p ∧ b ≠ p ∧ c ≠ p ∧ d ≠ p) :
    ∃ W1 : Wd F, W1.H = W.H ∧ Ex W.G W1.G ∧ (rL4 (rList r) (rList s) (rList t) (rList u)).rel W1.G (.ref p) (xs, ys, zs, us) := by
  obtain ⟨m1, m2, m3, m4, m5, m6⟩ := n1
  obtain ⟨q1, q2, q3, q4⟩ := n2
  obtain ⟨W1, e1, k1, r1⟩ := o1.fz
  obtain ⟨W2, e2, k2, r2⟩ := (o2.kp k1 m1.symm).fz
  obtain ⟨W3, e3, k3, r3⟩ := ((o3.kp k1 m2.symm).kp k2 m4.symm).fz
  obtain ⟨W4, e4, k4, r4⟩ := (((o4.kp k1 m3.symm).kp k2 m5.symm).kp k3 m6.symm).fz
  obtain ⟨W5, e5, k5, r5⟩ := ((((o.kp k1 q1.symm).kp k2 q2.symm).kp k3 q3.symm).kp k4 q4.symm).fz
  obtain ⟨z, vs, ez, g1, g2⟩ := r5
  cases ez
  have e : vs = [V.ref a, V.ref b, V.ref c, V.ref d] := by
    match vs, g2 with
    | [w1, w2, w3, w4], g2 =>
      have f1 : w1 = .ref a := g2.get (i := 0) rfl rfl
      have f2 : w2 = .ref b := g2.get (i := 1) rfl rfl
      have f3 : w3 = .ref c := g2.get (i := 2) rfl rfl
      have f4 : w4 = .ref d := g2.get (i := 3) rfl rfl
      rw [f1, f2, f3, f4]
    | [], g2 => exact absurd g2.1 (by simp)
    | [_], g2 => exact absurd g2.1 (by simp)
    | [_, _], g2 => exact absurd g2.1 (by simp)
    | [_, _, _], g2 => exact absurd g2.1 (by simp)
    | _ :: _ :: _ :: _ :: _ :: _, g2 => exact absurd g2.1 (by simp)
  subst e
  exact ⟨W5, e5.trans (e4.trans (e3.trans (e2.trans e1))), k1.ex.trans (k2.ex.trans (k3.ex.trans (k4.ex.trans k5.ex))), p, _, _, _, _, rfl, g1, Rp.up (k2.ex.trans (k3.ex.trans (k4.ex.trans k5.ex))) r1, Rp.up (k3.ex.trans (k4.ex.trans k5.ex)) r2, Rp.up (k4.ex.trans k5.ex) r3, Rp.up k5.ex r4⟩
/-- a list that an expression tells is emptied -/
theorem q_clearR {a : Addr} {xs : List α} (h : EvR te σ W rRef a) (o : OwnL W a r xs) (k : ∀ W1 : Wd F, Kp a W W1 → OwnL W1 a r [] → tz D σ W1.H) : tSeq (tDrop (tBM0 K "list" rClear te)) tz D σ W.H :=
  h W (Le.refl _) _ fun v W1 l hv => by
    cases hv
    obtain ⟨vs, o1, _⟩ := (o.up l).ex
    exact ⟨.inl ⟨rfl, _, sqL_of (Ex.refl _) o1.h⟩, a, vs, rfl, rfl, o1.h, k (W1.put a (.lst []) o1.z o1.g) ⟨l.ex, fun q u ne x => (x.up l).put ne _ _⟩ ⟨[], W1.put_at o1.z o1.g, All2.nil⟩⟩
theorem s_clearR {a : Addr} {xs : List α} (h : EvR te σ W rRef a) (o : OwnL W a r xs) (k : ∀ W1 : Wd F, Kp a W W1 → OwnL W1 a r [] → D.nx σ W1.H) : tDrop (tBM0 K "list" rClear te) D σ W.H := q_clearR (tz := fun D σ H => D.nx σ H) (D := D) h o k
theorem ev_isiSum {T1 T2 c : String} {x : α ⊕ β} (t1 : TyR r T1) (t2 : TyR s T2) (k1 : kitB T1 c = some true) (k2 : kitB T2 c = some false) (ha : EvR ta σ W (rSum r s) x) : EvR (tCB (rIsi K) (tCons ta (tCons (tC (.ty c)) tNil))) σ W rBool x.isLeft := by
  cases x with
  | inl y => exact ev_isi (r := r) (x := y) t1 k1 ha
  | inr y => exact ev_isi (r := s) (x := y) t2 k2 ha
theorem ev_intBN {P : Bool → Prop} {R : Int → Prop} (h : EvN ta σ W rBool P) (hR : ∀ b, P b → R (if b then 1 else 0)) : EvN (tCB oInt1 (tCons ta tNil)) σ W rInt R := fun W1 l Q q => h W1 l _ fun v W2 b l2 hv hb => .inr ⟨b, by rw [show v = .bl b from hv], q _ W2 _ l2 rfl (hR b hb)⟩
theorem ev_subN {P P' R : Int → Prop} (ha : EvN ta σ W rInt P) (hb : EvN tb σ W rInt P') (hR : ∀ x y, P x → P' y → R (x - y)) : EvN (tOp oSub ta tb) σ W rInt R := ev_I0N (f := fun i j => i - j) ha hb hR fun _ _ => rfl
end
end Q

/-! dicts of one's own whose keys are tuples of any depth, in worlds -/
namespace Q
open PySem PySem.Spec L2
/-- data that can be keys -/
structure NkR {κ : Type} (rk : Rp κ) where
  nk : κ → NestedKey
  inj : ∀ x y, nk x = nk y → x = y
  at_ : ∀ (G : Hp) v x, rk.rel G v x → ∃ b, v = .ref b ∧ KeyAt G (nk x) b
theorem nums_inj : ∀ {xs ys : List Int}, xs.map NestedKey.num = ys.map NestedKey.num → xs = ys
  | [], [], _ => rfl
  | [], _ :: _, h => by simp at h
  | _ :: _, [], h => by simp at h
  | x :: xs, y :: ys, h => by
    rw [List.map_cons, List.map_cons] at h
    injection h with h1 h2
    injection h1 with h1
    rw [h1, nums_inj h2]
theorem nums_depth : ∀ xs : List Int, NestedKey.depthAll (xs.map NestedKey.num) = 0
  | [] => rfl
  | x :: xs => by rw [List.map_cons, NestedKey.depthAll, nums_depth xs]; rfl
theorem nums_all {h : Heap} : ∀ {xs : List Int} {us : List Value}, Vals (xs.map V.int) us → NestedAll h (xs.map NestedKey.num) us
  | [], _, r => by rw [List.map_nil] at r; cases r; exact .nil
  | x :: xs, _, r => by
    rw [List.map_cons] at r
    cases r with
    | cons a t =>
      obtain ⟨k, rfl⟩ := (show ∃ t, _ = Value.int x t from a)
      exact .cons (.int x k) (nums_all t)
abbrev nkI (xs : List Int) : NestedKey := .tup (xs.map .num)
theorem keyI_at {G : Hp} {v : V} {xs : List Int} (h : (rTup rInt).rel G v xs) : ∃ b, v = .ref b ∧ KeyAt G (nkI xs) b := by
  obtain ⟨b, vs, rfl, h1, h2⟩ := h
  have h2 := h2.ints
  subst h2
  refine ⟨b, rfl, fun P w H h e ok => ⟨?_, ?_⟩⟩
  · obtain ⟨_, its, r, o, g1, g2, n, g3⟩ := (show ObjOk P w H h b (.tup (xs.map V.int)) from ok b _ (e _ _ h1))
    exact .tup g1 g2 g3 (nums_all r)
  · show NestedKey.depthAll _ + 1 ≤ 8
    rw [nums_depth]; decide
def nkInts : NkR (rTup rInt) := ⟨nkI, fun x y h => by injection h with h; exact nums_inj h, fun G v x h => keyI_at h⟩
abbrev nkS (st : List Int × List Int) : NestedKey := .tup [nkI st.1, nkI st.2]
theorem keyS_at {G : Hp} {v : V} {st : List Int × List Int} (h : (rT2 (rTup rInt) (rTup rInt)).rel G v st) : ∃ b, v = .ref b ∧ KeyAt G (nkS st) b := by
  obtain ⟨b, u1, u2, rfl, h1, h2, h3⟩ := h
  obtain ⟨b1, rfl, k1⟩ := keyI_at h2
  obtain ⟨b2, rfl, k2⟩ := keyI_at h3
  refine ⟨b, rfl, fun P w H h e ok => ⟨?_, ?_⟩⟩
  · obtain ⟨_, its, r, o, g1, g2, n, g3⟩ := (show ObjOk P w H h b (.tup [.ref b1, .ref b2]) from ok b _ (e _ _ h1))
    cases r with
    | cons r1 r =>
      cases r with
      | cons r2 r =>
        cases r
        cases r1
        cases r2
        exact .tup g1 g2 g3 (.cons (k1 P w H h e ok).1 (.cons (k2 P w H h e ok).1 .nil))
  · show max (NestedKey.depthAll _ + 1) (max (NestedKey.depthAll _ + 1) 0) + 1 ≤ 8
    rw [nums_depth, nums_depth]; decide
def nkSt : NkR (rT2 (rTup rInt) (rTup rInt)) := ⟨nkS, fun x y h => by
  injection h with h
  injection h with h1 h2
  injection h2 with h2 _
  exact Prod.ext (nkInts.inj _ _ h1) (nkInts.inj _ _ h2), fun G v x h => keyS_at h⟩
section
variable {κ α : Type} [DecidableEq κ] {rk : Rp κ} {r : Rp α}
def nlook (xs : List (κ × α)) (k : κ) : Option α := (xs.find? fun x => decide (x.1 = k)).map (·.2)
theorem nlook_pos {p : κ × α} {xs : List (κ × α)} {k : κ} (e : p.1 = k) : nlook (p :: xs) k = some p.2 := by simp [nlook, List.find?_cons, e]
theorem nlook_neg {p : κ × α} {xs : List (κ × α)} {k : κ} (e : ¬ p.1 = k) : nlook (p :: xs) k = nlook xs k := by simp [nlook, List.find?_cons, e]
theorem nlook_none {k : κ} : ∀ {xs : List (κ × α)}, nlook xs k = none ↔ k ∉ xs.map (·.1)
  | [] => by simp [nlook]
  | p :: xs => by
    by_cases e : p.1 = k
    · rw [nlook_pos e]; simp [e]
    · rw [nlook_neg e, nlook_none, List.map_cons, List.mem_cons]
      exact ⟨fun h z => z.elim (fun y => e y.symm) h, fun h z => h (.inr z)⟩
theorem nlook_some {k : κ} {xs : List (κ × α)} : (nlook xs k).isSome = decide (k ∈ xs.map (·.1)) := by
  cases e : nlook xs k with
  | none => have := nlook_none.mp e; simp [this]
  | some y =>
    have : k ∈ xs.map (·.1) := Classical.byContradiction fun z => by rw [nlook_none.mpr z] at e; cases e
    simp [this]
theorem nlook_snoc {k j : κ} {y : α} : ∀ {xs : List (κ × α)}, nlook xs k = none → nlook (xs ++ [(k, y)]) j = if j = k then some y else nlook xs j
  | [], _ => by
    by_cases e : k = j
    · rw [if_pos e.symm]; exact nlook_pos (p := (k, y)) e
    · rw [if_neg (fun z => e z.symm)]; exact nlook_neg (p := (k, y)) e
  | p :: xs, h => by
    have hk : ¬ p.1 = k := fun z => by rw [nlook_pos z] at h; cases h
    rw [nlook_neg hk] at h
    rw [List.cons_append]
    by_cases e : p.1 = j
    · rw [nlook_pos e, nlook_pos e, if_neg (fun z => hk (e.trans z))]
    · rw [nlook_neg e, nlook_neg e, nlook_snoc h]
def NdR (f : NkR rk) (r : Rp α) (G : Hp) (kvs : NKV) (xs : List (κ × α)) : Prop := Paired (fun p x => p.1 = f.nk x.1 ∧ rk.rel G (.ref p.2.1) x.1 ∧ r.rel G p.2.2 x.2) kvs xs
theorem NdR.up {f : NkR rk} {G G' : Hp} {kvs : NKV} {xs : List (κ × α)} (e : Ex G G') (h : NdR f r G kvs xs) : NdR f r G' kvs xs := Paired.mapP h fun _ _ z => ⟨z.1, rk.mono e z.2.1, r.mono e z.2.2⟩
theorem NdR.keys {f : NkR rk} {G : Hp} {kvs : NKV} {xs : List (κ × α)} (h : NdR f r G kvs xs) : KeysAt G kvs := by
  unfold NdR at h
  induction h with
  | nil => exact fun x hx => by cases hx
  | cons a t ih =>
    intro x hx
    rcases List.mem_cons.mp hx with e | hx
    · rw [e]
      obtain ⟨b, eb, kb⟩ := f.at_ _ _ _ a.2.1
      cases eb
      rw [a.1]; exact kb
    · exact ih x hx
theorem NdR.look {f : NkR rk} {G : Hp} {kvs : NKV} {xs : List (κ × α)} (h : NdR f r G kvs xs) (k : κ) : (nlook xs k = none ∧ valN kvs (f.nk k) = none) ∨ ∃ y v, nlook xs k = some y ∧ valN kvs (f.nk k) = some v ∧ r.rel G v y := by
  unfold NdR at h
  induction h with
  | nil => exact .inl ⟨rfl, rfl⟩
  | @cons p q ps qs a t ih =>
    by_cases e : q.1 = k
    · refine .inr ⟨q.2, p.2.2, nlook_pos e, valN_pos (a.1.trans (congrArg f.nk e)), a.2.2⟩
    · have e' : ¬ p.1 = f.nk k := fun z => e (f.inj _ _ (a.1.symm.trans z))
      rw [nlook_neg e, valN_neg e']
      exact ih
theorem NdR.len {f : NkR rk} {G : Hp} {kvs : NKV} {xs : List (κ × α)} (h : NdR f r G kvs xs) : kvs.length = xs.length := Paired.length h
end
section
variable {P : Program} {w : World} {F : Fr} {K : PySem.W.Frag} {σ : L2.St} {W W1 : Wd F} {td ty tv ta tb te tk : TE} {κ α : Type} [DecidableEq κ] {rk : Rp κ} {f : NkR rk} {r : Rp α} {D : Ends} {tz : TS} {p q : Addr} {xs : List (κ × α)} {k : κ} {y : α}
/-- such a dict of one's own -/
structure OwnN (P : Program) (w : World) (f : NkR rk) (W : Wd F) (p : Addr) (r : Rp α) (xs : List (κ × α)) : Prop where
  ex : ∃ kvs, Own W p (dn P w p kvs) ∧ NdR f r W.G kvs xs
theorem OwnN.up (l : Le W W1) (h : OwnN P w f W p r xs) : OwnN P w f W1 p r xs := let ⟨kvs, h1, h2⟩ := h.ex; ⟨kvs, h1.up l, h2.up l.ex⟩
theorem OwnN.kp (l : Kp q W W1) (h : OwnN P w f W p r xs) (ne : p ≠ q) : OwnN P w f W1 p r xs := let ⟨kvs, h1, h2⟩ := h.ex; ⟨kvs, l.kp _ _ ne h1, h2.up l.ex⟩
theorem OwnN.kpS {S : Addr → Prop} (l : KpS S W W1) (h : OwnN P w f W p r xs) (ne : ¬ S p) : OwnN P w f W1 p r xs := let ⟨kvs, h1, h2⟩ := h.ex; ⟨kvs, l.kp _ _ ne h1, h2.up l.ex⟩
theorem OwnN.ne (h : OwnN P w f W p r xs) (n : W.H q = none) : p ≠ q := let ⟨_, h1, _⟩ := h.ex; h1.ne n
theorem ev_ndget (ha : EvR td σ W rRef p) (hb : EvR ty σ W rk k) (o : OwnN P w f W p r xs) (hx : nlook xs k = some y) : EvR (tNGet P w td ty) σ W r y := fun W1 l Q q => ha W1 l _ fun v W2 l2 hv => hb W2 (l.trans l2) _ fun u W3 l3 hu => by
  obtain ⟨kvs, h1, h2⟩ := (o.up ((l.trans l2).trans l3)).ex
  obtain ⟨b, rfl, kb⟩ := f.at_ _ _ _ hu
  rcases h2.look k with ⟨e, _⟩ | ⟨y', v', e, e2, hr⟩
  · rw [hx] at e; cases e
  · rw [hx] at e; cases e
    exact ⟨p, b, kvs, f.nk k, v', hv, rfl, h1.h, h2.keys.up W3.gh, kb.up W3.gh, e2, q v' W3 (l2.trans l3) hr⟩
theorem ev_ndin (hb : EvR ty σ W rk k) (ha : EvR td σ W rRef p) (o : OwnN P w f W p r xs) : EvR (tNIn P w ty td) σ W rBool (nlook xs k).isSome := fun W1 l Q q => hb W1 l _ fun u W2 l2 hu => ha W2 (l.trans l2) _ fun v W3 l3 hv => by
  obtain ⟨kvs, h1, h2⟩ := (o.up ((l.trans l2).trans l3)).ex
  obtain ⟨b, rfl, kb⟩ := f.at_ _ _ _ hu
  refine ⟨p, b, kvs, f.nk k, hv, rfl, h1.h, h2.keys.up W3.gh, (kb.up l3.ex).up W3.gh, ?_⟩
  rcases h2.look k with ⟨e, e2⟩ | ⟨y', v', e, e2, hr⟩
  · rw [e2]; exact q _ W3 (l2.trans l3) (by rw [e]; rfl)
  · rw [e2]; exact q _ W3 (l2.trans l3) (by rw [e]; rfl)
theorem ev_ndnotin (hb : EvR ty σ W rk k) (ha : EvR td σ W rRef p) (o : OwnN P w f W p r xs) : EvR (tNNotIn P w ty td) σ W rBool (!(nlook xs k).isSome) := fun W1 l Q q => hb W1 l _ fun u W2 l2 hu => ha W2 (l.trans l2) _ fun v W3 l3 hv => by
  obtain ⟨kvs, h1, h2⟩ := (o.up ((l.trans l2).trans l3)).ex
  obtain ⟨b, rfl, kb⟩ := f.at_ _ _ _ hu
  refine ⟨p, b, kvs, f.nk k, hv, rfl, h1.h, h2.keys.up W3.gh, (kb.up l3.ex).up W3.gh, ?_⟩
  rcases h2.look k with ⟨e, e2⟩ | ⟨y', v', e, e2, hr⟩
  · rw [e2]; exact q _ W3 (l2.trans l3) (by rw [e]; rfl)
  · rw [e2]; exact q _ W3 (l2.trans l3) (by rw [e]; rfl)
/-- d[k] = e, k new -/
theorem s_nput {Pv : α → Prop} (ha : EvR td σ W rRef p) (hb : EvR ty σ W rk k) (hv : EvN tv σ W r Pv) (o : OwnN P w f W p r xs) (n : nlook xs k = none) (hz : xs.length < 16000000)
    (c : ∀ (W1 : Wd F) y, Kp p W W1 → OwnN P w f W1 p r (xs ++ [(k, y)]) → Pv y → D.nx σ W1.H) : sNPut P w td ty tv D σ W.H :=
  hv W (Le.refl _) _ fun v W1 y l1 hr hy => ha W1 l1 _ fun d W2 l2 hd => hb W2 (l1.trans l2) _ fun u W3 l3 hu => by
    obtain ⟨kvs, h1, h2⟩ := (o.up ((l1.trans l2).trans l3)).ex
    obtain ⟨b, rfl, kb⟩ := f.at_ _ _ _ hu
    rcases h2.look k with ⟨_, e2⟩ | ⟨y', v', e, _⟩
    · refine ⟨p, b, kvs, f.nk k, hd, rfl, h1.h, h2.keys.up W3.gh, kb.up W3.gh, e2, by rw [h2.len]; exact Nat.lt_of_lt_of_le hz (by decide), ?_⟩
      refine c (W3.put p _ h1.z h1.g) y ⟨(l1.ex.trans l2.ex).trans l3.ex, fun q u ne x => (x.up ((l1.trans l2).trans l3)).put ne _ _⟩ ⟨_, W3.put_at h1.z h1.g, Paired.snoc h2 ⟨rfl, hu, ?_⟩⟩ hy
      exact r.mono (l2.ex.trans l3.ex) hr
    · rw [n] at e; cases e
theorem q_nput {Pv : α → Prop} (ha : EvR td σ W rRef p) (hb : EvR ty σ W rk k) (hv : EvN tv σ W r Pv) (o : OwnN P w f W p r xs) (n : nlook xs k = none) (hz : xs.length < 16000000)
    (c : ∀ (W1 : Wd F) y, Kp p W W1 → OwnN P w f W1 p r (xs ++ [(k, y)]) → Pv y → tz D σ W1.H) : tSeq (sNPut P w td ty tv) tz D σ W.H := s_nput (D := { D with nx := tz D }) ha hb hv o n hz c
/-- a new one -/
def EvNd (P : Program) (w : World) (f : NkR rk) (te : TE) (σ : L2.St) (W : Wd F) (r : Rp α) (xs : List (κ × α)) : Prop := ∀ W1 : Wd F, Le W W1 → ∀ Q : VK, (∀ p (W2 : Wd F), Le W1 W2 → W1.H p = none → OwnN P w f W2 p r xs → Q (.ref p) W2.H) → te σ W1.H Q
theorem end_new : EvNd P w f (tNNew P w) σ W r [] := fun W1 l Q q => fun p hp => q p (W1.own p _ hp) (W1.own_le hp) hp ⟨[], W1.own_at hp, .nil⟩
theorem end_disp (hb : EvR tk σ W rk k) (hv : EvR tv σ W r y) : EvNd P w f (tNDisp P w tk tv) σ W r [(k, y)] := fun W1 l Q q => fun p hp => by
  have l0 := W1.own_le (o := dn P w p []) hp
  refine hb (W1.own p _ hp) (l.trans l0) _ fun u W2 l2 hu => hv W2 ((l.trans l0).trans l2) _ fun v W3 l3 hr => ?_
  obtain ⟨b, rfl, kb⟩ := f.at_ _ _ _ hu
  have o3 := ((W1.own_at (o := dn P w p []) hp).up l2).up l3
  refine ⟨b, f.nk k, rfl, o3.h, (kb.up l3.ex).up W3.gh, ?_⟩
  exact q p (W3.put p _ o3.z o3.g) (le_put ((l0.trans l2).trans l3) hp o3.z o3.g) hp ⟨_, W3.put_at o3.z o3.g, .cons ⟨rfl, Rp.up l3.ex hu, hr⟩ .nil⟩
theorem q_asgNd {i : Nat} (h : EvNd P w f te σ W r xs) (c : ∀ p (W1 : Wd F), Le W W1 → W.H p = none → OwnN P w f W1 p r xs → tz D (σ.set i (some (.ref p))) W1.H) : tSeq (tAsg te (gName i)) tz D σ W.H :=
  h W (Le.refl _) _ fun p W1 l hp o => c p W1 l hp o
/-- x.f = such a new one, the object one's own -/
theorem s_setNd {C x dx : Addr} {fs : List (Str × V)} {g : Str} {i : Nat} (hi : σ[i]? = some (some (.ref x))) (a : Own W x (.ins C dx fs)) (cl : Cls K C) (na : NoAttr K C g) (hl : fs.length < 1000) (h : EvNd P w f te σ W r xs)
    (c : ∀ p (W1 : Wd F), Kp x W W1 → W.H p = none → Own W1 x (.ins C dx (putF g (.ref p) fs)) → OwnN P w f W1 p r xs → D.nx σ W1.H) : sFld K (tVar i) te g D σ W.H :=
  h W (Le.refl _) _ fun p W1 l hp o => by
    have o1 := a.up l
    have ne : p ≠ x := (a.ne hp).symm
    obtain ⟨kvs, h1, h2⟩ := o.ex
    exact ⟨_, hi, x, C, dx, fs, rfl, o1.h, cl, na, hl, c p (W1.put x (.ins C dx (putF g (.ref p) fs)) o1.z o1.g) ⟨l.ex, fun q u nq z => (z.up l).put nq _ _⟩ hp (W1.put_at o1.z o1.g) ⟨kvs, h1.put ne _ _, h2⟩⟩
theorem q_setNd {C x dx : Addr} {fs : List (Str × V)} {g : Str} {i : Nat} (hi : σ[i]? = some (some (.ref x))) (a : Own W x (.ins C dx fs)) (cl : Cls K C) (na : NoAttr K C g) (hl : fs.length < 1000) (h : EvNd P w f te σ W r xs)
    (c : ∀ p (W1 : Wd F), Kp x W W1 → W.H p = none → Own W1 x (.ins C dx (putF g (.ref p) fs)) → OwnN P w f W1 p r xs → tz D σ W1.H) : tSeq (sFld K (tVar i) te g) tz D σ W.H := s_setNd (D := { D with nx := tz D }) hi a cl na hl h c
end
end Q

/-! going out from a first state, level by level -/
namespace Q
abbrev CameB (S D : Type) := List (S × Option (D × S))
/-- where deeds lead from a state, and which states are good -/
structure Bf (S D : Type) where
  dl : S → List D
  af : S → D → S
  gd : S → Bool
section
variable {S D : Type} [DecidableEq S] {α : Type}
abbrev keysB (cm : List (S × α)) : List S := cm.map (·.1)
theorem nlook_app {k : S} : ∀ {xs ys : List (S × α)}, nlook (xs ++ ys) k = (nlook xs k).or (nlook ys k)
  | [], ys => by simp [nlook]
  | p :: xs, ys => by
    rw [List.cons_append]
    by_cases e : p.1 = k
    · rw [nlook_pos e, nlook_pos e]; rfl
    · rw [nlook_neg e, nlook_neg e, nlook_app]
theorem nlook_pre {k : S} {xs ys : List (S × α)} {v : α} (h : nlook xs k = some v) : nlook (xs ++ ys) k = some v := by rw [nlook_app, h]; rfl
theorem nlook_mem {k : S} : ∀ {xs : List (S × α)} {v : α}, nlook xs k = some v → (k, v) ∈ xs
  | [], v, h => by simp [nlook] at h
  | p :: xs, v, h => by
    by_cases e : p.1 = k
    · rw [nlook_pos e] at h; cases h; rw [← e]; exact List.mem_cons_self
    · rw [nlook_neg e] at h; exact List.mem_cons_of_mem _ (nlook_mem h)
theorem nlook_of {k : S} : ∀ {xs : List (S × α)} {v : α}, (keysB xs).Nodup → (k, v) ∈ xs → nlook xs k = some v
  | p :: xs, v, nd, h => by
    rw [keysB, List.map_cons, List.nodup_cons] at nd
    rcases List.mem_cons.mp h with e | h
    · rw [← e]; exact nlook_pos rfl
    · have : ¬ p.1 = k := fun z => nd.1 (by rw [z]; exact List.mem_map_of_mem (f := (·.1)) h)
      rw [nlook_neg this]; exact nlook_of nd.2 h
theorem nlook_key {k : S} {xs : List (S × α)} (h : k ∈ keysB xs) : ∃ v, nlook xs k = some v := by
  have : (nlook xs k).isSome = true := by rw [nlook_some]; exact decide_eq_true h
  exact Option.isSome_iff_exists.mp this
end
section
variable {S D : Type} [DecidableEq S] (B : Bf S D)
def addB (cm : CameB S D) (st : S) (d : D) : CameB S D := if (!(nlook cm (B.af st d)).isSome && B.gd (B.af st d)) = true then cm ++ [(B.af st d, some (d, st))] else cm
def expB (cm : CameB S D) (st : S) : CameB S D := (B.dl st).foldl (fun c d => addB B c st d) cm
def goB (cm : CameB S D) (lv : List S) : CameB S D := lv.foldl (expB B) cm
def lvsB (s0 : S) : Nat → CameB S D × List S
  | 0 => ([(s0, none)], [s0])
  | k + 1 => (goB B (lvsB s0 k).1 (lvsB s0 k).2, (keysB (goB B (lvsB s0 k).1 (lvsB s0 k).2)).drop (lvsB s0 k).1.length)
/-- a list of deeds through good states -/
inductive RunB (s0 : S) : List D → S → Prop
  | nil : RunB s0 [] s0
  | snoc {ds : List D} {st : S} {d : D} (r : RunB s0 ds st) (h : d ∈ B.dl st) (g : B.gd (B.af st d) = true) : RunB s0 (ds ++ [d]) (B.af st d)
end
/-- the deeds by which a state was come to -/
inductive PathB {S D : Type} [DecidableEq S] (cm : CameB S D) : S → List D → Prop
  | root {st : S} (h : nlook cm st = some none) : PathB cm st []
  | step {st p : S} {d : D} {ds : List D} (h : nlook cm st = some (some (d, p))) (t : PathB cm p ds) : PathB cm st (ds ++ [d])
section
variable {S D : Type} [DecidableEq S] {B : Bf S D} {cm cm' : CameB S D} {s0 st : S} {d : D} {ds es : List D} {lv : List S}
theorem PathB.pre {more : CameB S D} (h : PathB cm st ds) : PathB (cm ++ more) st ds := by
  induction h with
  | root h => exact .root (nlook_pre h)
  | step h t ih => exact .step (nlook_pre h) ih
theorem PathB.det (h : PathB cm st ds) (h' : PathB cm st es) : ds = es := by
  induction h generalizing es with
  | root h => cases h' with
    | root => rfl
    | step h2 _ => rw [h] at h2; cases h2
  | step h t ih => cases h' with
    | root h2 => rw [h] at h2; cases h2
    | step h2 t2 => rw [h] at h2; cases h2; rw [ih t2]
/-- what came new -/
structure NewB (B : Bf S D) (cm cm' : CameB S D) (P : S → D → Prop) : Prop where
  ex : ∃ more, cm' = cm ++ more ∧ ∀ e ∈ more, ∃ st d, e = (B.af st d, some (d, st)) ∧ P st d ∧ B.gd (B.af st d) = true ∧ B.af st d ∉ keysB cm
  nd : (keysB cm).Nodup → (keysB cm').Nodup
theorem NewB.refl {P : S → D → Prop} : NewB B cm cm P := ⟨⟨[], by simp, fun e he => by cases he⟩, fun h => h⟩
theorem NewB.trans {c1 c2 c3 : CameB S D} {P : S → D → Prop} (x : NewB B c1 c2 P) (y : NewB B c2 c3 P) : NewB B c1 c3 P := by
  obtain ⟨m1, rfl, h1⟩ := x.ex
  obtain ⟨m2, rfl, h2⟩ := y.ex
  refine ⟨⟨m1 ++ m2, by rw [List.append_assoc], fun e he => ?_⟩, fun h => y.nd (x.nd h)⟩
  rcases List.mem_append.mp he with z | z
  · exact h1 e z
  · obtain ⟨st, d, a, b, c, n⟩ := h2 e z
    exact ⟨st, d, a, b, c, fun q => n (by rw [keysB, List.map_append]; exact List.mem_append_left _ q)⟩
theorem NewB.imp {P P' : S → D → Prop} (x : NewB B cm cm' P) (k : ∀ st d, P st d → P' st d) : NewB B cm cm' P' := by
  obtain ⟨m, e, h⟩ := x.ex
  exact ⟨⟨m, e, fun y hy => let ⟨st, d, a, b, c⟩ := h y hy; ⟨st, d, a, k _ _ b, c⟩⟩, x.nd⟩
theorem add_new : NewB B cm (addB B cm st d) (fun s e => s = st ∧ e = d) := by
  unfold addB
  split
  · rename_i h
    rw [Bool.and_eq_true, Bool.not_eq_true', nlook_some, decide_eq_false_iff_not] at h
    refine ⟨⟨_, rfl, fun e he => ?_⟩, fun nd => ?_⟩
    · rw [List.mem_singleton.mp he]; exact ⟨st, d, rfl, ⟨rfl, rfl⟩, h.2, h.1⟩
    · rw [keysB, List.map_append, List.nodup_append]
      exact ⟨nd, by simp, fun a ha b hb z => by
        have : b = B.af st d := by simpa using hb
        exact h.1 (by rw [← this, ← z]; exact ha)⟩
  · exact NewB.refl
theorem add_has (g : B.gd (B.af st d) = true) : B.af st d ∈ keysB (addB B cm st d) := by
  unfold addB
  split
  · simp [keysB]
  · rename_i h
    rw [g, Bool.and_true, Bool.not_eq_true', nlook_some] at h
    simpa using h
theorem NewB.sub {P : S → D → Prop} (x : NewB B cm cm' P) {k : S} (h : k ∈ keysB cm) : k ∈ keysB cm' := by
  obtain ⟨m, rfl, _⟩ := x.ex
  rw [keysB, List.map_append]; exact List.mem_append_left _ h
theorem exps_new (ds : List D) : ∀ (c : CameB S D), NewB B c (ds.foldl (fun c d => addB B c st d) c) (fun s e => s = st ∧ e ∈ ds) ∧ ∀ d ∈ ds, B.gd (B.af st d) = true → B.af st d ∈ keysB (ds.foldl (fun c d => addB B c st d) c) := by
  induction ds with
  | nil => exact fun c => ⟨NewB.refl, fun d hd => by cases hd⟩
  | cons d ds ih =>
    intro c
    obtain ⟨i1, i2⟩ := ih (addB B c st d)
    refine ⟨(add_new.imp fun s e h => ⟨h.1, by rw [h.2]; exact List.mem_cons_self⟩).trans (i1.imp fun s e h => ⟨h.1, List.mem_cons_of_mem _ h.2⟩), fun e he g => ?_⟩
    rcases List.mem_cons.mp he with z | z
    · subst z
      exact i1.sub (add_has g)
    · exact i2 e z g
theorem exp_new : NewB B cm (expB B cm st) (fun s e => s = st ∧ e ∈ B.dl st) := (exps_new (B.dl st) cm).1
theorem exp_has (h : d ∈ B.dl st) (g : B.gd (B.af st d) = true) : B.af st d ∈ keysB (expB B cm st) := (exps_new (B.dl st) cm).2 d h g
theorem go_new : ∀ (lv : List S) (c : CameB S D), NewB B c (goB B c lv) (fun s e => s ∈ lv ∧ e ∈ B.dl s) ∧ ∀ s ∈ lv, ∀ d ∈ B.dl s, B.gd (B.af s d) = true → B.af s d ∈ keysB (goB B c lv) := by
  intro lv
  induction lv with
  | nil => exact fun c => ⟨NewB.refl, fun d hd => by cases hd⟩
  | cons s lv ih =>
    intro c
    obtain ⟨i1, i2⟩ := ih (expB B c s)
    refine ⟨(exp_new.imp fun x e h => ⟨by rw [h.1]; exact List.mem_cons_self, by rw [h.1]; exact h.2⟩).trans (i1.imp fun x e h => ⟨List.mem_cons_of_mem _ h.1, h.2⟩), fun x hx d hd g => ?_⟩
    rcases List.mem_cons.mp hx with z | z
    · subst z
      exact i1.sub (exp_has hd g)
    · exact i2 x z d hd g
/-- what holds at each level -/
structure LvOk (B : Bf S D) (s0 : S) (k : Nat) (p : CameB S D × List S) : Prop where
  sfx : ∃ pre, keysB p.1 = pre ++ p.2
  nd : (keysB p.1).Nodup
  ent : ∀ x o, (x, o) ∈ p.1 → (o = none ∧ x = s0) ∨ ∃ d q, o = some (d, q) ∧ q ∈ keysB p.1 ∧ d ∈ B.dl q ∧ x = B.af q d ∧ B.gd x = true
  root : nlook p.1 s0 = some none
  lev : ∀ x ∈ p.2, ∃ ds, PathB p.1 x ds ∧ ds.length = k
  all : ∀ x ∈ keysB p.1, ∃ j, j ≤ k ∧ x ∈ (lvsB B s0 j).2
theorem lvs_ok (B : Bf S D) (s0 : S) : ∀ k, LvOk B s0 k (lvsB B s0 k)
  | 0 => by
    refine ⟨⟨[], rfl⟩, by simp [lvsB, keysB], fun x o h => .inl ?_, nlook_pos rfl, fun x hx => ?_, fun x hx => ⟨0, Nat.le_refl _, hx⟩⟩
    · have := List.mem_singleton.mp h
      cases this
      exact ⟨rfl, rfl⟩
    · have := List.mem_singleton.mp hx
      subst this
      exact ⟨[], .root (nlook_pos rfl), rfl⟩
  | k + 1 => by
    have ih := lvs_ok B s0 k
    obtain ⟨nw, cl⟩ := go_new (B := B) (lvsB B s0 k).2 (lvsB B s0 k).1
    have nd := nw.nd ih.nd
    obtain ⟨more, e, hm⟩ := nw.ex
    have e1 : (lvsB B s0 (k + 1)).1 = (lvsB B s0 k).1 ++ more := e
    have e2 : (lvsB B s0 (k + 1)).2 = keysB more := by
      show (keysB (goB B _ _)).drop _ = _
      rw [e, keysB, List.map_append]
      exact List.drop_left' (by simp)
    have kk : keysB (lvsB B s0 (k + 1)).1 = keysB (lvsB B s0 k).1 ++ keysB more := by rw [e1, keysB, List.map_append]
    have sub : ∀ x ∈ (lvsB B s0 k).2, x ∈ keysB (lvsB B s0 k).1 := fun x hx => by
      obtain ⟨pre, z⟩ := ih.sfx
      rw [z]; exact List.mem_append_right _ hx
    have nd' : (keysB (lvsB B s0 (k + 1)).1).Nodup := nd
    refine ⟨⟨_, by rw [kk, e2]⟩, nd', fun x o h => ?_, by rw [e1]; exact nlook_pre ih.root, fun x hx => ?_, fun x hx => ?_⟩
    · rw [e1] at h
      rcases List.mem_append.mp h with z | z
      · rcases ih.ent x o z with y | ⟨d, q, a, b, c⟩
        · exact .inl y
        · exact .inr ⟨d, q, a, by rw [kk]; exact List.mem_append_left _ b, c⟩
      · obtain ⟨st, d, a, b, c, n⟩ := hm _ z
        cases a
        exact .inr ⟨d, st, rfl, by rw [kk]; exact List.mem_append_left _ (sub st b.1), b.2, rfl, c⟩
    · rw [e2] at hx
      obtain ⟨y, hy, rfl⟩ := List.mem_map.mp hx
      obtain ⟨st, d, a, b, c, n⟩ := hm y hy
      subst a
      obtain ⟨ds, p1, p2⟩ := ih.lev st b.1
      refine ⟨ds ++ [d], ?_, by rw [List.length_append, p2]; rfl⟩
      refine .step (nlook_of nd' (by rw [e1]; exact List.mem_append_right _ hy)) ?_
      rw [e1]; exact p1.pre
    · rw [kk] at hx
      rcases List.mem_append.mp hx with z | z
      · obtain ⟨j, a, b⟩ := ih.all x z
        exact ⟨j, by omega, b⟩
      · exact ⟨k + 1, Nat.le_refl _, by rw [e2]; exact z⟩
theorem lvs_app (B : Bf S D) (s0 : S) (k : Nat) : ∃ more, (lvsB B s0 (k + 1)).1 = (lvsB B s0 k).1 ++ more ∧ (lvsB B s0 (k + 1)).2 = keysB more := by
  obtain ⟨nw, _⟩ := go_new (B := B) (lvsB B s0 k).2 (lvsB B s0 k).1
  obtain ⟨more, e, hm⟩ := nw.ex
  refine ⟨more, e, ?_⟩
  show (keysB (goB B _ _)).drop _ = _
  rw [e, keysB, List.map_append]
  exact List.drop_left' (by simp)
theorem lvs_mono {B : Bf S D} {s0 : S} {j k : Nat} (h : j ≤ k) : ∃ more, (lvsB B s0 k).1 = (lvsB B s0 j).1 ++ more := by
  induction k with
  | zero => have : j = 0 := by omega
            subst this; exact ⟨[], by simp⟩
  | succ k ih =>
    by_cases e : j = k + 1
    · subst e; exact ⟨[], by simp⟩
    · obtain ⟨m, hm⟩ := ih (by omega)
      obtain ⟨m2, h2, _⟩ := lvs_app B s0 k
      exact ⟨m ++ m2, by rw [h2, hm, List.append_assoc]⟩
theorem lv_key {B : Bf S D} {s0 : S} {k : Nat} {x : S} (h : x ∈ (lvsB B s0 k).2) : x ∈ keysB (lvsB B s0 k).1 := by
  obtain ⟨pre, z⟩ := (lvs_ok B s0 k).sfx
  rw [z]; exact List.mem_append_right _ h
theorem key_mono {B : Bf S D} {s0 : S} {j k : Nat} (h : j ≤ k) {x : S} (hx : x ∈ keysB (lvsB B s0 j).1) : x ∈ keysB (lvsB B s0 k).1 := by
  obtain ⟨m, e⟩ := lvs_mono (B := B) (s0 := s0) h
  rw [e, keysB, List.map_append]; exact List.mem_append_left _ hx
/-- each level's states are of no other level -/
theorem lv_uniq {B : Bf S D} {s0 : S} {j k : Nat} {x : S} (h1 : x ∈ (lvsB B s0 j).2) (h2 : x ∈ (lvsB B s0 k).2) : j = k := by
  have key : ∀ {a b : Nat}, a < b → x ∈ (lvsB B s0 a).2 → x ∈ (lvsB B s0 b).2 → False := fun {a b} h y1 y2 => by
    obtain ⟨b', rfl⟩ : ∃ b', b = b' + 1 := ⟨b - 1, by omega⟩
    obtain ⟨more, e1, e2⟩ := lvs_app B s0 b'
    have nd := (lvs_ok B s0 (b' + 1)).nd
    rw [e1, keysB, List.map_append, List.nodup_append] at nd
    rw [e2] at y2
    exact nd.2.2 x (key_mono (show a ≤ b' by omega) (lv_key y1)) x y2 rfl
  rcases Nat.lt_trichotomy j k with h | h | h
  · exact (key h h1 h2).elim
  · exact h
  · exact (key h h2 h1).elim
theorem run_key {B : Bf S D} {s0 : S} (r : RunB B s0 ds st) : st ∈ keysB (lvsB B s0 ds.length).1 := by
  induction r with
  | nil => exact List.mem_singleton.mpr rfl
  | @snoc ds st d r h g ih =>
    obtain ⟨j, hj, hx⟩ := (lvs_ok B s0 _).all _ ih
    obtain ⟨_, cl⟩ := go_new (B := B) (lvsB B s0 j).2 (lvsB B s0 j).1
    have z := cl st hx d h g
    exact key_mono (show j + 1 ≤ (ds ++ [d]).length by rw [List.length_append]; simp; omega) z
theorem path_run {B : Bf S D} {s0 : S} {k : Nat} (h : PathB (lvsB B s0 k).1 st ds) : RunB B s0 ds st := by
  have ok := lvs_ok B s0 k
  induction h with
  | root h =>
    rcases ok.ent _ _ (nlook_mem h) with ⟨_, e⟩ | ⟨d, q, e, _⟩
    · rw [e]; exact .nil
    · cases e
  | step h t ih =>
    rcases ok.ent _ _ (nlook_mem h) with ⟨e, _⟩ | ⟨d, q, e, _, h1, h2, h3⟩
    · cases e
    · cases e
      rw [h2] at h3 ⊢
      exact .snoc ih h1 h3
/-- how far a state is -/
theorem lv_least {B : Bf S D} {s0 : S} {k : Nat} (h : st ∈ (lvsB B s0 k).2) (r : RunB B s0 ds st) : k ≤ ds.length := by
  obtain ⟨j, hj, hx⟩ := (lvs_ok B s0 _).all _ (run_key r)
  rw [lv_uniq h hx]; exact hj
theorem run_v {B : Bf S D} {s0 : S} {V : S → Prop} (h0 : V s0) (hs : ∀ st d, V st → d ∈ B.dl st → V (B.af st d)) (r : RunB B s0 ds st) : V st := by
  induction r with
  | nil => exact h0
  | snoc r h g ih => exact hs _ _ ih h
theorem run_gd {B : Bf S D} {s0 : S} (h0 : B.gd s0 = true) (r : RunB B s0 ds st) : B.gd st = true := by
  cases r with
  | nil => exact h0
  | snoc r h g => exact g
theorem key_path {B : Bf S D} {s0 : S} {k : Nat} (h : st ∈ keysB (lvsB B s0 k).1) : ∃ ds, PathB (lvsB B s0 k).1 st ds ∧ ds.length ≤ k := by
  obtain ⟨j, hj, hx⟩ := (lvs_ok B s0 k).all _ h
  obtain ⟨ds, p, e⟩ := (lvs_ok B s0 j).lev _ hx
  obtain ⟨m, em⟩ := lvs_mono (B := B) (s0 := s0) hj
  exact ⟨ds, by rw [em]; exact p.pre, by omega⟩
theorem key_v {B : Bf S D} {s0 : S} {V : S → Prop} (h0 : V s0) (hs : ∀ st d, V st → d ∈ B.dl st → V (B.af st d)) {k : Nat} (h : st ∈ keysB (lvsB B s0 k).1) : V st := by
  obtain ⟨ds, p, _⟩ := key_path h
  exact run_v h0 hs (path_run p)
/-- nothing is farther than an empty level -/
theorem lvs_stop {B : Bf S D} {s0 : S} {k : Nat} (h : (lvsB B s0 k).2 = []) : ∀ m, k ≤ m → (lvsB B s0 m).1 = (lvsB B s0 k).1 ∧ (lvsB B s0 m).2 = [] := by
  intro m
  induction m with
  | zero => intro hm; have : k = 0 := by omega
            subst this; exact ⟨rfl, h⟩
  | succ m ih =>
    intro hm
    by_cases e : k = m + 1
    · subst e; exact ⟨rfl, h⟩
    · obtain ⟨i1, i2⟩ := ih (by omega)
      show goB B _ _ = _ ∧ (keysB (goB B _ _)).drop _ = []
      rw [i2]
      refine ⟨i1, ?_⟩
      show (keysB (lvsB B s0 m).1).drop (lvsB B s0 m).1.length = []
      rw [List.drop_eq_nil_iff]; simp
end
end Q

/-! a search, as an object of one's own with two dicts -/
namespace Q
open PySem L2
abbrev DeedT := Str × Int
abbrev CameT := CameB StD DeedT
abbrev RkT := List (List Int × Option (List Int × Int))
abbrev rReck : Rp (Option (List Int × Int)) := rOpt (rT2 (rList rInt) rInt)
abbrev rCameV : Rp (Option (DeedT × StD)) := rOpt (rT2 rDd rSt)
structure SrD where
  n : NetD
  dark : Int
  words : List Str
  first : List Int
abbrev litN (n : NetD) (S : List Int) : List Int := ledM n.needs.length n.lines S n.sources
/-- what closed lines light, and how much of what was lit at first they don't -/
def reckM (n : NetD) (first c : List Int) : Option (List Int × Int) := if whyN n c = "" then some (litN n c, (((first.filter fun p => !decide (p ∈ litN n c)).length : Nat) : Int)) else none
def gdM (n : NetD) (first : List Int) (dark : Int) (st : StD) : Bool := match reckM n first st.1 with
  | some x => decide (x.2 ≤ dark)
  | none => false
def bfM (n : NetD) (words : List Str) (first : List Int) (dark : Int) : Bf StD DeedT := ⟨fun st => (deedsM n.lines.length st).filter fun d => decide (d.1 ∈ words), afterM, gdM n first dark⟩
abbrev SrD.b (s : SrD) : Bf StD DeedT := bfM s.n s.words s.first s.dark
def srchFs (vn vw vl vv : V) (dark : Int) (pr pc : Addr) : List (Str × V) := [("_net", vn), ("_dark", .int dark), ("_words", vw), ("_lit_at_first", vl), ("_reckoned", .ref pr), ("_came", .ref pc), ("level", vv)]
section
variable {vn vw vl vv vv' : V} {dark : Int} {pr pc : Addr}
theorem sf_net : (srchFs vn vw vl vv dark pr pc).lookup ("_net" : Str) = some vn := by
  unfold srchFs; rw [look_put, if_pos rfl]
theorem sf_dark : (srchFs vn vw vl vv dark pr pc).lookup ("_dark" : Str) = some (.int dark) := by
  unfold srchFs; rw [look_put, if_neg (by decide +kernel), look_put, if_pos rfl]
theorem sf_words : (srchFs vn vw vl vv dark pr pc).lookup ("_words" : Str) = some vw := by
  unfold srchFs; rw [look_put, if_neg (by decide +kernel), look_put, if_neg (by decide +kernel), look_put, if_pos rfl]
theorem sf_first : (srchFs vn vw vl vv dark pr pc).lookup ("_lit_at_first" : Str) = some vl := by
  unfold srchFs; rw [look_put, if_neg (by decide +kernel), look_put, if_neg (by decide +kernel), look_put, if_neg (by decide +kernel), look_put, if_pos rfl]
theorem sf_reck : (srchFs vn vw vl vv dark pr pc).lookup ("_reckoned" : Str) = some (.ref pr) := by
  unfold srchFs; rw [look_put, if_neg (by decide +kernel), look_put, if_neg (by decide +kernel), look_put, if_neg (by decide +kernel), look_put, if_neg (by decide +kernel), look_put, if_pos rfl]
theorem sf_came : (srchFs vn vw vl vv dark pr pc).lookup ("_came" : Str) = some (.ref pc) := by
  unfold srchFs; rw [look_put, if_neg (by decide +kernel), look_put, if_neg (by decide +kernel), look_put, if_neg (by decide +kernel), look_put, if_neg (by decide +kernel), look_put, if_neg (by decide +kernel), look_put, if_pos rfl]
theorem sf_level : (srchFs vn vw vl vv dark pr pc).lookup ("level" : Str) = some vv := by
  unfold srchFs; rw [look_put, if_neg (by decide +kernel), look_put, if_neg (by decide +kernel), look_put, if_neg (by decide +kernel), look_put, if_neg (by decide +kernel), look_put, if_neg (by decide +kernel), look_put, if_neg (by decide +kernel), look_put, if_pos rfl]
theorem sf_none {m : Str} (h1 : ¬ m = "_net") (h2 : ¬ m = "_dark") (h3 : ¬ m = "_words") (h4 : ¬ m = "_lit_at_first") (h5 : ¬ m = "_reckoned") (h6 : ¬ m = "_came") (h7 : ¬ m = "level") : (srchFs vn vw vl vv dark pr pc).lookup m = none := by
  unfold srchFs; rw [look_put, if_neg h1, look_put, if_neg h2, look_put, if_neg h3, look_put, if_neg h4, look_put, if_neg h5, look_put, if_neg h6, look_put, if_neg h7]; rfl
theorem sf_put : putF "level" vv' (srchFs vn vw vl vv dark pr pc) = srchFs vn vw vl vv' dark pr pc := by
  unfold srchFs
  simp only [putF]
  rw [if_neg (by decide +kernel), if_neg (by decide +kernel), if_neg (by decide +kernel), if_neg (by decide +kernel), if_neg (by decide +kernel), if_neg (by decide +kernel), if_pos trivial]
theorem sf_new : putF "level" vv (putF "_came" (.ref pc) (putF "_reckoned" (.ref pr) (putF "_lit_at_first" vl (putF "_words" vw (putF "_dark" (.int dark) (putF "_net" vn [])))))) = srchFs vn vw vl vv dark pr pc := by
  unfold srchFs
  repeat (first | rw [if_neg (by decide +kernel)] | simp only [putF])
end
theorem nodup_subG {α : Type} [DecidableEq α] : ∀ (xs ys : List α), xs.Nodup → (∀ x ∈ xs, x ∈ ys) → xs.length ≤ ys.length
  | [], _, _, _ => Nat.zero_le _
  | x :: xs, ys, nd, h => by
    rw [List.nodup_cons] at nd
    have hx := h x List.mem_cons_self
    have := nodup_subG xs (ys.erase x) nd.2 fun y hy => (List.mem_erase_of_ne (fun z : y = x => nd.1 (z ▸ hy))).mpr (h y (List.mem_cons_of_mem _ hy))
    rw [List.length_erase_of_mem hx] at this
    have : 0 < ys.length := List.length_pos_of_mem hx
    rw [List.length_cons]
    omega
/-- what is remembered of closed lines -/
structure ReckOk (s : SrD) (rk : RkT) : Prop where
  val : ∀ c v, nlook rk c = some v → v = reckM s.n s.first c
  nd : (keysB rk).Nodup
  sub : ∀ c ∈ keysB rk, c ∈ subsM (rg s.n.lines.length)
  l10 : s.n.lines.length ≤ 10
theorem ReckOk.len {s : SrD} {rk : RkT} (h : ReckOk s rk) : rk.length ≤ 1024 := by
  have := nodup_subG _ _ h.nd h.sub
  rw [subsM_len, rg_len] at this
  have e : (keysB rk).length = rk.length := by simp
  have : (2 : Nat) ^ ((s.n.lines.length : Int)).toNat ≤ 2 ^ 10 := Nat.pow_le_pow_right (by decide) (by have := h.l10; omega)
  omega
theorem ReckOk.new {s : SrD} {rk : RkT} (h : ReckOk s rk) {c : List Int} (n : nlook rk c = none) (hc : c ∈ subsM (rg s.n.lines.length)) : ReckOk s (rk ++ [(c, reckM s.n s.first c)]) := by
  refine ⟨fun x v e => ?_, ?_, fun x hx => ?_, h.l10⟩
  · rw [nlook_snoc n] at e
    split at e
    · rename_i z; cases e; rw [z]
    · exact h.val x v e
  · rw [keysB, List.map_append, List.nodup_append]
    exact ⟨h.nd, by simp, fun a ha b hb z => by
      have : b = c := by simpa using hb
      exact nlook_none.mp n (by rw [← this, ← z]; exact ha)⟩
  · rw [keysB, List.map_append] at hx
    rcases List.mem_append.mp hx with z | z
    · exact h.sub x z
    · have : x = c := by simpa using z
      rw [this]; exact hc
section
variable {P : Program} {w : World} {F : Fr} {K : PySem.W.Frag} {σ : L2.St} {W W1 : Wd F} {C CN x pr pc : Addr} {s : SrD} {cm : CameT} {lv : List StD} {rk : RkT}
/-- a search of one's own -/
structure SrchO (P : Program) (w : World) (W : Wd F) (C CN x pr pc : Addr) (s : SrD) (cm : CameT) (lv : List StD) (rk : RkT) : Prop where
  ex : ∃ dx vn vw vl vv, Own W x (.ins C dx (srchFs vn vw vl vv s.dark pr pc)) ∧ (rNet CN).rel W.G vn s.n ∧ (rTup rStr).rel W.G vw s.words ∧ (rList rInt).rel W.G vl s.first ∧ (rList rSt).rel W.G vv lv
  r : OwnN P w nkInts W pr rReck rk
  c : OwnN P w nkSt W pc rCameV cm
  ne : pr ≠ pc
  ok : ReckOk s rk
theorem SrchO.up (l : Le W W1) (d : SrchO P w W C CN x pr pc s cm lv rk) : SrchO P w W1 C CN x pr pc s cm lv rk := by
  obtain ⟨dx, vn, vw, vl, vv, h1, h2, h3, h4, h5⟩ := d.ex
  exact ⟨⟨dx, vn, vw, vl, vv, h1.up l, Rp.up l.ex h2, Rp.up l.ex h3, Rp.up l.ex h4, Rp.up l.ex h5⟩, d.r.up l, d.c.up l, d.ne, d.ok⟩
theorem SrchO.nr (d : SrchO P w W C CN x pr pc s cm lv rk) : x ≠ pr := fun z => by
  obtain ⟨dx, vn, vw, vl, vv, h1, _⟩ := d.ex
  obtain ⟨kvs, h2, _⟩ := d.r.ex
  subst z
  cases h1.h.symm.trans h2.h
theorem SrchO.nc (d : SrchO P w W C CN x pr pc s cm lv rk) : x ≠ pc := fun z => by
  obtain ⟨dx, vn, vw, vl, vv, h1, _⟩ := d.ex
  obtain ⟨kvs, h2, _⟩ := d.c.ex
  subst z
  cases h1.h.symm.trans h2.h
abbrev srchS (x pr pc : Addr) : Addr → Prop := fun a => a = x ∨ a = pr ∨ a = pc
theorem SrchO.kpS {S : Addr → Prop} (k : KpS S W W1) (n : ∀ a, srchS x pr pc a → ¬ S a) (d : SrchO P w W C CN x pr pc s cm lv rk) : SrchO P w W1 C CN x pr pc s cm lv rk := by
  obtain ⟨dx, vn, vw, vl, vv, h1, h2, h3, h4, h5⟩ := d.ex
  exact ⟨⟨dx, vn, vw, vl, vv, k.kp _ _ (n x (.inl rfl)) h1, Rp.up k.ex h2, Rp.up k.ex h3, Rp.up k.ex h4, Rp.up k.ex h5⟩, d.r.kpS k (n pr (.inr (.inl rfl))), d.c.kpS k (n pc (.inr (.inr rfl))), d.ne, d.ok⟩
theorem SrchO.kp {y : Addr} (k : Kp y W W1) (n : ¬ srchS x pr pc y) (d : SrchO P w W C CN x pr pc s cm lv rk) : SrchO P w W1 C CN x pr pc s cm lv rk :=
  d.kpS (S := (· = y)) (.of_kp k rfl) fun a ha z => n (z ▸ ha)
theorem SrchO.apart {y : Addr} {o : HO} (d : SrchO P w W C CN x pr pc s cm lv rk) (h : W.H y = some o) (n1 : ∀ C dx fs, o ≠ .ins C dx fs) (n2 : ∀ φ, o ≠ .ext φ) : ¬ srchS x pr pc y := by
  obtain ⟨dx, vn, vw, vl, vv, h1, _⟩ := d.ex
  obtain ⟨k1, h2, _⟩ := d.r.ex
  obtain ⟨k2, h3, _⟩ := d.c.ex
  rintro (z | z | z)
  · subst z; rw [h1.h] at h; cases h; exact n1 _ _ _ rfl
  · subst z; rw [h2.h] at h; cases h; exact n2 _ rfl
  · subst z; rw [h3.h] at h; cases h; exact n2 _ rfl
theorem SrchO.apartL {y : Addr} {α : Type} {r : Rp α} {xs : List α} (d : SrchO P w W C CN x pr pc s cm lv rk) (h : OwnL W y r xs) : ¬ srchS x pr pc y := by
  obtain ⟨vs, h1, _⟩ := h.ex
  exact d.apart h1.h (fun _ _ _ z => nomatch z) (fun _ z => nomatch z)
theorem SrchO.ins {gh : Ex W.G W.H} (d : SrchO P w W C CN x pr pc s cm lv rk) : SrchO P w (Wd.inS W.G W.H (srchS x pr pc) gh) C CN x pr pc s cm lv rk := by
  obtain ⟨dx, vn, vw, vl, vv, h1, h2, h3, h4, h5⟩ := d.ex
  obtain ⟨k1, r1, r2⟩ := d.r.ex
  obtain ⟨k2, c1, c2⟩ := d.c.ex
  exact ⟨⟨dx, vn, vw, vl, vv, Wd.inS_own (.inl rfl) h1.g h1.h, h2, h3, h4, h5⟩, ⟨k1, Wd.inS_own (.inr (.inl rfl)) r1.g r1.h, r2⟩, ⟨k2, Wd.inS_own (.inr (.inr rfl)) c1.g c1.h, c2⟩, d.ne, d.ok⟩
theorem SrchO.own (d : SrchO P w W C CN x pr pc s cm lv rk) : ∀ a, srchS x pr pc a → W.G a = none ∧ F.H0 a = none := by
  obtain ⟨dx, vn, vw, vl, vv, h1, _⟩ := d.ex
  obtain ⟨k1, r1, r2⟩ := d.r.ex
  obtain ⟨k2, c1, c2⟩ := d.c.ex
  rintro a (rfl | rfl | rfl)
  · exact ⟨h1.g, h1.z⟩
  · exact ⟨r1.g, r1.z⟩
  · exact ⟨c1.g, c1.z⟩
theorem SrchO.ofS {S : Addr → Prop} {own : ∀ a, S a → W.G a = none ∧ F.H0 a = none} {W' : Wd (sF W.G W.H S)} (d : SrchO P w W' C CN x pr pc s cm lv rk) : SrchO P w (W.backS own W') C CN x pr pc s cm lv rk := by
  obtain ⟨dx, vn, vw, vl, vv, h1, h2, h3, h4, h5⟩ := d.ex
  obtain ⟨k1, r1, r2⟩ := d.r.ex
  obtain ⟨k2, c1, c2⟩ := d.c.ex
  exact ⟨⟨dx, vn, vw, vl, vv, h1.ofS, h2, h3, h4, h5⟩, ⟨k1, r1.ofS, r2⟩, ⟨k2, c1.ofS, c2⟩, d.ne, d.ok⟩
end
/-! methods -/
section
variable {α β : Type}
/-- a method of one argument that may remember more -/
def SpSr (P : Program) (w : World) (C CN : Addr) (ra : Rp α) (rb : Rp β) (pre : SrD → CameT → α → Prop) (f : SrD → CameT → α → β → Prop) : Sp := fun vs H Q _ => ∃ (G : Hp) (gh : Ex G H) (x pr pc : Addr) (s : SrD) (cm : CameT) (lv : List StD) (rk : RkT) (v : V) (y : α), vs = [.ref x, v] ∧ SrchO P w (Wd.inS G H (srchS x pr pc) gh) C CN x pr pc s cm lv rk ∧ ra.rel G v y ∧ pre s cm y ∧
  ∀ u (W : Wd (sF G H (srchS x pr pc))) z rk', SrchO P w W C CN x pr pc s cm lv rk' → rb.rel W.G u z → f s cm y z → Q u W.H
/-- one that turns nothing -/
def SpSr0 (P : Program) (w : World) (C CN : Addr) (ra : Rp α) (rb : Rp β) (pre : SrD → CameT → α → Prop) (f : SrD → CameT → α → β → Prop) : Sp := fun vs H Q _ => ∃ (G : Hp) (gh : Ex G H) (x pr pc : Addr) (s : SrD) (cm : CameT) (lv : List StD) (rk : RkT) (v : V) (y : α), vs = [.ref x, v] ∧ SrchO P w (Wd.inS G H (srchS x pr pc) gh) C CN x pr pc s cm lv rk ∧ ra.rel G v y ∧ pre s cm y ∧
  ∀ u (W : Wd (sF G H (srchS x pr pc))) z, Le (Wd.inS G H (srchS x pr pc) gh) W → rb.rel W.G u z → f s cm y z → Q u W.H
/-- what a name for a method must not be -/
structure MName (m : Str) : Prop where
  h1 : ¬ m = "_net"
  h2 : ¬ m = "_dark"
  h3 : ¬ m = "_words"
  h4 : ¬ m = "_lit_at_first"
  h5 : ¬ m = "_reckoned"
  h6 : ¬ m = "_came"
  h7 : ¬ m = "level"
end
section
variable {P : Program} {w : World} {F : Fr} {K : PySem.W.Frag} {σ : L2.St} {W W1 : Wd F} {ta tb : TE} {C CN x pr pc : Addr} {s : SrD} {cm : CameT} {lv : List StD} {rk : RkT} {α β : Type} {ra : Rp α} {rb : Rp β} {m : Str} {pre : SrD → CameT → α → Prop} {f : SrD → CameT → α → β → Prop} {E : XK} {i : Nat} {y : α} {Q : VK}
theorem sr_call (hm : MName m) (hi : σ[i]? = some (some (.ref x))) (hb : EvR tb σ W ra y) (o : SrchO P w W C CN x pr pc s cm lv rk) (hp : pre s cm y)
    (k : ∀ u (W1 : Wd F) z rk', KpS (srchS x pr pc) W W1 → SrchO P w W1 C CN x pr pc s cm lv rk' → rb.rel W1.G u z → f s cm y z → Q u W1.H) : tMeth C m (SpSr P w C CN ra rb pre f) [] E (tVar i) (tCons tb tNil) σ W.H Q := by
  obtain ⟨dx, vn, vw, vl, vv, g1, _⟩ := o.ex
  refine ⟨_, hi, x, dx, _, rfl, g1.h, sf_none hm.h1 hm.h2 hm.h3 hm.h4 hm.h5 hm.h6 hm.h7, hb W (Le.refl _) _ fun v W2 l hv => ?_⟩
  have o2 := o.up l
  exact ⟨W2.G, W2.gh, x, pr, pc, s, cm, lv, rk, v, y, rfl, o2.ins, hv, hp, fun u W3 z rk' o3 hu hz => k u (W2.backS o2.own W3) z rk' ((KpS.of_le l).trans (Wd.backS_kp W3)) o3.ofS hu hz⟩
theorem ev_sr0 (hm : MName m) (hi : σ[i]? = some (some (.ref x))) (hb : EvR tb σ W ra y) (o : SrchO P w W C CN x pr pc s cm lv rk) (hp : pre s cm y) : EvN (tMeth C m (SpSr0 P w C CN ra rb pre f) [] E (tVar i) (tCons tb tNil)) σ W rb (f s cm y) := fun W1 l Q q => by
  obtain ⟨dx, vn, vw, vl, vv, g1, _⟩ := (o.up l).ex
  refine ⟨_, hi, x, dx, _, rfl, g1.h, sf_none hm.h1 hm.h2 hm.h3 hm.h4 hm.h5 hm.h6 hm.h7, hb W1 l _ fun v W2 l2 hv => ?_⟩
  have o2 := (o.up l).up l2
  exact ⟨W2.G, W2.gh, x, pr, pc, s, cm, lv, rk, v, y, rfl, o2.ins, hv, hp, fun u W3 z l3 hu hz => q u (W2.backS o2.own W3) z (l2.trans (Wd.backS_le W3 l3)) hu hz⟩
end
/-! values told while I holds, which may turn -/
section
variable {F : Fr} {K : PySem.W.Frag} {σ : L2.St} {W W1 : Wd F} {I : Wd F → Prop} {ta tb te : TE} {tt tu : TT} {α β γ : Type} {r : Rp α} {P P' : α → Prop}
def EvS (I : Wd F → Prop) (te : TE) (σ : L2.St) (W : Wd F) (r : Rp α) (P : α → Prop) : Prop := ∀ W1 : Wd F, Wk W W1 → I W1 → ∀ Q : VK, (∀ v (W2 : Wd F) x, Wk W1 W2 → I W2 → r.rel W2.G v x → P x → Q v W2.H) → te σ W1.H Q
def EvSB (I : Wd F → Prop) (tt : TT) (σ : L2.St) (W : Wd F) (P : Bool → Prop) : Prop := ∀ W1 : Wd F, Wk W W1 → I W1 → ∀ Q : Bool → Hp → Prop, (∀ (W2 : Wd F) b, Wk W1 W2 → I W2 → P b → Q b W2.H) → tt σ W1.H Q
theorem EvS.of (up : ∀ A B : Wd F, Le A B → I A → I B) (h : ∀ W1 : Wd F, Wk W W1 → I W1 → EvN te σ W1 r P) : EvS I te σ W r P := fun W1 l i Q q => h W1 l i W1 (Le.refl _) Q fun v W2 x l2 hv hx => q v W2 x l2.wk (up _ _ l2 i) hv hx
theorem EvS.imp (h : EvS I te σ W r P) (k : ∀ x, P x → P' x) : EvS I te σ W r P' := fun W1 l i Q q => h W1 l i Q fun v W2 x l2 i2 hv hx => q v W2 x l2 i2 hv (k x hx)
theorem es_len {R : Int → Prop} (h : EvS I ta σ W (rList r) (fun xs => R (xs.length : Nat))) : EvS I (tCB (oLenA K) (tCons ta tNil)) σ W rInt R := fun W1 l i Q q => h W1 l i _ fun v W2 xs l2 i2 hv hx => by
  obtain ⟨a, vs, rfl, h1, h2⟩ := hv
  exact .inl ⟨a, vs, rfl, .inl (sqL_of W2.gh h1), q _ W2 (xs.length : Nat) l2 i2 (by rw [h2.1]; rfl) hx⟩
theorem es_gt {P P' : Int → Prop} {R : Bool → Prop} (ha : EvS I ta σ W rInt P) (hb : EvS I tb σ W rInt P') (hR : ∀ x y, P x → P' y → R (decide (y < x))) : EvS I (tOp oGt ta tb) σ W rBool R := fun W1 l i Q q => ha W1 l i _ fun v W2 x l2 i2 hv hx => hb W2 (l.trans l2) i2 _ fun u W3 y l3 i3 hu hy => by
  have hv : v = .int x := hv
  have hu : u = .int y := hu
  subst hv hu
  exact ⟨x, y, rfl, rfl, q _ W3 _ (l2.trans l3) i3 rfl (hR x y hx hy)⟩
theorem es_eqI {P P' : Int → Prop} {R : Bool → Prop} (ha : EvS I ta σ W rInt P) (hb : ∀ W1 : Wd F, Wk W W1 → I W1 → EvN tb σ W1 rInt P') (up : ∀ A B : Wd F, Le A B → I A → I B) (hR : ∀ x y, P x → P' y → R (decide (x = y))) : EvS I (tOp (oEqA K) ta tb) σ W rBool R := fun W1 l i Q q => ha W1 l i _ fun v W2 x l2 i2 hv hx => by
  have hv : v = .int x := hv
  subst hv
  have z : EvN (tOp (oEqA K) (tC (.int x)) tb) σ W2 rBool R := ev_eqN (P := (· = x)) ev_int.n (hb W2 (l.trans l2) i2) fun a b ha hb => by rw [ha]; exact hR x b hx hb
  exact z W2 (Le.refl _) Q fun v W3 b l3 hv hb => q v W3 b (l2.trans l3.wk) (up _ _ l3 i2) hv hb
theorem es_test {P : Bool → Prop} (h : EvS I te σ W rBool P) : EvSB I (tTest te) σ W P := fun W1 l i Q q => h W1 l i _ fun v W2 b l2 i2 hv hb => ⟨b, hv, q W2 b l2 i2 hb⟩
theorem EvSB.of {P : Bool → Prop} (up : ∀ A B : Wd F, Le A B → I A → I B) (h : ∀ W1 : Wd F, Wk W W1 → I W1 → EvBN tt σ W1 P) : EvSB I tt σ W P := fun W1 l i Q q => h W1 l i W1 (Le.refl _) Q fun W2 b l2 hb => q W2 b l2.wk (up _ _ l2 i) hb
theorem es_and {P P' : Bool → Prop} {R : Bool → Prop} (ha : EvSB I tt σ W P) (hb : P true → EvSB I tu σ W P') (h0 : P false → R false) (h1 : ∀ b, P true → P' b → R b) : EvSB I (tAnd tt tu) σ W R := fun W1 l i Q q => ha W1 l i _ fun W2 b l2 i2 pb => by
  cases b with
  | false => exact iteF (q W2 false l2 i2 (h0 pb))
  | true => exact iteT (hb pb W2 (l.trans l2) i2 Q fun W3 b l3 i3 hb => q W3 b (l2.trans l3) i3 (h1 b pb hb))
variable {D : Ends} {tz tx ty : TS}
theorem s_whenS {P : Bool → Prop} (h : EvSB I tt σ W P) (i : I W) (h1 : ∀ W1 : Wd F, Wk W W1 → I W1 → P true → tx D σ W1.H) (h2 : ∀ W1 : Wd F, Wk W W1 → I W1 → P false → D.nx σ W1.H) : tIfS tt tx tNext D σ W.H := h W (Wk.refl _) i _ fun W1 b l i1 hb => by
  cases b with
  | true => exact iteT (h1 W1 l i1 hb)
  | false => exact iteF (h2 W1 l i1 hb)
theorem q_whenS {P : Bool → Prop} (h : EvSB I tt σ W P) (i : I W) (h1 : ∀ W1 : Wd F, Wk W W1 → I W1 → P true → tx { D with nx := tz D } σ W1.H) (h2 : ∀ W1 : Wd F, Wk W W1 → I W1 → P false → tz D σ W1.H) : tSeq (tIfS tt tx tNext) tz D σ W.H := s_whenS (D := { D with nx := tz D }) h i h1 h2
theorem s_retS (h : EvS I te σ W r P) (i : I W) (k : ∀ v (W1 : Wd F) x, I W1 → r.rel W1.G v x → P x → D.rt v W1.H) : tRet te D σ W.H := h W (Wk.refl _) i _ fun v W1 x _ i1 hv hx => k v W1 x i1 hv hx
theorem s_appB {α : Type} {r : Rp α} {i : Nat} {p : Addr} {xs : List α} {x : α} (hi : σ[i]? = some (some (.ref p))) (o : OwnL W p r xs) (h : EvR te σ W r x) (hz : xs.length < 16000000)
    (k : ∀ (W1 : Wd F), Kp p W W1 → OwnL W1 p r (xs ++ [x]) → D.nx σ W1.H) : tDrop (tBM K "list" rAppend (tVar i) (tCons te tNil)) D σ W.H := by
  obtain ⟨vs, h1, h2⟩ := o.ex
  refine ⟨_, hi, .inl ⟨rfl, _, sqL_of (Ex.refl _) h1.h⟩, h W (Le.refl _) _ fun v W1 l hv => ⟨p, vs, v, rfl, rfl, (h1.up l).h, by rw [h2.1]; exact Nat.lt_of_lt_of_le hz (by decide), ?_⟩⟩
  have o1 := h1.up l
  exact k (W1.put p (.lst (vs ++ [v])) o1.z o1.g) ⟨l.ex, fun q u ne x => (x.up l).put ne _ _⟩ ⟨_, W1.put_at o1.z o1.g, (h2.imp fun _ _ => r.mono l.ex).snoc hv⟩
theorem eo_catB {α : Type} {r : Rp α} {xs ys : List α} (ha : EvR ta σ W (rList r) xs) (hb : EvR tb σ W (rList r) ys) (hz : xs.length + ys.length ≤ 16000000) : EvO (tOp oAddA ta tb) σ W r (xs ++ ys) := fun W1 l Q q =>
  ha W1 l _ fun v W2 l2 hv => hb W2 (l.trans l2) _ fun w W3 l3 hw => by
    obtain ⟨a, vs, rfl, h1, h2⟩ := hv
    obtain ⟨b, ws, rfl, h3, h4⟩ := hw
    have h2' := h2.imp fun _ _ => r.mono l3.ex
    exact .inr (.inl ⟨a, b, vs, ws, rfl, rfl, W3.gh _ _ (l3.ex _ _ h1), W3.gh _ _ h3, by rw [h2.1, h4.1]; exact Nat.le_trans hz (by decide), fun p hp =>
      q p _ (W3.own p _ hp) ((l2.trans l3).trans (W3.own_le hp)) (le_fresh (l2.trans l3) hp) (W3.own_at hp) (h2'.append h4)⟩)
/-- in, a word of a tuple's -/
theorem ev_inTS {x : Str} {xs : List Str} (ha : EvR ta σ W rStr x) (hb : EvR tb σ W (rTup rStr) xs) : EvR (tOp (rIn K false) ta tb) σ W rBool (decide (x ∈ xs)) :=
  ev_op ha hb fun W1 v u Q l hv hw q => by
    obtain ⟨a, vs, rfl, h1, h2⟩ := hw
    have hv : v = .str x := hv
    subst hv
    have e := all2_strsT h2
    subst e
    refine ⟨a, _, rfl, .inr (sqT_of W1.gh h1), rfl, flat_strs xs, ?_⟩
    rw [inV_strs]
    exact q _ W1 (Le.refl _) rfl
end
end Q

/-! states with their numbers, sorted; an error with one field -/
namespace Q
open PySem L2
abbrev TriD := List Int × List Int × Int
abbrev rTri : Rp TriD := rT3 (rTup rInt) (rTup rInt) rInt
abbrev dzTri : Dz rTri := dzT3 (dzTup (Dc.z dcInt)) (dzTup (Dc.z dcInt)) (Dc.z dcInt)
theorem tri_alike (xs : List TriD) : PySem.W.AllAlike (xs.map dzTri.d) := PySem.W.AllAlike.of fun x y => by
  show PySem.W.alike (.tuple [.tuple (x.1.map .int), .tuple (x.2.1.map .int), .int x.2.2]) (.tuple [.tuple (y.1.map .int), .tuple (y.2.1.map .int), .int y.2.2]) = true
  simp [PySem.W.alike, PySem.W.alikeAll, PySem.W.alike_ints]
theorem tri_sortable (xs : List TriD) : PySem.W.Sortable (xs.map dzTri.d) := PySem.W.Sortable.tuples fun x => ⟨_, _, rfl⟩
section
variable {F : Fr} {K : PySem.W.Frag} {σ : L2.St} {W W1 : Wd F} {ta te : TE}
theorem eo_sortTri {xs : List TriD} (ha : EvR ta σ W (rList rTri) xs) : EvO (tCB (rSortD K) (tCons ta tNil)) σ W rTri (srtD dzTri xs) := eo_sortD dzTri ha (tri_alike xs) (tri_sortable xs) (by decide)
end
/-- self.f = e behind LightError.__init__, the only field -/
theorem s_ost1 {K : PySem.W.Frag} {σ : L2.St} {G H : Hp} {a C : Addr} {i : Nat} {f : Str} {te : TE} {D : Ends} {α : Type} {r : Rp α} {P : α → Prop} {W : Wd (pF G H)} (hi : σ[i]? = some (some (.ref a))) (ga : G a = none) (ha : H a = some (exo a C none)) (T : OexC K C)
    (n1 : PySem.W.findIn K (.ref C) f = some none) (ea : W.H a = some (exo a C none)) (wa : W.G a = none) (h : EvN te σ W r P)
    (k : ∀ (G' H' : Hp) (d : Addr) (v : V) (x : α), Mid a d G H G' H' → H' a = some (exo a C (some d)) → H' d = some (exd d [(f, v)]) → r.rel G' v x → P x → D.nx σ H') :
    tOst K f (tVar i) te D σ W.H := h W (Le.refl _) _ fun v W1 x l hv hx => by
  obtain ⟨g1, e1⟩ := l.kp a (fun z => z) wa (by rw [ea]; exact fun z => nomatch z)
  refine ⟨_, hi, a, C, rfl, T, n1, .inl ⟨e1.trans ea, fun d hd ne => ?_⟩⟩
  have gd : W1.G d = none := W1.g hd
  refine k W1.G _ d v x ⟨W1.gg, fun b o e => ?_, fun b ba bd gb hb => ?_, g1, gd, W1.h0 hd, ne⟩ upd_same ((upd_ne ne).trans upd_same) hv hx
  · rw [upd_ne (ne_of_none e g1), upd_ne (ne_of_none e gd)]; exact W1.gh b o e
  · obtain ⟨a1, a2⟩ := W1.kp b (fun z => z) gb hb
    exact ⟨a1, by rw [upd_ne ba, upd_ne bd]; exact a2⟩
/-! a NoPlan: the states -/
def PreNP (G : Hp) (vs : List V) (x : List TriD) : Prop := ∃ v, vs = [v] ∧ (rList rTri).rel G v x ∧ x.length ≤ 100000000
def PostNP (G : Hp) (x : List TriD) (fs : List (Str × V)) : Prop := ∃ v, fs.lookup ("states" : Str) = some v ∧ (rList rTri).rel G v x
theorem postNP_up {x : List TriD} {G G' : Hp} {fs : List (Str × V)} (e : Ex G G') (h : PostNP G x fs) : PostNP G' x fs := let ⟨v, a, b⟩ := h; ⟨v, a, (rList rTri).mono e b⟩
abbrev SpNoPlan (C : Addr) : Sp := SpXI C PreNP PostNP
def NoPl (G : Hp) (d : Addr) (x : List TriD) : Prop := ∃ fs, G d = some (.xd fs) ∧ PostNP G x fs
theorem NoPl.up {G G' : Hp} {d : Addr} {x : List TriD} (e : Ex G G') (h : NoPl G d x) : NoPl G' d x := let ⟨fs, a, b⟩ := h; ⟨fs, e _ _ a, postNP_up e b⟩
section
variable {F : Fr} {K : PySem.W.Frag} {σ : L2.St} {W W1 : Wd F} {ta te : TE}
theorem elp_np {x : List TriD} (ha : EvR ta σ W (rList rTri) x) (h : x.length ≤ 100000000) : EvLP (tCons ta tNil) σ W PreNP x := fun W1 l Q q => ha W1 l _ fun v W2 l2 hv => q _ W2 l2 (by simp) ⟨v, rfl, hv, h⟩
end
end Q

/-! texts that are refused -/
namespace Q
open PySem PySem.Spec PyProof.Rows L2
/-- the scope of the comprehension in a last row  return xs + [..] -/
def retScA (s : Stmt) : Scope := match (defBody s).getLast? with
  | some (.Return (some (.BinOp _ _ e _)) _) => relOf (defScope s) (scpOf e)
  | _ => ⟨.function, [], false, false, []⟩
/-! a BadText: its row -/
def PreBT (G : Hp) (vs : List V) (i : Int) : Prop := vs = [.int i] ∧ i.natAbs < 10 ^ 9
def PostBT (G : Hp) (i : Int) (fs : List (Str × V)) : Prop := fs.lookup ("row" : Str) = some (.int i)
abbrev SpBadText (C : Addr) : Sp := SpXI C PreBT PostBT
def BadTx (G : Hp) (d : Addr) (i : Int) : Prop := ∃ fs, G d = some (.xd fs) ∧ PostBT G i fs
section
variable {F : Fr} {K : PySem.W.Frag} {σ : L2.St} {W W1 : Wd F} {ta tb te : TE}
theorem elp_bt {i : Int} (ha : EvR ta σ W rInt i) (h2 : i.natAbs < 10 ^ 9) : EvLP (tCons ta tNil) σ W PreBT i := fun W1 l Q q =>
  ha W1 l _ fun v W2 l2 hv => q _ W2 l2 (by simp) ⟨by rw [show v = .int i from hv], h2⟩
theorem s_badtx {C : Addr} {E : XK} {i : Int} (ha : EvR ta σ W rInt i) (h2 : i.natAbs < 10 ^ 9) (k : ∀ (W1 : Wd F) d, Le W W1 → BadTx W1.G d i → E (.ref C) (some d) W1.H) : tMkO C (SpBadText C) [] (tCons ta tNil) σ W.H fun cls d H' => E cls d H' :=
  s_raiseX (x := i) (elp_bt ha h2) (fun _ p => p) fun W1 d fs l hd hp => k W1 d l ⟨fs, hd, hp⟩
end
/-! what rows tell -/
def stepR (n : Rows) (r : RowT) : Rows :=
  if r.1 = ("line" : Str) then (n.1, n.2.1, n.2.2 ++ [(r.2.getD 0 0, r.2.getD 1 0, r.2.getD 2 0)])
  else (n.1 ++ [r.2.getD 0 0], if r.1 = ("source" : Str) then n.2.1 ++ [((n.1.length : Nat) : Int)] else n.2.1, n.2.2)
def parseR (rs : List RowT) : Rows := rs.foldl stepR ([], [], [])
theorem parse_snoc (rs : List RowT) (r : RowT) : parseR (rs ++ [r]) = stepR (parseR rs) r := by
  unfold parseR
  rw [List.foldl_append]; rfl
theorem parse_take {rs : List RowT} {m : Nat} {r : RowT} (h : rs[m]? = some r) : parseR (rs.take (m + 1)) = stepR (parseR (rs.take m)) r := by
  rw [List.take_add_one, h]
  exact parse_snoc _ r
theorem parse_len : ∀ rs : List RowT, (parseR rs).1.length ≤ rs.length ∧ (parseR rs).2.1.length ≤ rs.length ∧ (parseR rs).2.2.length ≤ rs.length := by
  intro rs
  refine snoc_ind (C := fun rs => (parseR rs).1.length ≤ rs.length ∧ (parseR rs).2.1.length ≤ rs.length ∧ (parseR rs).2.2.length ≤ rs.length) ⟨Nat.le_refl _, Nat.le_refl _, Nat.le_refl _⟩ (fun rs r ih => ?_) rs
  rw [parse_snoc, List.length_append]
  unfold stepR
  obtain ⟨a, b, c⟩ := ih
  split
  · simp only [List.length_append, List.length_singleton]
    omega
  · split
    · simp only [List.length_append, List.length_singleton]
      omega
    · simp only [List.length_append, List.length_singleton]
      omega
/-- no place behind a line -/
def SeqOk (rs : List RowT) : Prop := ∀ (m : Nat) r, rs[m]? = some r → r.1 ≠ ("line" : Str) → (parseR (rs.take m)).2.2 = []
/-- a row that may not stand behind rs -/
structure BadRow (K : PySem.W.Frag) (w : World) (D : Addr) (rs : List RowT) (y : Str) : Prop where
  ex : ∃ (w0 : Str) (ys : List Str) (o : Option Int), Txt.split y " " = w0 :: ys ∧ KGet K w D w0 (o.map V.int) ∧ ys.length ≤ 100 ∧ (∀ z ∈ ys, z.length ≤ 100) ∧
    ((decide (o = some ((ys.length : Nat) : Int)) && ys.all isNumM) = false ∨ (w0 ≠ ("line" : Str) ∧ (parseR rs).2.2 ≠ []))
structure ReadB (rs : List RowT) (rest : List Str) (z : Str) : Prop where
  z : z = Str.join "\n" (rs.map rowS ++ rest)
  ok : ∀ r ∈ rs, RowOk r
  seq : SeqOk rs
  l1 : rs.length ≤ 40
  l2 : rest.length ≤ 40
  free : ∀ y ∈ rest, 10 ∉ TL.tl y ∧ y.length ≤ 1000
  ne : rs.map rowS ++ rest ≠ []
theorem ReadB.split {rs : List RowT} {rest : List Str} {z : Str} (h : ReadB rs rest z) : Txt.split z "\n" = rs.map rowS ++ rest := by
  have e := TL.split_join (y := ("\n" : Str)) tl_nl all_nl (parts := rs.map rowS ++ rest) h.ne fun p hp => by
    rcases List.mem_append.mp hp with hp | hp
    · obtain ⟨r, hr, rfl⟩ := List.mem_map.mp hp
      exact row_free (h.ok r hr)
    · exact (h.free p hp).1
  rw [TL.join_eq] at e
  rw [h.z]; exact e
theorem ReadB.sum {rs : List RowT} {rest : List Str} {z : Str} (h : ReadB rs rest z) : ((rs.map rowS ++ rest).map (·.length)).sum + (rs.map rowS ++ rest).length * ("\n" : Str).length ≤ 90000 := by
  have c : ("\n" : Str).length = 1 := by decide +kernel
  have b := sum_le (xs := (rs.map rowS ++ rest).map (·.length)) (m := 1000) fun x hx => by
    obtain ⟨p, hp, rfl⟩ := List.mem_map.mp hx
    rcases List.mem_append.mp hp with hp | hp
    · obtain ⟨r, hr, rfl⟩ := List.mem_map.mp hp
      exact Nat.le_trans (row_len (h.ok r hr)) (by decide)
    · exact (h.free p hp).2
  have := h.l1
  have := h.l2
  rw [List.length_map] at b
  rw [c]
  have l : (rs.map rowS ++ rest).length ≤ 80 := by rw [List.length_append, List.length_map]; omega
  have := Nat.mul_le_mul_right 1000 l
  omega
theorem ReadB.len {rs : List RowT} {rest : List Str} {z : Str} (h : ReadB rs rest z) : z.length ≤ 90000 := by
  rw [h.z]
  exact Nat.le_trans (len_join _ _) h.sum
def SpReadB (K : PySem.W.Frag) (w : World) (D CT CN : Addr) : Sp := fun vs H Q E => ∃ (G : Hp) (z : Str) (rs : List RowT) (rest : List Str), vs = [.str z] ∧ Ex G H ∧ ReadB rs rest z ∧
  ((∃ y more, rest = y :: more ∧ BadRow K w D rs y ∧ ∀ (W : Wd (pF G H)) d, BadTx W.G d ((rs.length : Nat) : Int) → E (.ref CT) (some d) W.H) ∨
   (rest = [] ∧ ∃ b, netB (parseR rs) = some b ∧ ∀ (W : Wd (pF G H)) d, BadNt W.G d b → E (.ref CN) (some d) W.H))
end Q

namespace Q
open PySem L2
def topS (i : Nat) : Stmt := PySem.Challenge.pw_cuelight_k17_texts_refused.main.body.getD i (.Pass ⟨0, 0, 0, 0⟩)
abbrev s_m_BadNet_init : Stmt := (inClass (topS 2) 0)
abbrev n_m_BadNet_init : List Str := ["self", "at", "why"]
theorem sc_m_BadNet_init : FnScope n_m_BadNet_init ["self", "at", "why"] (defScope s_m_BadNet_init) := ⟨rfl, rfl, rfl, by decide +kernel, rfl, by decide +kernel, by decide +kernel⟩

abbrev s_m_BadText_init : Stmt := (inClass (topS 7) 0)
abbrev n_m_BadText_init : List Str := ["self", "row"]
theorem sc_m_BadText_init : FnScope n_m_BadText_init ["self", "row"] (defScope s_m_BadText_init) := ⟨rfl, rfl, rfl, by decide +kernel, rfl, by decide +kernel, by decide +kernel⟩

abbrev s_m_Net_init : Stmt := (inClass (topS 12) 0)
abbrev n_m_Net_init : List Str := ["self", "needs", "sources", "lines"]
theorem sc_m_Net_init : FnScope n_m_Net_init ["self", "needs", "sources", "lines"] (defScope s_m_Net_init) := ⟨rfl, rfl, rfl, by decide +kernel, rfl, by decide +kernel, by decide +kernel⟩

abbrev s_m_Net_places : Stmt := (inClass (topS 12) 1)
abbrev n_m_Net_places : List Str := ["self"]
theorem sc_m_Net_places : FnScope n_m_Net_places ["self"] (defScope s_m_Net_places) := ⟨rfl, rfl, rfl, by decide +kernel, rfl, by decide +kernel, by decide +kernel⟩

abbrev s_m_Net_needs : Stmt := (inClass (topS 12) 2)
abbrev n_m_Net_needs : List Str := ["self"]
theorem sc_m_Net_needs : FnScope n_m_Net_needs ["self"] (defScope s_m_Net_needs) := ⟨rfl, rfl, rfl, by decide +kernel, rfl, by decide +kernel, by decide +kernel⟩

abbrev s_m_Net_sources : Stmt := (inClass (topS 12) 3)
abbrev n_m_Net_sources : List Str := ["self"]
theorem sc_m_Net_sources : FnScope n_m_Net_sources ["self"] (defScope s_m_Net_sources) := ⟨rfl, rfl, rfl, by decide +kernel, rfl, by decide +kernel, by decide +kernel⟩

abbrev s_m_Net_lines : Stmt := (inClass (topS 12) 4)
abbrev n_m_Net_lines : List Str := ["self"]
theorem sc_m_Net_lines : FnScope n_m_Net_lines ["self"] (defScope s_m_Net_lines) := ⟨rfl, rfl, rfl, by decide +kernel, rfl, by decide +kernel, by decide +kernel⟩

abbrev s_d_check_needs : Stmt := (topS 13)
abbrev n_d_check_needs : List Str := ["needs", "place", "need"]
theorem sc_d_check_needs : FnScope n_d_check_needs ["needs"] (defScope s_d_check_needs) := ⟨rfl, rfl, rfl, by decide +kernel, rfl, by decide +kernel, by decide +kernel⟩

abbrev s_d_check_sources : Stmt := (topS 14)
abbrev n_d_check_sources : List Str := ["sources", "many", "at", "source"]
theorem sc_d_check_sources : FnScope n_d_check_sources ["sources", "many"] (defScope s_d_check_sources) := ⟨rfl, rfl, rfl, by decide +kernel, rfl, by decide +kernel, by decide +kernel⟩

abbrev s_d_check_lines : Stmt := (topS 15)
abbrev n_d_check_lines : List Str := ["lines", "many", "at", "one", "other", "limit"]
theorem sc_d_check_lines : FnScope n_d_check_lines ["lines", "many"] (defScope s_d_check_lines) := ⟨rfl, rfl, rfl, by decide +kernel, rfl, by decide +kernel, by decide +kernel⟩

abbrev s_d_read : Stmt := (topS 20)
abbrev n_d_read : List Str := ["text", "needs", "sources", "lines", "at", "row", "word", "numbers", "number"]
theorem sc_d_read : FnScope n_d_read ["text"] (defScope s_d_read) := ⟨rfl, rfl, rfl, by decide +kernel, rfl, by decide +kernel, by decide +kernel⟩

abbrev s_d_is_row : Stmt := (topS 21)
abbrev n_d_is_row : List Str := ["word", "numbers", "number"]
theorem sc_d_is_row : FnScope n_d_is_row ["word", "numbers"] (defScope s_d_is_row) := ⟨rfl, rfl, rfl, by decide +kernel, rfl, by decide +kernel, by decide +kernel⟩

abbrev s_d_is_number : Stmt := (topS 22)
abbrev n_d_is_number : List Str := ["word", "sign"]
theorem sc_d_is_number : FnScope n_d_is_number ["word"] (defScope s_d_is_number) := ⟨rfl, rfl, rfl, by decide +kernel, rfl, by decide +kernel, by decide +kernel⟩

abbrev s_d_dice : Stmt := (topS 24)
abbrev n_d_dice : List Str := ["_law_script", "_law_mixed", "_law_cell"]
theorem sc_d_dice : FnScope n_d_dice ["_law_script"] (defScope s_d_dice) := ⟨rfl, rfl, rfl, by decide +kernel, rfl, by decide +kernel, by decide +kernel⟩

abbrev s_d_next : Stmt := (topS 25)
abbrev n_d_next : List Str := ["_law_dice_here", "_law_many", "_law_found", "_law_cell"]
theorem sc_d_next : FnScope n_d_next ["_law_dice_here", "_law_many"] (defScope s_d_next) := ⟨rfl, rfl, rfl, by decide +kernel, rfl, by decide +kernel, by decide +kernel⟩

abbrev s_d_whole : Stmt := (topS 26)
abbrev n_d_whole : List Str := ["_law_found"]
theorem sc_d_whole : FnScope n_d_whole ["_law_found"] (defScope s_d_whole) := ⟨rfl, rfl, rfl, by decide +kernel, rfl, by decide +kernel, by decide +kernel⟩

abbrev s_d_net : Stmt := (topS 27)
abbrev n_d_net : List Str := ["_law_d", "_law_places", "_law_lines", "_law_many", "_law_needs", "_law_sources", "_law_rows", "_law_k", "_law_one", "_law_other", "_law_limit", "_law_place"]
theorem sc_d_net : FnScope n_d_net ["_law_d", "_law_places", "_law_lines"] (defScope s_d_net) := ⟨rfl, rfl, rfl, by decide +kernel, rfl, by decide +kernel, by decide +kernel⟩

abbrev s_d_is : Stmt := (topS 28)
abbrev n_d_is : List Str := ["_law_e", "_law_word", "_law_kinds", "_law_words", "_law_one"]
theorem sc_d_is : FnScope n_d_is ["_law_e", "_law_word"] (defScope s_d_is) := ⟨rfl, rfl, rfl, by decide +kernel, rfl, by decide +kernel, by decide +kernel⟩

abbrev s_d_text : Stmt := (topS 29)
abbrev n_d_text : List Str := ["_law_net_here", "_law_rows", "_law_place", "_law_line", "_law_number"]
theorem sc_d_text : FnScope n_d_text ["_law_net_here"] (defScope s_d_text) := ⟨rfl, rfl, rfl, by decide +kernel, rfl, by decide +kernel, by decide +kernel⟩

abbrev s_d_refused : Stmt := (topS 30)
abbrev n_d_refused : List Str := ["_law_rows", "_law_word", "_law_at", "_law_why", "_law_e"]
theorem sc_d_refused : FnScope n_d_refused ["_law_rows", "_law_word", "_law_at", "_law_why"] (defScope s_d_refused) := ⟨rfl, rfl, rfl, by decide +kernel, rfl, by decide +kernel, by decide +kernel⟩

abbrev s_d_law : Stmt := (topS 31)
abbrev n_d_law : List Str := ["_law_script", "_law_d", "_law_rows", "_law_odd", "_law_at", "_law_behind", "_law_places", "_law_lines", "_law_nones", "_law_some", "_law_number", "_law_why", "_law_row"]
theorem sc_d_law : FnScope n_d_law ["_law_script"] (defScope s_d_law) := ⟨rfl, rfl, rfl, by decide +kernel, rfl, by decide +kernel, by decide +kernel⟩

structure Txt (K : PySem.W.Frag) (mg : Str → Option Value) where
  C_Net : Addr
  l_Net : Cls K C_Net
  g_Net : mg "Net" = some (.ref C_Net)
  C_BadNet : Addr
  g_BadNet : mg "BadNet" = some (.ref C_BadNet)
  C_BadState : Addr
  g_BadState : mg "BadState" = some (.ref C_BadState)
  C_BadDeed : Addr
  g_BadDeed : mg "BadDeed" = some (.ref C_BadDeed)
  C_NoCut : Addr
  g_NoCut : mg "NoCut" = some (.ref C_NoCut)
  C_NoPlan : Addr
  g_NoPlan : mg "NoPlan" = some (.ref C_NoPlan)
  C_BadText : Addr
  g_BadText : mg "BadText" = some (.ref C_BadText)
  C_LightError : Addr
  g_LightError : mg "LightError" = some (.ref C_LightError)
  o_BadNet : OexC K C_BadNet
  xf_BadNet : XfC K C_BadNet
  nf_BadNet_at : PySem.W.findIn K (.ref C_BadNet) "at" = some none
  nf_BadNet_why : PySem.W.findIn K (.ref C_BadNet) "why" = some none
  ex_BadNet_LightError : PySem.W.exmOne K (.ref C_BadNet) (.ref C_LightError) = some true
  kit_BadNet : Kits K C_BadNet C_BadNet C_BadState C_BadDeed C_NoCut C_NoPlan C_BadText true false false false false false
  o_BadText : OexC K C_BadText
  xf_BadText : XfC K C_BadText
  nf_BadText_row : PySem.W.findIn K (.ref C_BadText) "row" = some none
  ex_BadText_LightError : PySem.W.exmOne K (.ref C_BadText) (.ref C_LightError) = some true
  kit_BadText : Kits K C_BadText C_BadNet C_BadState C_BadDeed C_NoCut C_NoPlan C_BadText false false false false false true
  rd_LightError : ClX.CRead K C_LightError (.type "type")
  at_LightError : PySem.W.findCls K (.ref C_LightError) (.type "type") "__init__" = some (.val (.builtin "ValueError.__init__"))
  m_BadNet_init : Dm K C_BadNet "__init__" "BadNet.__init__" s_m_BadNet_init ["self", "at", "why"]
  m_BadText_init : Dm K C_BadText "__init__" "BadText.__init__" s_m_BadText_init ["self", "row"]
  m_Net_init : Dm K C_Net "__init__" "Net.__init__" s_m_Net_init ["self", "needs", "sources", "lines"]
  m_Net_places : Dm K C_Net "places" "Net.places" s_m_Net_places ["self"]
  m_Net_needs : Dm K C_Net "needs" "Net.needs" s_m_Net_needs ["self"]
  m_Net_sources : Dm K C_Net "sources" "Net.sources" s_m_Net_sources ["self"]
  m_Net_lines : Dm K C_Net "lines" "Net.lines" s_m_Net_lines ["self"]
  d_check_needs : Df K mg "check_needs" s_d_check_needs ["needs"]
  d_check_sources : Df K mg "check_sources" s_d_check_sources ["sources", "many"]
  d_check_lines : Df K mg "check_lines" s_d_check_lines ["lines", "many"]
  d_read : Df K mg "read" s_d_read ["text"]
  d_is_row : Df K mg "is_row" s_d_is_row ["word", "numbers"]
  d_is_number : Df K mg "is_number" s_d_is_number ["word"]
  d_dice : Df K mg "_law_dice" s_d_dice ["_law_script"]
  d_next : Df K mg "_law_next" s_d_next ["_law_dice_here", "_law_many"]
  d_whole : Df K mg "_law_whole" s_d_whole ["_law_found"]
  d_net : Df K mg "_law_net" s_d_net ["_law_d", "_law_places", "_law_lines"]
  d_is : Df K mg "_law_is" s_d_is ["_law_e", "_law_word"]
  d_text : Df K mg "_law_text" s_d_text ["_law_net_here"]
  d_refused : Df K mg "_law_refused" s_d_refused ["_law_rows", "_law_word", "_law_at", "_law_why"]
  d_law : Df K mg "law" s_d_law ["_law_script"]
  k_Net : Mk K C_Net m_Net_init.f
  na_needs : NoAttr K C_Net "_needs"
  na_sources : NoAttr K C_Net "_sources"
  na_lines : NoAttr K C_Net "_lines"
  c_MOST_PLACES : (t : Tok) ×' mg "MOST_PLACES" = some (.int 10 t)
  c_MOST_LINES : (t : Tok) ×' mg "MOST_LINES" = some (.int 10 t)
  c_MOST_WORTH : (t : Tok) ×' mg "MOST_WORTH" = some (.int 1000000 t)
  c_MOST_FIGURES : (t : Tok) ×' mg "MOST_FIGURES" = some (.int 7 t)
  c_FIGURES : (t : Tok) ×' mg "FIGURES" = some (.str "0123456789" t)
  w0 : World
  d_NUMBERS : Addr
  g_NUMBERS : mg "NUMBERS" = some (.ref d_NUMBERS)
  kg_NUMBERS_0 : KGet K w0 d_NUMBERS "place" (some (.int 1))
  kg_NUMBERS_1 : KGet K w0 d_NUMBERS "source" (some (.int 1))
  kg_NUMBERS_2 : KGet K w0 d_NUMBERS "line" (some (.int 3))
  kg_NUMBERS_3 : KGet K w0 d_NUMBERS "" none
  kg_NUMBERS_4 : KGet K w0 d_NUMBERS "Place" none
  kg_NUMBERS_5 : KGet K w0 d_NUMBERS "lines" none
  kg_NUMBERS_6 : KGet K w0 d_NUMBERS "roof" none
  z_len : mg "len" = none
  z_range : mg "range" = none
  z_list : mg "list" = none
  z_int : mg "int" = none
  z_sorted : mg "sorted" = none
  z_enumerate : mg "enumerate" = none
  z_isinstance : mg "isinstance" = none
  z_str : mg "str" = none
  z_bool : mg "bool" = none
  z_tuple : mg "tuple" = none
  z_all : mg "all" = none
  z_ValueError : mg "ValueError" = none
  ti_BadNet : PySem.W.typeIn K (.ref m_BadNet_init.f) = some (.type "function")
  ti_BadText : PySem.W.typeIn K (.ref m_BadText_init.f) = some (.type "function")
end Q

namespace Q
open PySem L2
local macro_rules | `(tactic| walk_at "up") => do
  let l := Lean.mkIdent `l
  let mut ts : Array (Lean.TSyntax `tactic) := #[]
  for i in [1, 2, 3, 4, 5, 6, 7, 8, 9, 10, 11, 12, 13, 14, 15, 16] do
    let h := Lean.mkIdent (Lean.Name.mkSimple s!"h{i}")
    ts := ts.push (← `(tactic| try replace $h:ident := Rp.up (Le.ex $l) $h))
    ts := ts.push (← `(tactic| try replace $h:ident := Rp.up (Wk.ex $l) $h))
    ts := ts.push (← `(tactic| try replace $h:ident := Rp.up (Kp.ex $l) $h))
  for i in [1, 2, 3, 4] do
    let h := Lean.mkIdent (Lean.Name.mkSimple s!"o{i}")
    ts := ts.push (← `(tactic| try replace $h:ident := OwnL.up $l $h))
    ts := ts.push (← `(tactic| try replace $h:ident := OwnD.up $l $h))
  `(tactic| ($[$ts:tactic];*))
local macro_rules | `(tactic| walk_at "cm") => `(tactic| first | exact Or.inl ⟨by omega, by omega⟩ | exact Or.inr ⟨by omega, by omega⟩)
local macro_rules | `(tactic| walk_at "ev") => `(tactic| repeat' first
  | exact ev_var rfl (by first | assumption | rfl)
  | exact ev_int | exact ev_bl | exact ev_str | exact ev_non
  | (refine' ev_addA ?_ ?_) | (refine' ev_sub ?_ ?_)
  | (refine' ev_mulA ?_ ?_ ?_; rotate_left 2; walk_at "cm")
  | (refine' ev_mod ?_ ?_ ?_; rotate_left 2; omega)
  | (refine' ev_lt ?_ ?_) | (refine' ev_le ?_ ?_) | (refine' ev_gt ?_ ?_) | (refine' ev_ge ?_ ?_)
  | (refine' ev_lenA ?_) | (refine' ev_in ?_ ?_) | (refine' ev_nin ?_ ?_)
  | (refine' ev_jx0 ?_) | (refine' ev_jx1 ?_) | (refine' ev_jx2 ?_) | (refine' ev_ix0 ?_) | (refine' ev_ix1 ?_)
  | (refine ev_chain_lelt ?_ ?_ ?_) | (refine ev_chain_lele ?_ ?_ ?_)
  | (refine' et_r ?_) | (refine' et_b ?_) | (refine' et_not ?_) | (refine' et_and ?_ fun _ => ?_) | (refine' et_or ?_ fun _ => ?_)
  | (refine' ev_pow ?_ ?_ ⟨by decide, by decide, by decide⟩)
  | (refine' ev_t2 ?_ ?_) | (refine' ev_t3 ?_ ?_ ?_)
  | exact et_yes)

section
abbrev dzOInt : Dz (rOpt rInt) := dzOpt (Dc.z dcInt) (fun x => by simp [Dc.z, dcInt, PyData.eqv]) (fun x => by simp [Dc.z, dcInt, PyData.eqv])
def SpIsRow (K : PySem.W.Frag) (w : World) (D : Addr) : Sp := fun vs H Q _ => ∃ (G : Hp) (v u : V) (z : Str) (ys : List Str) (o : Option Int), vs = [v, u] ∧ Ex G H ∧ rStr.rel G v z ∧ (rList rStr).rel G u ys ∧ KGet K w D z (o.map V.int) ∧ ys.length ≤ 100 ∧ (∀ y ∈ ys, y.length ≤ 100) ∧ ∀ W : Wd (pF G H), Q (.bl (decide (o = some ((ys.length : Nat) : Int)) && ys.all isNumM)) W.H
section
variable {F : Fr} {K : PySem.W.Frag} {w : World} {σ : L2.St} {W : Wd F} {ta tb : TE} {E : XK} {D : Addr}
theorem ev_isrow {z : Str} {ys : List Str} {o : Option Int} (ha : EvR ta σ W rStr z) (hb : EvR tb σ W (rList rStr) ys) (kg : KGet K w D z (o.map V.int)) (h1 : ys.length ≤ 100) (h2 : ∀ y ∈ ys, y.length ≤ 100) : EvR (tCall (SpIsRow K w D) [] E (tCons ta (tCons tb tNil))) σ W rBool (decide (o = some ((ys.length : Nat) : Int)) && ys.all isNumM) := fun W1 l Q q =>
  ha W1 l _ fun v W2 l2 hv => hb W2 (l.trans l2) _ fun u W3 l3 hu => ⟨W3.G, v, u, z, ys, o, rfl, W3.gh, Rp.up l3.ex hv, hu, kg, h1, h2, fun W4 => q _ (W3.back W4) ((l2.trans l3).trans (W3.back_le W4)) rfl⟩
end
section
variable {P : Program} {w : World} {K : PySem.W.Frag} {mg : Str → Option Value} {base : Heap}
theorem ok_isnum (T : Txt K mg) : FnOk P w K mg base CX0 1 T.d_is_number.f T.d_is_number.fd ["word"] (Fn1 rStr rBool (fun z => z.length ≤ 100) isNumM) := by
  refine T.d_is_number.F.ok sc_d_is_number (fun vs H Q E h => ?_) (fun cdv A outer s H vs Q E hr h => ?_)
  · obtain ⟨G, v, x, rfl, _⟩ := h; rfl
  · obtain ⟨G, v, z, rfl, gh, h1, hz, k⟩ := h
    have hu := hu_of hr
    refine ⟨_, (pss_cons (ps_if (PW.pt (pw_or (pt_not (pt_chain op_le op_le pe_int (pe_callB kLenS (by rfl) T.z_len PySem.boot_len (pa_cons (pv 0) pa_nil)) (pe_glob (v := .int 7) (by rfl) T.c_MOST_FIGURES.2 ⟨_, rfl⟩))) (pw_or1 (PW.pt (pw_and (pt_cmpR (kEq K hr.units) (pe_ix (kIx K) (pv 0) pe_int (fun _ _ => rfl)) pe_str (nomark _)) (pw_and1 (pt_cmpR (kNe K hr.units) (pv 0) pe_str (nomark _)))))))) (pss_one (ps_ret pe_bl)) pss_nil)
      (pss_one (ps_ret (pe_callB (kAll K rfl) (by rfl) T.z_all (by decide +kernel) (pa_cons (pe_lc (own := [("sign", 1)]) (g := gName 1) (by rfl) sc_d_is_number.nd  (pi_str (pv 0)) (blkOk_by (N := n_d_is_number) (sc := defScope s_d_is_number) (by decide +kernel)) (fun _ _ _ _ _ => (pg_name (i := 1) sc_d_is_number.nd rfl (.inl rfl))) (fun _ _ _ _ _ => pts_nil) (fun _ _ _ _ _ => (pe_cmpR kInSign (pv 1) (pe_glob (v := .str "0123456789") (by rfl) T.c_FIGURES.2 ⟨_, rfl⟩) (by rfl)))) pa_nil))))), ?_⟩
    have chain : ∀ {F : Fr} {W : Wd F} {σ : L2.St} {ta : TE}, EvR ta σ W rStr z → EvR (tChain oLe oLe (tC (.int 1)) (tCB rLenS (tCons ta tNil)) (tC (.int 7))) σ W rBool (decide (1 ≤ z.length ∧ z.length ≤ 7)) := fun {F W σ ta} h => EvR.is (ev_chain_lele ev_int (ev_lenS h (by omega)) ev_int) (by
      rw [Bool.eq_iff_iff]; simp; omega)
    by_cases c : 1 ≤ z.length ∧ z.length ≤ 7
    · obtain ⟨c0, r, e0⟩ : ∃ c0 r, TL.tl z = c0 :: r := by
        cases e : TL.tl z with
        | nil => have := TL.len_tl z; rw [e] at this; simp at this; omega
        | cons c0 r => exact ⟨c0, r, rfl⟩
      have hd : decide (signS c0 = ("0" : Str)) = decide ((TL.tl z).head? = some 48) := by
        rw [e0]
        refine decide_eq_decide.mpr ⟨fun h => ?_, fun h => ?_⟩
        · have := congrArg TL.tl h
          rw [show TL.tl ("0" : Str) = [48] by decide +kernel] at this
          exact congrArg some (List.cons.inj this).1
        · rw [show c0 = 48 from Option.some.inj h]; decide +kernel
      refine q_ifN (W := Wd.in G H gh) (P := fun b => b = (decide ((TL.tl z).head? = some 48) && !decide (z = ("0" : Str)))) (EvB.n (EvB.is (et_or (a := false) (EvB.is (et_not (et_b (chain (ev_var rfl h1)))) (by rw [decide_eq_true c]; rfl)) fun _ => et_and (et_r (EvR.is (ev_eqA fl_str (ev_ixS (c := c0) (ev_var rfl h1) (ev_int (i := 0)) (by omega) (by rw [e0]; exact atI_nat (xs := c0 :: r) (j := 0) (v := c0) rfl)) ev_str) hd)) fun _ => et_r (ev_neA fl_str (ev_var rfl h1) ev_str)) (by rw [Bool.false_or]))) (fun hb W l => ?_) (fun hb W l => ?_)
      · exact s_ret (W := W) (r := rBool) (x := false) ev_bl fun v W e => k v W (by
          have : isNumM z = false := by unfold isNumM; rw [← hb]; simp
          rw [this]; exact e)
      · walk_at "up"
        refine s_ret (W := W) (r := rBool) (x := isNumM z) (EvR.is (ev_allB (EvO.fz (eo_lcS (s := rBool) (fun _ => true) (fun c => decide (c ∈ TL.tl FIG)) (ev_var rfl h1) (by omega) (fun _ => rfl) (fun c W1 l _ => et_yes) (fun c W1 l _ _ => ev_inSign (z := FIG) (ev_var rfl rfl) ev_str)))) ?_) fun v W e => k v W e
        unfold isNumM
        rw [← hb, decide_eq_true c, List.filter_eq_self.mpr (fun _ _ => rfl), List.all_map]
        rfl
    · refine q_when (W := Wd.in G H gh) (b := true) (EvB.is (et_or (a := true) (b := true) (EvB.is (et_not (et_b (chain (ev_var rfl h1)))) (by rw [decide_eq_false c]; rfl)) fun z => nomatch z) rfl) (fun _ W l => ?_) (fun z => nomatch z)
      exact s_ret (W := W) (r := rBool) (x := false) ev_bl fun v W e => k v W (by
        have : isNumM z = false := by unfold isNumM; rw [decide_eq_false c]; rfl
        rw [this]; exact e)
theorem ok_isrow (T : Txt K mg) (hw : T.w0 = w) : FnOk P w K mg base CX0 2 T.d_is_row.f T.d_is_row.fd ["word", "numbers"] (SpIsRow K w T.d_NUMBERS) := by
  have G_d_is_number : FnOk P w K mg base CX0 1 T.d_is_number.f T.d_is_number.fd ["word"] (Fn1 rStr rBool (fun z => z.length ≤ 100) isNumM) := ok_isnum T
  refine T.d_is_row.F.ok sc_d_is_row (fun vs H Q E h => ?_) (fun cdv A outer s H vs Q E hr h => ?_)
  · obtain ⟨G, v, u, z, ys, o, rfl, _⟩ := h; rfl
  · obtain ⟨G, v, u, z, ys, o, rfl, gh, h1, h2, kg, l1, l2, k⟩ := h
    have hu := hu_of hr
    refine ⟨_, (pss_one (ps_ret (pe_and (pe_cmpR (kEq K hr.units) (pe_kget K w (pe_glob (v := .ref T.d_NUMBERS) (by rfl) T.g_NUMBERS rfl) (pv 0) ⟨by rfl, by rfl, by rfl, by rfl⟩) (pe_callB (kLen K) (by rfl) T.z_len PySem.boot_len (pa_cons (pv 1) pa_nil)) (nomark _)) (pe_one (pe_callB (kAll K rfl) (by rfl) T.z_all (by decide +kernel) (pa_cons (pe_lc (own := [("number", 2)]) (g := gName 2) (by rfl) sc_d_is_row.nd  (kPiList K (pv 1)) (blkOk_by (N := n_d_is_row) (sc := defScope s_d_is_row) (by decide +kernel)) (fun _ _ _ _ _ => (pg_name (i := 2) sc_d_is_row.nd rfl (.inl rfl))) (fun _ _ _ _ _ => pts_nil) (fun _ _ _ _ _ => (pe_call G_d_is_number (hr.mono (by decide)) (by rfl) T.d_is_number.m T.d_is_number.F.kp T.d_is_number.b .nil pass0 (pa_cons (pv 2) pa_nil)))) pa_nil)))))), ?_⟩
    refine s_ret (W := Wd.in G H gh) (r := rBool) (x := decide (o = some ((ys.length : Nat) : Int)) && ys.all isNumM) (ev_andV (ev_eqZ (x := o) (y := some ((ys.length : Nat) : Int)) dzOInt (by decide) (fun _ _ => trivial) (fun _ _ => trivial) (ev_kget (s := rOpt rInt) (fun W1 l Q q => q _ W1 (Le.refl _) rfl) (ev_var rfl h1) kg o (fun G => by cases o <;> rfl)) (ev_some (ev_lenA (r := rStr) (ev_var rfl h2)))) fun _ => EvR.is (ev_allB (EvO.fz (eo_lcL (r := rStr) (s := rBool) (fun _ => true) isNumM (ev_var rfl h2) (by omega) (fun _ => rfl) (fun i y v W1 l hi e => et_yes) (fun i y v W1 l hi e _ => ev_call1 (r := rStr) (s := rBool) (ev_var rfl e) (l2 y (List.mem_of_getElem? hi)))))) (by rw [List.filter_eq_self.mpr (fun _ _ => rfl), List.all_map]; rfl)) fun v W e => by rw [show v = .bl _ from e]; exact k W
end
end
end Q

namespace Q
open PySem L2
local macro_rules | `(tactic| walk_at "up") => do
  let l := Lean.mkIdent `l
  let mut ts : Array (Lean.TSyntax `tactic) := #[]
  for i in [1, 2, 3, 4, 5, 6, 7, 8, 9, 10, 11, 12, 13, 14, 15, 16] do
    let h := Lean.mkIdent (Lean.Name.mkSimple s!"h{i}")
    ts := ts.push (← `(tactic| try replace $h:ident := Rp.up (Le.ex $l) $h))
    ts := ts.push (← `(tactic| try replace $h:ident := Rp.up (Wk.ex $l) $h))
    ts := ts.push (← `(tactic| try replace $h:ident := Rp.up (Kp.ex $l) $h))
  for i in [1, 2, 3, 4] do
    let h := Lean.mkIdent (Lean.Name.mkSimple s!"o{i}")
    ts := ts.push (← `(tactic| try replace $h:ident := OwnL.up $l $h))
    ts := ts.push (← `(tactic| try replace $h:ident := OwnD.up $l $h))
  `(tactic| ($[$ts:tactic];*))
local macro_rules | `(tactic| walk_at "cm") => `(tactic| first | exact Or.inl ⟨by omega, by omega⟩ | exact Or.inr ⟨by omega, by omega⟩)
local macro_rules | `(tactic| walk_at "ev") => `(tactic| repeat' first
  | exact ev_var rfl (by first | assumption | rfl)
  | exact ev_int | exact ev_bl | exact ev_str | exact ev_non
  | (refine' ev_addA ?_ ?_) | (refine' ev_sub ?_ ?_)
  | (refine' ev_mulA ?_ ?_ ?_; rotate_left 2; walk_at "cm")
  | (refine' ev_mod ?_ ?_ ?_; rotate_left 2; omega)
  | (refine' ev_lt ?_ ?_) | (refine' ev_le ?_ ?_) | (refine' ev_gt ?_ ?_) | (refine' ev_ge ?_ ?_)
  | (refine' ev_lenA ?_) | (refine' ev_in ?_ ?_) | (refine' ev_nin ?_ ?_)
  | (refine' ev_jx0 ?_) | (refine' ev_jx1 ?_) | (refine' ev_jx2 ?_) | (refine' ev_ix0 ?_) | (refine' ev_ix1 ?_)
  | (refine ev_chain_lelt ?_ ?_ ?_) | (refine ev_chain_lele ?_ ?_ ?_)
  | (refine' et_r ?_) | (refine' et_b ?_) | (refine' et_not ?_) | (refine' et_and ?_ fun _ => ?_) | (refine' et_or ?_ fun _ => ?_)
  | (refine' ev_pow ?_ ?_ ⟨by decide, by decide, by decide⟩)
  | (refine' ev_t2 ?_ ?_) | (refine' ev_t3 ?_ ?_ ?_)
  | exact et_yes)

section
variable {P : Program} {w : World} {K : PySem.W.Frag} {mg : Str → Option Value} {base : Heap}
theorem ok_dice (T : Txt K mg) : FnOk P w K mg base CX0 1 T.d_dice.f T.d_dice.fd ["_law_script"] (SpDice K) := by
  refine T.d_dice.F.ok sc_d_dice (fun vs H Q E h => ?_) (fun cdv A outer s H vs Q E hr h => ?_)
  · obtain ⟨s, ns, rfl, _⟩ := h; rfl
  · obtain ⟨sa, ns, rfl, hs, hl, k⟩ := h
    have hu := hu_of hr
    refine ⟨_, (pss_cons (ps_set (i := 1) sc_d_dice.nd rfl (.inl rfl) pe_int)
      (pss_cons (ps_for PassesOwn.never rfl (kPiList K (pv 0)) (pg_name (i := 2) sc_d_dice.nd rfl (.inl rfl)) (pss_one (ps_set (i := 1) sc_d_dice.nd rfl (.inl rfl) (pe_op op_mod (pe_op op_addA (pe_op op_addA (pe_op op_mulA (pv 1) pe_int) (pe_op op_mulA (pe_op op_mod (pv 2) pe_int) pe_int)) pe_int) pe_int))))
      (pss_one (ps_ret (pe_lst (pa_cons (pv 0) (pa_cons pe_int (pa_cons (pe_op op_mulA (pv 1) (pe_callTy call_int1 (by rfl) T.z_int PyProof.Rows.boot_int (pa_cons (pe_cmpR op_gt (pe_callB (kLen K) (by rfl) T.z_len PySem.boot_len (pa_cons (pv 0) pa_nil)) pe_int (nomark _)) pa_nil))) (pa_cons pe_int pa_nil))))))))), ?_⟩
    have b0 : Ex H (Wd.in H H (Ex.refl H)).H := Ex.refl H
    refine q_asg (W := Wd.in H H (Ex.refl H)) (by walk_at "ev") fun v W l h1 => ?_
    replace b0 := b0.trans l.ex
    cases h1
    refine ⟨_, rfl, sa, rfl, ⟨_, sqL_mono (b0.trans W.gh) hs⟩, for_list (K := K) (a := sa) (xs := ns.map V.int) (fun i => Nx W (fun σ W => ∃ (m : Int) (v : Option V), σ = [some (.ref sa), some (.int m), v] ∧ 0 ≤ m ∧ m < 2147483647))
      ⟨W, rfl, Wk.refl _, 0, none, rfl, by decide, by decide⟩ (fun i σ H2 _ ⟨W2, e, l2, _⟩ => e ▸ sqL_mono ((b0.trans l2.ex).trans W2.gh) hs) ?_ ?_⟩
    · rintro i y σ _ hi ⟨W2, rfl, l2, m, v, rfl, h1, h2⟩
      obtain ⟨z, hz, rfl⟩ : ∃ z, ns[i]? = some z ∧ y = V.int z := by
        rw [List.getElem?_map] at hi
        cases e : ns[i]? with
        | none => rw [e] at hi; cases hi
        | some z => rw [e] at hi; exact ⟨z, rfl, (Option.some.inj hi).symm⟩
      refine s_asg (W := W2) (σ := [some (.ref sa), some (.int m), some (.int z)]) (x := (m * 48271 + z % 2147483647 * 69621 + 11) % 2147483647) (by walk_at "ev") fun v W3 l3 h3 => ?_
      cases h3
      exact ⟨W3, rfl, l2.trans l3.wk, _, _, rfl, by omega, by omega⟩
    · rintro σ _ ⟨W2, rfl, l2, m, v, rfl, h1, h2⟩
      -- return [script, 0, mixed * int(len(script) > 2), 0]
      have hs2 := sqL_mono ((b0.trans l2.ex).trans W2.gh) hs
      refine ⟨_, rfl, _, rfl, _, rfl, .inl ⟨sa, _, rfl, .inl hs2, _, _, rfl, rfl, .inr ⟨_, rfl, .inl ⟨_, _, rfl, rfl, .inl ⟨by omega, by omega⟩, (by show 4 ≤ sizeLine; decide), fun p hp => ?_⟩⟩⟩⟩
      refine k p _ ?_ ((b0.trans l2.ex).trans (W2.gh.trans (Ex.new hp))) ⟨0, _, 0, upd_same, by decide, ?_, ?_, by decide⟩
      · exact (W2.h0 hp)
      · split <;> omega
      · split <;> omega
/-- the draw -/
theorem ok_next (T : Txt K mg) : FnOk P w K mg base CX0 1 T.d_next.f T.d_next.fd ["_law_dice_here", "_law_many"] (SpNext K) := by
  refine T.d_next.F.ok sc_d_next (fun vs H Q E h => ?_) (fun cdv A outer s H vs Q E hr h => ?_)
  · obtain ⟨G, d, s, ns, m, hd, rfl, _⟩ := h; rfl
  · obtain ⟨G, d, s, ns, m, hd, rfl, gh, gn, hs, m0, m1, k⟩ := h
    have hu := hu_of hr
    refine ⟨_, (pss_cons (ps_if (pt_cmpR op_gt (pe_ix (kIx K) (pv 0) pe_int (fun _ _ => rfl)) pe_int (nomark _)) (pss_cons (ps_set (i := 2) sc_d_next.nd rfl (.inl rfl) (pe_op op_mod (pe_ix (kIx K) (pv 0) pe_int (fun _ _ => rfl)) (pv 1)))
      (pss_cons (ps_asg (pe_op op_fdiv (pe_ix (kIx K) (pv 0) pe_int (fun _ _ => rfl)) (pv 1)) (pg_sub (pv 0) pe_int set_list))
      (pss_one (ps_ret (pv 2))))) pss_nil)
      (pss_cons (ps_asg (pe_op op_addA (pe_ix (kIx K) (pv 0) pe_int (fun _ _ => rfl)) pe_int) (pg_sub (pv 0) pe_int set_list))
      (pss_cons (ps_if (pt_cmpR op_le (pe_ix (kIx K) (pv 0) pe_int (fun _ _ => rfl)) (pe_callB (kLen K) (by rfl) T.z_len PySem.boot_len (pa_cons (pe_ix (kIx K) (pv 0) pe_int (fun _ _ => rfl)) pa_nil)) (nomark _)) (pss_cons (ps_set (i := 3) sc_d_next.nd rfl (.inl rfl) (pe_ix (kIx K) (pe_ix (kIx K) (pv 0) pe_int (fun _ _ => rfl)) (pe_op op_sub (pe_ix (kIx K) (pv 0) pe_int (fun _ _ => rfl)) pe_int) (fun _ _ => rfl)))
      (pss_cons (ps_asg (pe_ifExp (pt_cmpR op_ge (pv 3) (pe_op op_pow pe_int pe_int) (nomark _)) (pe_op op_fdiv (pv 3) (pv 1)) pe_int) (pg_sub (pv 0) pe_int set_list))
      (pss_one (ps_ret (pe_op op_mod (pv 3) (pv 1)))))) pss_nil)
      (pss_cons (ps_asg (pe_op op_mod (pe_op op_mulA (pe_ix (kIx K) (pv 0) pe_int (fun _ _ => rfl)) pe_int) pe_int) (pg_sub (pv 0) pe_int set_list))
      (pss_one (ps_ret (pe_op op_mod (pe_op op_fdiv (pe_ix (kIx K) (pv 0) pe_int (fun _ _ => rfl)) pe_int) (pv 1)))))))), ?_⟩
    obtain ⟨p, mx, c, e, p0, x0, x1, c0⟩ := id hd
    -- any heap that differs in the dice alone
    have fin : ∀ (x : Int) (p mx c : Int), 0 ≤ p → 0 ≤ mx → mx < 2147483647 → 0 ≤ c → 0 ≤ x → x < m → Q (.int x) (upd H d (.lst [.ref s, .int p, .int mx, .int c])) := fun x p mx c h1 h2 h3 h4 h5 h6 => by
      have gd : Ex G (upd H d (.lst [.ref s, .int p, .int mx, .int c])) := fun a o q => by rw [upd_ne (ne_of_none q gn)]; exact gh a o q
      exact k x ⟨G, upd H d (.lst [.ref s, .int p, .int mx, .int c]), gd, Ex.refl _, fun a n q _ => ⟨q, upd_ne n⟩, fun a q => by rw [show a = d from q]; exact gn, ⟨p, mx, c, upd_same, h1, h2, h3, h4⟩⟩ h5 h6
    -- if dice_here[3] > 0
    refine ⟨_, rfl, .inl ⟨d, _, 3, _, rfl, rfl, .inl (.inl e), rfl, _, _, rfl, rfl, _, rfl, ?_⟩⟩
    refine ite2 (fun hc => ?_) (fun hc => ?_)
    · refine ⟨_, rfl, .inl ⟨d, _, 3, _, rfl, rfl, .inl (.inl e), rfl, _, rfl, _, _, rfl, rfl, m0, ?_⟩⟩
      refine ⟨_, rfl, .inl ⟨d, _, 3, _, rfl, rfl, .inl (.inl e), rfl, _, rfl, _, _, rfl, rfl, ⟨m0, m1⟩, _, rfl, d, _, 3, 3, rfl, rfl, e, rfl, _, rfl, ?_⟩⟩
      exact fin _ p mx (c / m) p0 x0 x1 (Int.ediv_nonneg c0 (by omega)) (Int.emod_nonneg _ (by omega)) (Int.emod_lt_of_pos _ m0)
    · -- dice_here[1] = dice_here[1] + 1
      refine ⟨_, rfl, .inl ⟨d, _, 1, _, rfl, rfl, .inl (.inl e), rfl, .inl ⟨_, _, rfl, rfl, _, rfl, d, _, 1, 1, rfl, rfl, e, rfl, ?_⟩⟩⟩
      have e1 : (upd H d (.lst [.ref s, .int (p + 1), .int mx, .int c])) d = some (.lst [.ref s, .int (p + 1), .int mx, .int c]) := upd_same
      have g1 : Ex G (upd H d (.lst [.ref s, .int (p + 1), .int mx, .int c])) := fun a o q => by rw [upd_ne (ne_of_none q gn)]; exact gh a o q
      -- if dice_here[1] <= len(dice_here[0])
      refine ⟨_, rfl, .inl ⟨d, _, 1, _, rfl, rfl, .inl (.inl e1), rfl, _, rfl, .inl ⟨d, _, 0, _, rfl, rfl, .inl (.inl e1), rfl, .inl ⟨s, _, rfl, .inl (sqL_mono g1 hs), _, _, rfl, rfl, _, rfl, ?_⟩⟩⟩⟩
      refine ite2 (fun hc => ?_) (fun hc => ?_)
      · have hp : p < (ns.length : Int) := by
          have := of_decide_eq_true hc
          rw [List.length_map] at this; omega
        have hx : p.toNat < ns.length := by omega
        -- cell = dice_here[0][dice_here[1] - 1]
        refine ⟨_, rfl, .inl ⟨d, _, 0, _, rfl, rfl, .inl (.inl e1), rfl, _, rfl, .inl ⟨d, _, 1, _, rfl, rfl, .inl (.inl e1), rfl, _, _, rfl, rfl, .inl ⟨s, _, _, .int ns[p.toNat], rfl, rfl, sqL_mono g1 hs, at_of (show p + 1 - 1 = ((p.toNat : Nat) : Int) by omega) (by simp [hx]), ?_⟩⟩⟩⟩
        -- dice_here[3] = cell // many if cell >= 10 ** 18 else 0
        refine ⟨_, rfl, _, _, rfl, rfl, ⟨by decide, by decide, by decide⟩, _, _, rfl, rfl, _, rfl, ?_⟩
        refine ite2 (fun hg => ?_) (fun hg => ?_)
        · have hg' : (10 : Int) ^ (18 : Int).toNat ≤ ns[p.toNat] := of_decide_eq_true hg
          refine ⟨_, rfl, _, rfl, _, _, rfl, rfl, ⟨m0, m1⟩, _, rfl, d, _, 3, 3, rfl, rfl, e1, rfl, ?_⟩
          rw [upd_upd]
          refine ⟨_, rfl, _, rfl, _, _, rfl, rfl, m0, ?_⟩
          have hn : (0 : Int) ≤ ns[p.toNat] := Int.le_trans (by decide) hg'
          exact fin _ (p + 1) mx (ns[p.toNat] / m) (by omega) x0 x1 (Int.ediv_nonneg hn (by omega)) (Int.emod_nonneg _ (by omega)) (Int.emod_lt_of_pos _ m0)
        · refine ⟨_, rfl, d, _, 3, 3, rfl, rfl, e1, rfl, ?_⟩
          rw [upd_upd]
          refine ⟨_, rfl, _, rfl, _, _, rfl, rfl, m0, ?_⟩
          exact fin _ (p + 1) mx 0 (by omega) x0 x1 (by decide) (Int.emod_nonneg _ (by omega)) (Int.emod_lt_of_pos _ m0)
      · -- dice_here[2] = dice_here[2] * 48271 % 2147483647
        refine ⟨_, rfl, .inl ⟨d, _, 2, _, rfl, rfl, .inl (.inl e1), rfl, .inl ⟨_, _, rfl, rfl, .inl ⟨by omega, by omega⟩, _, _, rfl, rfl, (by decide : (0 : Int) < 2147483647), _, rfl, d, _, 2, 2, rfl, rfl, e1, rfl, ?_⟩⟩⟩
        rw [upd_upd]
        have e2 : (upd H d (.lst [.ref s, .int (p + 1), .int (mx * 48271 % 2147483647), .int c])) d = some (.lst [.ref s, .int (p + 1), .int (mx * 48271 % 2147483647), .int c]) := upd_same
        refine ⟨_, rfl, .inl ⟨d, _, 2, _, rfl, rfl, .inl (.inl e2), rfl, _, _, rfl, rfl, ⟨by decide, by decide⟩, _, rfl, _, _, rfl, rfl, m0, ?_⟩⟩
        exact fin _ (p + 1) _ c (by omega) (by omega) (by omega) c0 (Int.emod_nonneg _ (by omega)) (Int.emod_lt_of_pos _ m0)
end
end Q

namespace Q
open PySem L2
local macro_rules | `(tactic| walk_at "up") => do
  let l := Lean.mkIdent `l
  let mut ts : Array (Lean.TSyntax `tactic) := #[]
  for i in [1, 2, 3, 4, 5, 6, 7, 8, 9, 10, 11, 12, 13, 14, 15, 16] do
    let h := Lean.mkIdent (Lean.Name.mkSimple s!"h{i}")
    ts := ts.push (← `(tactic| try replace $h:ident := Rp.up (Le.ex $l) $h))
    ts := ts.push (← `(tactic| try replace $h:ident := Rp.up (Wk.ex $l) $h))
    ts := ts.push (← `(tactic| try replace $h:ident := Rp.up (Kp.ex $l) $h))
  for i in [1, 2, 3, 4] do
    let h := Lean.mkIdent (Lean.Name.mkSimple s!"o{i}")
    ts := ts.push (← `(tactic| try replace $h:ident := OwnL.up $l $h))
    ts := ts.push (← `(tactic| try replace $h:ident := OwnD.up $l $h))
  `(tactic| ($[$ts:tactic];*))
local macro_rules | `(tactic| walk_at "cm") => `(tactic| first | exact Or.inl ⟨by omega, by omega⟩ | exact Or.inr ⟨by omega, by omega⟩)
local macro_rules | `(tactic| walk_at "ev") => `(tactic| repeat' first
  | exact ev_var rfl (by first | assumption | rfl)
  | exact ev_int | exact ev_bl | exact ev_str | exact ev_non
  | (refine' ev_addA ?_ ?_) | (refine' ev_sub ?_ ?_)
  | (refine' ev_mulA ?_ ?_ ?_; rotate_left 2; walk_at "cm")
  | (refine' ev_mod ?_ ?_ ?_; rotate_left 2; omega)
  | (refine' ev_lt ?_ ?_) | (refine' ev_le ?_ ?_) | (refine' ev_gt ?_ ?_) | (refine' ev_ge ?_ ?_)
  | (refine' ev_lenA ?_) | (refine' ev_in ?_ ?_) | (refine' ev_nin ?_ ?_)
  | (refine' ev_jx0 ?_) | (refine' ev_jx1 ?_) | (refine' ev_jx2 ?_) | (refine' ev_ix0 ?_) | (refine' ev_ix1 ?_)
  | (refine ev_chain_lelt ?_ ?_ ?_) | (refine ev_chain_lele ?_ ?_ ?_)
  | (refine' et_r ?_) | (refine' et_b ?_) | (refine' et_not ?_) | (refine' et_and ?_ fun _ => ?_) | (refine' et_or ?_ fun _ => ?_)
  | (refine' ev_pow ?_ ?_ ⟨by decide, by decide, by decide⟩)
  | (refine' ev_t2 ?_ ?_) | (refine' ev_t3 ?_ ?_ ?_)
  | exact et_yes)

section
variable {P : Program} {w : World} {K : PySem.W.Frag} {mg : Str → Option Value} {base : Heap}
theorem mod_ne {many one r : Int} (hone : 0 ≤ one ∧ one < many) (h1 : 0 ≤ r) (h2 : r < many - 1) : 0 ≤ (one + 1 + r) % many ∧ (one + 1 + r) % many < many ∧ (one + 1 + r) % many ≠ one := by
  refine ⟨Int.emod_nonneg _ (by omega), Int.emod_lt_of_pos _ (by omega), fun e => ?_⟩
  have := Int.emod_add_mul_ediv (one + 1 + r) many
  rw [e] at this
  have h3 : many * ((one + 1 + r) / many) = 1 + r := by omega
  rcases Int.lt_or_le ((one + 1 + r) / many) 1 with h4 | h4
  · have : many * ((one + 1 + r) / many) ≤ 0 := Int.mul_nonpos_of_nonneg_of_nonpos (by omega) (by omega)
    omega
  · have : many * 1 ≤ many * ((one + 1 + r) / many) := Int.mul_le_mul_of_nonneg_left h4 (by omega)
    omega
theorem ok_net (T : Txt K mg) : FnOk P w K mg base CX0 2 T.d_net.f T.d_net.fd ["_law_d", "_law_places", "_law_lines"] (SpNet K) := by
  have G_d_next : FnOk P w K mg base CX0 1 T.d_next.f T.d_next.fd ["_law_dice_here", "_law_many"] (SpNext K) := ok_next T
  refine T.d_net.F.ok sc_d_net (fun vs H Q E h => ?_) (fun cdv A outer s H vs Q E hr h => ?_)
  · obtain ⟨G, d, s, ns, a, b, hd, rfl, _⟩ := h; rfl
  · obtain ⟨G, d, sc, ns, a, b, hd, rfl, gh, gn, hs, a0, a1, b0, b1, k⟩ := h
    have hu := hu_of hr
    refine ⟨_, (pss_cons (ps_set (i := 3) sc_d_net.nd rfl (.inl rfl) (pe_op op_addA pe_int (pe_call G_d_next (hr.mono (by decide)) (by rfl) T.d_next.m T.d_next.F.kp T.d_next.b .nil pass0 (pa_cons (pv 0) (pa_cons (pv 1) pa_nil)))))
      (pss_cons (ps_setLc (i := 4) (own := [("_law_place", 11)]) (g := gName 11) rfl sc_d_net.nd rfl rfl (sw_true rfl rfl rfl (by decide +kernel)) (pi_range1 (by rfl) T.z_range (pa_cons (pv 3) pa_nil)) (blkOk_by (N := n_d_net) (sc := defScope s_d_net) (by decide +kernel)) (fun _ _ _ _ _ => (pg_name (i := 11) sc_d_net.nd rfl (.inl rfl))) (fun _ _ _ _ _ => pts_nil) (fun _ _ _ _ _ => (pe_call G_d_next (hr.mono (by decide)) (by rfl) T.d_next.m T.d_next.F.kp T.d_next.b .nil pass0 (pa_cons (pv 0) (pa_cons pe_int pa_nil)))))
      (pss_cons (ps_if (pt_cmpR (kEq K hr.units) (pe_call G_d_next (hr.mono (by decide)) (by rfl) T.d_next.m T.d_next.F.kp T.d_next.b .nil pass0 (pa_cons (pv 0) (pa_cons pe_int pa_nil))) pe_int (nomark _)) (pss_one (ps_setLc (i := 4) (own := [("_law_place", 11)]) (g := gName 11) rfl sc_d_net.nd rfl rfl (sw_true rfl rfl rfl (by decide +kernel)) (pi_range1 (by rfl) T.z_range (pa_cons (pv 3) pa_nil)) (blkOk_by (N := n_d_net) (sc := defScope s_d_net) (by decide +kernel)) (fun _ _ _ _ _ => (pg_name (i := 11) sc_d_net.nd rfl (.inl rfl))) (fun _ _ _ _ _ => pts_nil) (fun _ _ _ _ _ => (pe_call G_d_next (hr.mono (by decide)) (by rfl) T.d_next.m T.d_next.F.kp T.d_next.b .nil pass0 (pa_cons (pv 0) (pa_cons (pe_op op_addA (pe_op op_pow pe_int pe_int) pe_int) pa_nil)))))) pss_nil)
      (pss_cons (ps_set (i := 5) sc_d_net.nd rfl (.inr rfl) (pe_slice (kSl K) (pe_lst (pa_cons (pe_call G_d_next (hr.mono (by decide)) (by rfl) T.d_next.m T.d_next.F.kp T.d_next.b .nil pass0 (pa_cons (pv 0) (pa_cons (pv 3) pa_nil))) pa_nil)) po_none (po_some (pe_call G_d_next (hr.mono (by decide)) (by rfl) T.d_next.m T.d_next.F.kp T.d_next.b .nil pass0 (pa_cons (pv 0) (pa_cons pe_int pa_nil))))))
      (pss_cons (ps_if (PW.pt (pw_and (pt_cmpR op_gt (pv 3) pe_int (nomark _)) (pw_and (pt_cmpR (kNe K hr.units) (pv 5) (pe_lst pa_nil) (nomark _)) (pw_and1 (pt_cmpR (kEq K hr.units) (pe_call G_d_next (hr.mono (by decide)) (by rfl) T.d_next.m T.d_next.F.kp T.d_next.b .nil pass0 (pa_cons (pv 0) (pa_cons pe_int pa_nil))) pe_int (nomark _)))))) (pss_one (ps_expr (kBm K PySem.F.plainAttrs_list PySem.F.slot_list_append PySem.F.type_list_append mt_append (pv 5) (pa_cons (pe_op op_mod (pe_op op_addA (pe_op op_addA (pe_ix (kIx K) (pv 5) pe_int (fun _ _ => rfl)) pe_int) (pe_call G_d_next (hr.mono (by decide)) (by rfl) T.d_next.m T.d_next.F.kp T.d_next.b .nil pass0 (pa_cons (pv 0) (pa_cons (pe_op op_sub (pv 3) pe_int) pa_nil)))) (pv 3)) pa_nil)))) pss_nil)
      (pss_cons (ps_if (PW.pt (pw_and (pt_cmpR (kNe K hr.units) (pv 5) (pe_lst pa_nil) (nomark _)) (pw_and1 (pt_cmpR (kEq K hr.units) (pe_call G_d_next (hr.mono (by decide)) (by rfl) T.d_next.m T.d_next.F.kp T.d_next.b .nil pass0 (pa_cons (pv 0) (pa_cons pe_int pa_nil))) pe_int (nomark _))))) (pss_one (ps_set (i := 5) sc_d_net.nd rfl (.inr rfl) (pe_op op_addA (pv 5) (pe_lc (own := [("_law_place", 11)]) (g := gName 11) (by rfl) sc_d_net.nd  (pi_range1 (by rfl) T.z_range (pa_cons (pv 3) pa_nil)) (blkOk_by (N := n_d_net) (sc := defScope s_d_net) (by decide +kernel)) (fun _ _ _ _ _ => (pg_name (i := 11) sc_d_net.nd rfl (.inl rfl))) (fun _ _ _ _ _ => (pts_one (PW.pt (pw_and (pt_cmpR (kNotIn K) (pv 11) (pv 5) (by rfl)) (pw_and1 (pt_cmpR (kEq K hr.units) (pe_call G_d_next (hr.mono (by decide)) (by rfl) T.d_next.m T.d_next.F.kp T.d_next.b .nil pass0 (pa_cons (pv 0) (pa_cons pe_int pa_nil))) pe_int (nomark _))))))) (fun _ _ _ _ _ => (pv 11)))))) pss_nil)
      (pss_cons (ps_set (i := 6) sc_d_net.nd rfl (.inl rfl) (pe_lst pa_nil))
      (pss_cons (ps_if (pt_cmpR op_gt (pv 3) pe_int (nomark _)) (pss_one (ps_for PassesOwn.never rfl (pi_range1 (by rfl) T.z_range (pa_cons (pe_call G_d_next (hr.mono (by decide)) (by rfl) T.d_next.m T.d_next.F.kp T.d_next.b .nil pass0 (pa_cons (pv 0) (pa_cons (pe_op op_addA (pv 2) pe_int) pa_nil))) pa_nil)) (pg_name (i := 7) sc_d_net.nd rfl (.inl rfl)) (pss_cons (ps_set (i := 8) sc_d_net.nd rfl (.inl rfl) (pe_call G_d_next (hr.mono (by decide)) (by rfl) T.d_next.m T.d_next.F.kp T.d_next.b .nil pass0 (pa_cons (pv 0) (pa_cons (pv 3) pa_nil))))
      (pss_cons (ps_set (i := 9) sc_d_net.nd rfl (.inl rfl) (pe_op op_mod (pe_op op_addA (pe_op op_addA (pv 8) pe_int) (pe_call G_d_next (hr.mono (by decide)) (by rfl) T.d_next.m T.d_next.F.kp T.d_next.b .nil pass0 (pa_cons (pv 0) (pa_cons (pe_op op_sub (pv 3) pe_int) pa_nil)))) (pv 3)))
      (pss_cons (ps_set (i := 10) sc_d_net.nd rfl (.inl rfl) (pe_ix (kIx K) (pe_lst (pa_cons (pe_op op_addA pe_int (pe_call G_d_next (hr.mono (by decide)) (by rfl) T.d_next.m T.d_next.F.kp T.d_next.b .nil pass0 (pa_cons (pv 0) (pa_cons pe_int pa_nil)))) (pa_cons (pe_call G_d_next (hr.mono (by decide)) (by rfl) T.d_next.m T.d_next.F.kp T.d_next.b .nil pass0 (pa_cons (pv 0) (pa_cons pe_int pa_nil))) (pa_cons (pe_op op_pow pe_int pe_int) pa_nil)))) (pe_call G_d_next (hr.mono (by decide)) (by rfl) T.d_next.m T.d_next.F.kp T.d_next.b .nil pass0 (pa_cons (pv 0) (pa_cons pe_int pa_nil))) (fun _ _ => rfl)))
      (pss_one (ps_expr (kBm K PySem.F.plainAttrs_list PySem.F.slot_list_append PySem.F.type_list_append mt_append (pv 6) (pa_cons (pe_tup (pa_cons (pv 8) (pa_cons (pv 9) (pa_cons (pv 10) pa_nil)))) pa_nil))))))))) pss_nil)
      (pss_one (ps_ret (pe_tup (pa_cons (pv 4) (pa_cons (pv 5) (pa_cons (pv 6) pa_nil)))))))))))))), ?_⟩
    -- many = 1 + next(d, places)
    refine q_asgN (W := Wd.inD G H d sc hd gh gn) (P := fun m => 1 ≤ m ∧ m ≤ a) (ev_addN ev_int.n (ev_next rfl hs (by walk_at "ev") a0 (by omega)) (by omega)) fun v W many l h1 hm => ?_
    cases h1
    -- needs = [next(d, 5) for place in range(many)]
    refine q_asgN (P := fun xs : List Int => (xs.length : Int) = many ∧ ∀ x ∈ xs, 0 ≤ x ∧ x ≤ 1000000) (EvN.imp (EvON.fz (eon_lcR (by walk_at "ev") (by omega) (fun _ => rfl) fun x W l h1 h2 => EvC.all (ev_next rfl hs (by walk_at "ev") (by decide) (by decide)))) fun xs hx => ?_) fun v4 W needs l h4 hn => ?_
    · obtain ⟨h1, h2⟩ := lcr_all hx
      rw [rg_len] at h1
      exact ⟨by omega, fun x hx => by have := h2 x hx; omega⟩
    -- if next(d, 8) == 7: needs = [next(d, 10 ** 6 + 1) for place in range(many)]
    refine q_whenCut (fun σ W => ∃ v needs, σ = [some (.ref d), some (.int a), some (.int b), some (.int many), some v, none, none, none, none, none, none, none] ∧ (rList rInt).rel W.G v needs ∧ (needs.length : Int) = many ∧ ∀ x ∈ needs, 0 ≤ x ∧ x ≤ 1000000)
      (et_draw rfl hs (by walk_at "ev") (by decide) (by decide)) (fun _ W l rest => ?_) (fun _ W l => ⟨v4, needs, rfl, (rList rInt).mono l.ex h4, hn⟩) ?_
    · refine s_asgN (P := fun xs : List Int => (xs.length : Int) = many ∧ ∀ x ∈ xs, 0 ≤ x ∧ x ≤ 1000000) (EvN.imp (EvON.fz (eon_lcR (by walk_at "ev") (by omega) (fun _ => rfl) fun x W l h1 h2 => EvC.all (ev_next (m := 1000001) rfl hs (EvR.is (x := (10 : Int) ^ (6 : Int).toNat + 1) (by walk_at "ev") (by decide)) (by decide) (by decide)))) fun xs hx => ?_) fun v4 W needs l h4 hn => ?_
      · obtain ⟨h1, h2⟩ := lcr_all hx
        rw [rg_len] at h1
        exact ⟨by omega, fun x hx => by have := h2 x hx; omega⟩
      · exact rest _ W ⟨v4, needs, rfl, h4, hn⟩
    clear h4 hn needs v4
    rintro σ W ⟨v4, needs, rfl, h4, hn⟩
    -- sources = [next(d, many)][:next(d, 6)]
    refine q_asgON (P := fun xs : List Int => xs = [] ∨ ∃ x, xs = [x] ∧ 0 ≤ x ∧ x < many) (EvON.imp (eon_slN (EvON.fz (eo_lstN (el_consN (ev_next rfl hs (by walk_at "ev") (by omega) (by omega)) el_nilN) fun xs hx => by obtain ⟨y, ys, rfl, _, rfl⟩ := hx; simp)) (ev_next rfl hs (by walk_at "ev") (by decide) (by decide)) fun j h => h.1) fun xs hx => ?_) fun p W src l0 hp o1 hsrc => ?_
    · obtain ⟨ys, j, ⟨y, zs, rfl, hy, rfl⟩, hj, rfl⟩ := hx
      by_cases h : j.toNat = 0
      · exact .inl (by rw [h]; rfl)
      · refine .inr ⟨y, ?_, hy⟩
        rw [List.take_of_length_le (by simp; omega)]
    -- if many > 1 and sources != [] and next(d, 3) == 2: sources.append(..)
    refine q_whenCut (P := fun b => b = true → 1 < many ∧ src ≠ []) (fun σ W => ∃ src, σ = [some (.ref d), some (.int a), some (.int b), some (.int many), some v4, some (.ref p), none, none, none, none, none, none] ∧ (rList rInt).rel W.G v4 needs ∧ OwnL W p rInt src ∧ src.Nodup ∧ (∀ x ∈ src, 0 ≤ x ∧ x < many) ∧ src.length ≤ 2)
      (lentBN o1 fun W' l h5 => EvBN.imp (et_andN (a := decide (1 < many)) (et_r (by walk_at "ev")) fun _ => et_andN (a := !decide (src = [])) (et_r (ev_neD dtInts (by walk_at "ev") ev_emp)) fun _ => et_draw (m := 3) rfl hs (by walk_at "ev") (by decide) (by decide)) fun b hb e => ?_) (fun hb W l rest => ?_) (fun _ W l => ?_) ?_
    · subst e
      rcases hb with ⟨h1, h2 | h2⟩ | h2
      · exact ⟨of_decide_eq_true h1, by simpa using h2.1⟩
      · simp at h2
      · simp at h2
    · obtain ⟨hm1, hne⟩ := hb rfl
      replace h4 := Rp.up l.ex (Rp.up l0.ex h4)
      replace o1 := OwnL.up l o1
      obtain ⟨x, rfl, hx0, hx1⟩ : ∃ x, src = [x] ∧ 0 ≤ x ∧ x < many := by
        rcases hsrc with h | h
        · exact absurd h hne
        · exact h
      refine s_appN (P := fun y => 0 ≤ y ∧ y < many ∧ y ≠ x) rfl o1 (lentN flat_int o1 fun W' l h5 => ev_modN (P' := fun z => z = many) (P := fun z => ∃ r, 0 ≤ r ∧ r < many - 1 ∧ z = x + 1 + r) (ev_addN (EvR.n (ev_addA (ev_ixL (by walk_at "ev") ev_int ⟨by decide, rfl⟩) ev_int)) (ev_next rfl hs (by walk_at "ev") (by omega) (by omega)) fun u r hu hr => ⟨r, hr.1, hr.2, by omega⟩) (EvR.n (by walk_at "ev")) (fun u z _ hz => by omega) fun u z hu hz => ?_) (by simp) fun W1 y kp hy o2 => ?_
      · obtain ⟨r, h1, h2, rfl⟩ := hu
        subst hz
        exact mod_ne ⟨hx0, hx1⟩ h1 h2
      · refine rest _ W1 ⟨[x] ++ [y], rfl, Rp.up kp.ex h4, o2, ?_, ?_, by simp⟩
        · simp; exact fun e => hy.2.2 e.symm
        · intro z hz
          simp at hz
          rcases hz with rfl | rfl
          · exact ⟨hx0, hx1⟩
          · exact ⟨hy.1, hy.2.1⟩
    · refine ⟨src, rfl, Rp.up l.ex (Rp.up l0.ex h4), o1.up l, ?_⟩
      rcases hsrc with rfl | ⟨x, rfl, hx⟩
      · simp
      · simp; exact hx
    clear o1 hsrc h4 src
    rintro σ W ⟨src, rfl, h4, o1, nd, rs, sl⟩
    -- if sources != [] and next(d, 4) == 3: sources = sources + [..]
    refine q_whenCut (fun σ W => ∃ p src, σ = [some (.ref d), some (.int a), some (.int b), some (.int many), some v4, some (.ref p), none, none, none, none, none, none] ∧ (rList rInt).rel W.G v4 needs ∧ OwnL W p rInt src ∧ src.Nodup ∧ (∀ x ∈ src, 0 ≤ x ∧ x < many))
      (lentBN o1 fun W' l h5 => et_andN (a := !decide (src = [])) (et_r (ev_neD dtInts (by walk_at "ev") ev_emp)) fun _ => et_draw (m := 4) rfl hs (by walk_at "ev") (by decide) (by decide)) (fun hb W l rest => (have o2 := o1.up l; have h4 := Rp.up l.ex h4; ?_)) (fun _ W l => ⟨p, src, rfl, Rp.up l.ex h4, o1.up l, nd, rs⟩) ?_
    · refine s_asgON (P := fun zs => ∃ ys, zs = src ++ ys ∧ ys.Sublist (rg many) ∧ ∀ y ∈ ys, y ∉ src) (EvON.imp (lentON flat_int o2 fun W' l h5 => eon_catA (EvR.n (x := src) (by walk_at "ev")) (EvON.fz (eon_lcR (n := many) (R := fun x o => o = none ∨ (o = some x ∧ x ∉ src)) (by walk_at "ev") (by omega) (fun _ => rfl) fun x W l hx0 hx1 =>
          EvC.imp (EvC.sel (y := x) (et_andN (a := !decide (x ∈ src)) (et_r (ev_nin (by walk_at "ev") (ev_var (v := .ref p) rfl (Rp.up l.ex h5)))) fun _ => et_draw (m := 2) rfl hs (by walk_at "ev") (by decide) (by decide)) (by walk_at "ev")) fun o ho => ?_)) fun xs ys hx hy => ?_) fun zs hz => ?_) fun q W zs l hq o2 hz => ?_
      · rcases ho with ⟨rfl, ⟨h1, _⟩ | ⟨_, h1⟩⟩ | ⟨rfl, _⟩
        · exact .inr ⟨rfl, by simpa using h1⟩
        · cases h1
        · exact .inl rfl
      · subst hx
        have := lcr_len hy
        rw [rg_len] at this
        omega
      · obtain ⟨xs, ys, rfl, hy, rfl⟩ := hz
        exact ⟨ys, rfl, lcr_sub hy⟩
      · obtain ⟨ys, rfl, h1, h2⟩ := hz
        refine rest _ W ⟨q, src ++ ys, rfl, Rp.up l.ex h4, o2, ?_, fun z hz => ?_⟩
        · refine List.nodup_append.mpr ⟨nd, h1.nodup (rg_nodup _), fun x hx y hy e => h2 y hy (e ▸ hx)⟩
        · rcases List.mem_append.mp hz with hz | hz
          · exact rs z hz
          · exact mem_rg.mp (h1.subset hz)
    clear o1 nd rs sl h4 src p hp
    rintro σ W ⟨p, src, rfl, h4, o1, nd, rs⟩
    obtain ⟨W', e, kp, h5⟩ := o1.fz
    rw [← e]
    replace h4 := Rp.up kp.ex h4
    clear e kp o1
    -- rows = []
    refine q_asgO (r := rLine) (eo_lst el_nil (Nat.zero_le _)) fun q W l hq o2 => ?_
    walk_at "up"
    clear l hq
    -- if many > 1: for k in range(next(d, lines + 1)): ..
    refine q_whenCut (P := fun b => b = true → 1 < many) (fun σ W => ∃ k7 k8 k9 k10 rows, σ = [some (.ref d), some (.int a), some (.int b), some (.int many), some v4, some (.ref p), some (.ref q), k7, k8, k9, k10, none] ∧ (rList rInt).rel W.G v4 needs ∧ (rList rInt).rel W.G (.ref p) src ∧ OwnL W q rLine rows ∧ (rows.length : Int) ≤ b ∧
        ∀ x ∈ rows, (0 ≤ x.1 ∧ x.1 < many) ∧ (0 ≤ x.2.1 ∧ x.2.1 < many) ∧ x.1 ≠ x.2.1 ∧ 0 ≤ x.2.2 ∧ x.2.2 ≤ 1000000)
      (EvBN.imp (EvB.n (b := decide (1 < many)) (et_r (by walk_at "ev"))) fun b hb e => of_decide_eq_true (hb.symm.trans e)) (fun hb W l rest => ?_) (fun _ W l => ?_) ?_
    · have hm1 := hb rfl
      walk_at "up"
      refine s_forRN (B := fun n => 0 ≤ n ∧ n < b + 1) (ev_next rfl hs (by walk_at "ev") (by omega) (by omega)) (fun n hn => by omega) fun W n l hn => ?_
      walk_at "up"
      refine ⟨fun i σ W => ∃ k7 k8 k9 k10 rows, σ = [some (.ref d), some (.int a), some (.int b), some (.int many), some v4, some (.ref p), some (.ref q), k7, k8, k9, k10, none] ∧ OwnL W q rLine rows ∧ rows.length = i ∧
        ∀ x ∈ rows, (0 ≤ x.1 ∧ x.1 < many) ∧ (0 ≤ x.2.1 ∧ x.2.1 < many) ∧ x.1 ≠ x.2.1 ∧ 0 ≤ x.2.2 ∧ x.2.2 ≤ 1000000, ⟨none, none, none, none, [], rfl, o2, rfl, by simp⟩, ?_, ?_⟩
      · rintro i σ W1 l hi ⟨k7, k8, k9, k10, rows, rfl, o2, hl, hr⟩
        -- one = next(d, many)
        refine q_asgN (P := fun x => 0 ≤ x ∧ x < many) (ev_next rfl hs (by walk_at "ev") (by omega) (by omega)) fun v W2 one l2 e hone => ?_
        cases e
        replace o2 := o2.up l2
        -- other = (one + 1 + next(d, many - 1)) % many
        refine q_asgN (P := fun y => 0 ≤ y ∧ y < many ∧ y ≠ one) (ev_modN (P' := fun z => z = many) (P := fun z => ∃ r, 0 ≤ r ∧ r < many - 1 ∧ z = one + 1 + r) (ev_addN (EvR.n (x := one + 1) (by walk_at "ev")) (ev_next (m := many - 1) rfl hs (by walk_at "ev") (by omega) (by omega)) fun u r hu hr => ⟨r, hr.1, hr.2, by omega⟩) (EvR.n (by walk_at "ev")) (fun u z _ hz => by omega) fun u z hu hz => ?_) fun v W3 other l3 e hother => ?_
        · obtain ⟨r, h1, h2, rfl⟩ := hu
          subst hz
          exact mod_ne hone h1 h2
        cases e
        replace o2 := o2.up l3
        -- limit
        refine q_asgN (P := fun y => 0 ≤ y ∧ y ≤ 1000000) (ev_ixLN (EvON.fz (eo_lstN (el_consN (P := fun x => 0 ≤ x ∧ x ≤ 1000000) (ev_addN (EvR.n (x := 10) (by walk_at "ev")) (ev_next (m := 20) rfl hs (by walk_at "ev") (by decide) (by decide)) fun x y hx hy => by omega) (el_consN (P := fun x => 0 ≤ x ∧ x ≤ 1000000) (EvN.imp (ev_next (m := 9) rfl hs (by walk_at "ev") (by decide) (by decide)) fun x hx => by omega)
            (el_consN (P := fun x => 0 ≤ x ∧ x ≤ 1000000) (EvN.imp (EvR.n (x := (10 : Int) ^ (6 : Int).toNat) (by walk_at "ev")) fun x hx => by subst hx; decide) el_nilN))) fun xs hx => ?_)) (ev_next (m := 3) rfl hs (by walk_at "ev") (by decide) (by decide)) fun xs i hx hi => ?_) fun v W4 limit l4 e hlim => ?_
        · obtain ⟨_, _, rfl, _, _, _, rfl, _, _, _, rfl, _, rfl⟩ := hx; simp
        · obtain ⟨x, _, rfl, hx, y, _, rfl, hy, z, _, rfl, hz, rfl⟩ := hx
          refine ⟨hi.1, ?_⟩
          have : i.toNat = 0 ∨ i.toNat = 1 ∨ i.toNat = 2 := by omega
          rcases this with e | e | e <;> rw [e]
          · exact ⟨x, rfl, hx⟩
          · exact ⟨y, rfl, hy⟩
          · exact ⟨z, rfl, hz⟩
        cases e
        replace o2 := o2.up l4
        -- rows.append((one, other, limit))
        refine s_app (x := (one, other, limit)) rfl o2 (by walk_at "ev") (by omega) fun W5 kp o3 => ?_
        refine ⟨W5, rfl, ⟨((l.ex.trans l2.ex).trans (l3.ex.trans l4.ex)).trans kp.ex⟩, _, _, _, _, _, rfl, o3, by simp [hl], fun x hx => ?_⟩
        rcases List.mem_append.mp hx with hx | hx
        · exact hr x hx
        · simp at hx
          subst hx
          exact ⟨hone, ⟨hother.1, hother.2.1⟩, fun e => hother.2.2 e.symm, hlim⟩
      · rintro σ W1 l ⟨k7, k8, k9, k10, rows, rfl, o2, hl, hr⟩
        exact rest _ W1 ⟨_, _, _, _, rows, rfl, Rp.up l.ex h4, Rp.up l.ex h5, o2, by omega, hr⟩
    · walk_at "up"
      exact ⟨none, none, none, none, [], rfl, h4, h5, o2, by simpa using b0, by simp⟩
    rintro σ W ⟨k7, k8, k9, k10, rows, rfl, h4, h5, o2, hl, hr⟩
    obtain ⟨W', e, kp, h6⟩ := o2.fz
    rw [← e]
    replace h4 := Rp.up kp.ex h4
    replace h5 := Rp.up kp.ex h5
    refine s_ret (x := (needs, src, rows)) (by walk_at "ev") fun v W h => k v W _ h ⟨by simp only; omega, hn.2, nd, fun x hx => by have := rs x hx; simp only; omega, hl, fun x hx => ?_⟩
    have := hr x hx
    refine ⟨?_, ?_, this.2.2⟩
    · simp only; omega
    · simp only; omega
end
end Q

namespace Q
open PySem L2
local macro_rules | `(tactic| walk_at "up") => do
  let l := Lean.mkIdent `l
  let mut ts : Array (Lean.TSyntax `tactic) := #[]
  for i in [1, 2, 3, 4, 5, 6, 7, 8, 9, 10, 11, 12, 13, 14, 15, 16] do
    let h := Lean.mkIdent (Lean.Name.mkSimple s!"h{i}")
    ts := ts.push (← `(tactic| try replace $h:ident := Rp.up (Le.ex $l) $h))
    ts := ts.push (← `(tactic| try replace $h:ident := Rp.up (Wk.ex $l) $h))
    ts := ts.push (← `(tactic| try replace $h:ident := Rp.up (Kp.ex $l) $h))
  for i in [1, 2, 3, 4] do
    let h := Lean.mkIdent (Lean.Name.mkSimple s!"o{i}")
    ts := ts.push (← `(tactic| try replace $h:ident := OwnL.up $l $h))
    ts := ts.push (← `(tactic| try replace $h:ident := OwnD.up $l $h))
  `(tactic| ($[$ts:tactic];*))
local macro_rules | `(tactic| walk_at "cm") => `(tactic| first | exact Or.inl ⟨by omega, by omega⟩ | exact Or.inr ⟨by omega, by omega⟩)
local macro_rules | `(tactic| walk_at "ev") => `(tactic| repeat' first
  | exact ev_var rfl (by first | assumption | rfl)
  | exact ev_int | exact ev_bl | exact ev_str | exact ev_non
  | (refine' ev_addA ?_ ?_) | (refine' ev_sub ?_ ?_)
  | (refine' ev_mulA ?_ ?_ ?_; rotate_left 2; walk_at "cm")
  | (refine' ev_mod ?_ ?_ ?_; rotate_left 2; omega)
  | (refine' ev_lt ?_ ?_) | (refine' ev_le ?_ ?_) | (refine' ev_gt ?_ ?_) | (refine' ev_ge ?_ ?_)
  | (refine' ev_lenA ?_) | (refine' ev_in ?_ ?_) | (refine' ev_nin ?_ ?_)
  | (refine' ev_jx0 ?_) | (refine' ev_jx1 ?_) | (refine' ev_jx2 ?_) | (refine' ev_ix0 ?_) | (refine' ev_ix1 ?_)
  | (refine ev_chain_lelt ?_ ?_ ?_) | (refine ev_chain_lele ?_ ?_ ?_)
  | (refine' et_r ?_) | (refine' et_b ?_) | (refine' et_not ?_) | (refine' et_and ?_ fun _ => ?_) | (refine' et_or ?_ fun _ => ?_)
  | (refine' ev_pow ?_ ?_ ⟨by decide, by decide, by decide⟩)
  | (refine' ev_t2 ?_ ?_) | (refine' ev_t3 ?_ ?_ ?_)
  | exact et_yes)

section
variable {P : Program} {w : World} {K : PySem.W.Frag} {mg : Str → Option Value} {base : Heap}
abbrev SpCheckNeeds : Sp := Fn1 (rList rInt) rNon (fun ns => (1 ≤ ns.length ∧ ns.length ≤ 10) ∧ ∀ x ∈ ns, 0 ≤ x ∧ x ≤ 1000000) (fun _ => ())
theorem ok_check_needs (T : Txt K mg) : FnOk P w K mg base CX0 1 T.d_check_needs.f T.d_check_needs.fd ["needs"] SpCheckNeeds := by
  refine T.d_check_needs.F.ok sc_d_check_needs (fun vs H Q E h => ?_) (fun cdv A outer s H vs Q E hr h => ?_)
  · obtain ⟨G, v, x, rfl, _⟩ := h; rfl
  · obtain ⟨G, v, ns, rfl, gh, h1, ⟨hl, hn⟩, k⟩ := h
    have hu := hu_of hr
    refine ⟨_, (pss_cons (ps_if (pt_not (pt_chain op_le op_le pe_int (pe_callB (kLen K) (by rfl) T.z_len PySem.boot_len (pa_cons (pv 0) pa_nil)) (pe_glob (v := .int 10) (by rfl) T.c_MOST_PLACES.2 ⟨_, rfl⟩))) (pss_one ps_never) pss_nil)
      (pss_one (ps_for PassesOwn.never rfl (kEnum K (by rfl) T.z_enumerate (pa_cons (pv 0) pa_nil)) (kTupT K rfl (pgs_cons (pg_name (i := 1) sc_d_check_needs.nd rfl (.inl rfl)) (pgs_cons (pg_name (i := 2) sc_d_check_needs.nd rfl (.inl rfl)) pgs_nil))) (pss_one (ps_if (pt_not (pt_chain op_le op_le pe_int (pv 2) (pe_glob (v := .int 1000000) (by rfl) T.c_MOST_WORTH.2 ⟨_, rfl⟩))) (pss_one ps_never) pss_nil))))), ?_⟩
    refine q_when (W := Wd.in G H gh) (b := false) (EvB.is (x := !(decide ((1 : Int) ≤ (ns.length : Nat)) && decide (((ns.length : Nat) : Int) ≤ 10))) (by walk_at "ev") (by simp; omega)) (fun z => nomatch z) fun _ W l => ?_
    walk_at "up"
    refine s_forE (r := rInt) (xs := ns) (by walk_at "ev") fun W l => ?_
    walk_at "up"
    refine ⟨fun i σ W => ∃ k1 k2, σ = [some v, k1, k2], ⟨none, none, rfl⟩, ?_, ?_⟩
    · rintro i x u σ W1 W2 l l2 hx e ⟨k1, k2, rfl⟩
      cases e
      have := hn x (List.mem_of_getElem? hx)
      refine s_when (W := W2) (b := false) (EvB.is (x := !(decide ((0 : Int) ≤ x) && decide (x ≤ 1000000))) (by walk_at "ev") (by simp; omega)) (fun z => nomatch z) fun _ W3 l3 => ?_
      exact ⟨W3, rfl, ⟨(l.ex.trans l2.ex).trans l3.ex⟩, _, _, rfl⟩
    · rintro σ W1 l ⟨k1, k2, rfl⟩
      exact k .non W1 rfl
abbrev SpCheckSources : Sp := Fn2 (rList rInt) rInt rNon (fun ss m => ss.Nodup ∧ ss.length ≤ 10 ∧ ∀ x ∈ ss, 0 ≤ x ∧ x < m) (fun _ _ => ())
theorem nodup_take {ss : List Int} {i : Nat} {x : Int} (nd : ss.Nodup) (h : ss[i]? = some x) : x ∉ ss.take i := fun hm => by
  obtain ⟨j, hj, e⟩ := List.getElem_of_mem hm
  rw [List.getElem_take] at e
  have hi := (List.getElem?_eq_some_iff.mp h).1
  have hx := (List.getElem?_eq_some_iff.mp h).2
  have hj' : j < i := by rw [List.length_take] at hj; omega
  have := (List.getElem_inj nd (h₀ := by omega) (h₁ := hi)).mp (e.trans hx.symm)
  omega
theorem ok_check_sources (T : Txt K mg) : FnOk P w K mg base CX0 1 T.d_check_sources.f T.d_check_sources.fd ["sources", "many"] SpCheckSources := by
  refine T.d_check_sources.F.ok sc_d_check_sources (fun vs H Q E h => ?_) (fun cdv A outer s H vs Q E hr h => ?_)
  · obtain ⟨G, v, u, x, y, rfl, _⟩ := h; rfl
  · obtain ⟨G, v, u, ss, m, rfl, gh, h1, e, ⟨nd, hl, hs⟩, k⟩ := h
    have hu := hu_of hr
    cases e
    refine ⟨_, (pss_one (ps_for PassesOwn.never rfl (kEnum K (by rfl) T.z_enumerate (pa_cons (pv 0) pa_nil)) (kTupT K rfl (pgs_cons (pg_name (i := 2) sc_d_check_sources.nd rfl (.inl rfl)) (pgs_cons (pg_name (i := 3) sc_d_check_sources.nd rfl (.inl rfl)) pgs_nil))) (pss_one (ps_if (PW.pt (pw_or (pt_not (pt_chain op_le op_lt pe_int (pv 3) (pv 1))) (pw_or1 (pt_cmpR (kIn K) (pv 3) (pe_slice (kSl K) (pv 0) po_none (po_some (pv 2))) (by rfl))))) (pss_one ps_never) pss_nil)))), ?_⟩
    refine s_forE (W := Wd.in G H gh) (r := rInt) (xs := ss) (by walk_at "ev") fun W l => ?_
    walk_at "up"
    refine ⟨fun i σ W => ∃ k1 k2, σ = [some v, some (.int m), k1, k2], ⟨none, none, rfl⟩, ?_, ?_⟩
    · rintro i x u σ W1 W2 l l2 hx e ⟨k1, k2, rfl⟩
      cases e
      replace h1 := Rp.up (l.ex.trans l2.ex) h1
      have := hs x (List.mem_of_getElem? hx)
      have hx2 := nodup_take nd hx
      refine s_when (W := W2) (b := false) (EvB.is (x := !(decide ((0 : Int) ≤ x) && decide (x < m)) || decide (x ∈ ss.take ((i : Int)).toNat)) (et_or (by walk_at "ev") fun _ => et_r (ev_in (by walk_at "ev") (EvO.fz (eo_sl (ev_var rfl h1) rfl (ev_var rfl rfl) (by omega) rfl)))) (by simp [hx2]; omega)) (fun z => nomatch z) fun _ W3 l3 => ?_
      exact ⟨W3, rfl, ⟨(l.ex.trans l2.ex).trans l3.ex⟩, _, _, rfl⟩
    · rintro σ W1 l ⟨k1, k2, rfl⟩
      exact k .non W1 rfl
abbrev SpCheckLines : Sp := Fn2 (rList rLine) rInt rNon (fun ls m => ls.length ≤ 10 ∧ ∀ x ∈ ls, (0 ≤ x.1 ∧ x.1 < m) ∧ (0 ≤ x.2.1 ∧ x.2.1 < m) ∧ x.1 ≠ x.2.1 ∧ 0 ≤ x.2.2 ∧ x.2.2 ≤ 1000000) (fun _ _ => ())
theorem ok_check_lines (T : Txt K mg) : FnOk P w K mg base CX0 1 T.d_check_lines.f T.d_check_lines.fd ["lines", "many"] SpCheckLines := by
  refine T.d_check_lines.F.ok sc_d_check_lines (fun vs H Q E h => ?_) (fun cdv A outer s H vs Q E hr h => ?_)
  · obtain ⟨G, v, u, x, y, rfl, _⟩ := h; rfl
  · obtain ⟨G, v, u, ls, m, rfl, gh, h1, e, ⟨hl, hs⟩, k⟩ := h
    have hu := hu_of hr
    cases e
    refine ⟨_, (pss_cons (ps_if (pt_cmpR op_gt (pe_callB (kLen K) (by rfl) T.z_len PySem.boot_len (pa_cons (pv 0) pa_nil)) (pe_glob (v := .int 10) (by rfl) T.c_MOST_LINES.2 ⟨_, rfl⟩) (nomark _)) (pss_one ps_never) pss_nil)
      (pss_one (ps_for PassesOwn.never rfl (kEnum K (by rfl) T.z_enumerate (pa_cons (pv 0) pa_nil)) (kTupT K rfl (pgs_cons (pg_name (i := 2) sc_d_check_lines.nd rfl (.inl rfl)) (pgs_cons (kTupT K rfl (pgs_cons (pg_name (i := 3) sc_d_check_lines.nd rfl (.inl rfl)) (pgs_cons (pg_name (i := 4) sc_d_check_lines.nd rfl (.inl rfl)) (pgs_cons (pg_name (i := 5) sc_d_check_lines.nd rfl (.inl rfl)) pgs_nil)))) pgs_nil))) (pss_cons (ps_if (PW.pt (pw_or (pt_not (pt_chain op_le op_lt pe_int (pv 3) (pv 1))) (pw_or (pt_not (pt_chain op_le op_lt pe_int (pv 4) (pv 1))) (pw_or1 (pt_cmpR (kEq K hr.units) (pv 3) (pv 4) (nomark _)))))) (pss_one ps_never) pss_nil)
      (pss_one (ps_if (pt_not (pt_chain op_le op_le pe_int (pv 5) (pe_glob (v := .int 1000000) (by rfl) T.c_MOST_WORTH.2 ⟨_, rfl⟩))) (pss_one ps_never) pss_nil)))))), ?_⟩
    refine q_when (W := Wd.in G H gh) (b := false) (EvB.is (x := decide ((10 : Int) < (ls.length : Nat))) (by walk_at "ev") (by simp; omega)) (fun z => nomatch z) fun _ W l => ?_
    walk_at "up"
    refine s_forE (r := rLine) (xs := ls) (by walk_at "ev") fun W l => ?_
    walk_at "up"
    refine ⟨fun i σ W => ∃ k1 k2 k3 k4, σ = [some v, some (.int m), k1, k2, k3, k4], ⟨none, none, none, none, rfl⟩, ?_, ?_⟩
    · rintro i x u σ W1 W2 l l2 hx hv ⟨k1, k2, k3, k4, rfl⟩
      refine g_t3 (W := W2) hv fun u1 u2 u3 e1 e2 e3 => ?_
      cases e1; cases e2; cases e3
      obtain ⟨a1, a2, a3, a4⟩ := hs x (List.mem_of_getElem? hx)
      refine q_when (W := W2) (b := false) (EvB.is (x := !(decide ((0 : Int) ≤ x.1) && decide (x.1 < m)) || (!(decide ((0 : Int) ≤ x.2.1) && decide (x.2.1 < m)) || decide (x.1 = x.2.1))) (et_or (by walk_at "ev") fun _ => et_or (by walk_at "ev") fun _ => et_r (ev_eqA fl_int (by walk_at "ev") (by walk_at "ev"))) (by simp [a3]; omega)) (fun z => nomatch z) fun _ W3 l3 => ?_
      refine s_when (W := W3) (b := false) (EvB.is (x := !(decide ((0 : Int) ≤ x.2.2) && decide (x.2.2 ≤ 1000000))) (by walk_at "ev") (by simp; omega)) (fun z => nomatch z) fun _ W4 l4 => ?_
      exact ⟨W4, rfl, ⟨(l.ex.trans l2.ex).trans (l3.ex.trans l4.ex)⟩, _, _, _, _, rfl⟩
    · rintro σ W1 l ⟨k1, k2, k3, k4, rfl⟩
      exact k .non W1 rfl
theorem netFs_eq (p q u : Addr) : putF "_lines" (.ref u) (putF "_sources" (.ref q) (putF "_needs" (.ref p) [])) = netFs p q u := by
  unfold netFs
  simp [putF, ne1, ne2, ne3]
theorem ok_init (T : Txt K mg) : FnOk P w K mg base CX0 2 T.m_Net_init.f T.m_Net_init.fd ["self", "needs", "sources", "lines"] (SpInit T.C_Net) := by
  have G_d_check_needs : FnOk P w K mg base CX0 1 T.d_check_needs.f T.d_check_needs.fd ["needs"] SpCheckNeeds := ok_check_needs T
  have G_d_check_sources : FnOk P w K mg base CX0 1 T.d_check_sources.f T.d_check_sources.fd ["sources", "many"] SpCheckSources := ok_check_sources T
  have G_d_check_lines : FnOk P w K mg base CX0 1 T.d_check_lines.f T.d_check_lines.fd ["lines", "many"] SpCheckLines := ok_check_lines T
  refine T.m_Net_init.F.ok sc_m_Net_init (fun vs H Q E h => ?_) (fun cdv A outer s H vs Q E hr h => ?_)
  · obtain ⟨G, x, dx, v1, v2, v3, ns, ss, ls, rfl, _⟩ := h; rfl
  · obtain ⟨G, x, dx, v1, v2, v3, ns, ss, ls, rfl, gh, gx, hx, h1, h2, h3, ok, k⟩ := h
    have hu := hu_of hr
    refine ⟨_, (pss_cons (ps_expr (pe_call G_d_check_needs (hr.mono (by decide)) (by rfl) T.d_check_needs.m T.d_check_needs.F.kp T.d_check_needs.b .nil pass0 (pa_cons (pv 1) pa_nil)))
      (pss_cons (ps_expr (pe_call G_d_check_sources (hr.mono (by decide)) (by rfl) T.d_check_sources.m T.d_check_sources.F.kp T.d_check_sources.b .nil pass0 (pa_cons (pv 2) (pa_cons (pe_callB (kLen K) (by rfl) T.z_len PySem.boot_len (pa_cons (pv 1) pa_nil)) pa_nil))))
      (pss_cons (ps_expr (pe_call G_d_check_lines (hr.mono (by decide)) (by rfl) T.d_check_lines.m T.d_check_lines.F.kp T.d_check_lines.b .nil pass0 (pa_cons (pv 3) (pa_cons (pe_callB (kLen K) (by rfl) T.z_len PySem.boot_len (pa_cons (pv 1) pa_nil)) pa_nil))))
      (pss_cons (kSetF K (pv 0) (pe_callTy (kList K) (by rfl) T.z_list PyProof.Rows.boot_list (pa_cons (pv 1) pa_nil)) rfl)
      (pss_cons (kSetF K (pv 0) (pe_callB (kSorted K) (by rfl) T.z_sorted (by decide +kernel) (pa_cons (pv 2) pa_nil)) rfl)
      (pss_one (kSetF K (pv 0) (pe_callTy (kList K) (by rfl) T.z_list PyProof.Rows.boot_list (pa_cons (pv 3) pa_nil)) rfl))))))), ?_⟩
    have sl : ss.length ≤ 10 := by
      have := nodup_len ok.s1 ok.s2
      have := ok.n1.2
      omega
    refine q_drop (W := Wd.in G H gh) (ev_call1 (r := rList rInt) (s := rNon) (ev_var rfl h1) ⟨ok.n1, ok.n2⟩) fun W l => ?_
    walk_at "up"
    refine q_drop (ev_call2 (r := rList rInt) (s := rInt) (t := rNon) (ev_var rfl h2) (by walk_at "ev") ⟨ok.s1, sl, ok.s2⟩) fun W l => ?_
    walk_at "up"
    refine q_drop (ev_call2 (r := rList rLine) (s := rInt) (t := rNon) (ev_var rfl h3) (by walk_at "ev") ⟨ok.l1, ok.l2⟩) fun W l => ?_
    walk_at "up"
    obtain ⟨f0, e0⟩ := Off.wd W gx (by rw [hx]; exact fun z => nomatch z)
    rw [hx] at e0
    refine q_setF (gh := f0.gh) (r := rList rInt) rfl f0.gx e0 T.l_Net T.na_needs (by simp) (EvR.n (EvO.fz (eo_list (ev_var rfl h1)))) fun u1 G1 H1 y f1 e1 r1 hy => ?_
    subst hy
    replace h2 := Rp.up f1.ex h2
    replace h3 := Rp.up f1.ex h3
    refine q_setF (gh := f1.gh) (r := rList rInt) rfl f1.gx e1 T.l_Net T.na_sources (by simp [putF]) (EvON.fz (eo_sorted (ev_var rfl h2))) fun u2 G2 H2 ss' f2 e2 r2 hy => ?_
    replace r1 := Rp.up f2.ex r1
    replace h3 := Rp.up f2.ex h3
    refine s_setF (gh := f2.gh) (r := rList rLine) rfl f2.gx e2 T.l_Net T.na_lines (by simp [putF]; split <;> simp) (EvR.n (EvO.fz (eo_list (ev_var rfl h3)))) fun u3 G3 H3 z f3 e3 r3 hz => ?_
    subst hz
    replace r1 := Rp.up f3.ex r1
    replace r2 := Rp.up f3.ex r2
    have f := ((f0.trans f1).trans f2).trans f3
    obtain ⟨p, _, rfl, _⟩ := id r1
    obtain ⟨q, _, rfl, _⟩ := id r2
    obtain ⟨u, _, rfl, _⟩ := id r3
    rw [netFs_eq] at e3
    exact k G3 H3 p q u ss' f.ex f.gh f.kp f.gx e3 r1 r2 r3 hy.1 hy.2
/-! the methods -/
theorem ok_places (T : Txt K mg) : FnOk P w K mg base CX0 1 T.m_Net_places.f T.m_Net_places.fd ["self"] (Fn1 (rNet T.C_Net) (rList rInt) (fun n => n.needs.length ≤ 100) (fun n => rg n.needs.length)) := by
  refine T.m_Net_places.F.ok sc_m_Net_places (fun vs H Q E h => ?_) (fun cdv A outer s H vs Q E hr h => ?_)
  · obtain ⟨G, v, x, rfl, _⟩ := h; rfl
  · obtain ⟨G, v, n, rfl, gh, h1, hl, k⟩ := h
    refine ⟨_, (pss_one (ps_ret (pe_listRg rfl (by rfl) T.z_list (prg_1 (by rfl) T.z_range (pe_callB (kLen K) (by rfl) T.z_len PySem.boot_len (pa_cons (kFld K (pv 0) rfl) pa_nil)))))), ?_⟩
    exact s_ret (W := Wd.in G H gh) (x := rg n.needs.length) (EvO.fz (eo_rng (ev_lenA (ev_needs T.l_Net T.na_needs (ev_var rfl h1))) (by omega))) k
theorem ok_needs (T : Txt K mg) : FnOk P w K mg base CX0 1 T.m_Net_needs.f T.m_Net_needs.fd ["self"] (Fn1 (rNet T.C_Net) (rList rInt) (fun n => True) (fun n => n.needs)) := by
  refine T.m_Net_needs.F.ok sc_m_Net_needs (fun vs H Q E h => ?_) (fun cdv A outer s H vs Q E hr h => ?_)
  · obtain ⟨G, v, x, rfl, _⟩ := h; rfl
  · obtain ⟨G, v, n, rfl, gh, h1, _, k⟩ := h
    refine ⟨_, (pss_one (ps_ret (pe_callTy (kList K) (by rfl) T.z_list PyProof.Rows.boot_list (pa_cons (kFld K (pv 0) rfl) pa_nil)))), ?_⟩
    exact s_ret (W := Wd.in G H gh) (EvO.fz (eo_list (ev_needs T.l_Net T.na_needs (ev_var rfl h1)))) k
theorem ok_sources (T : Txt K mg) : FnOk P w K mg base CX0 1 T.m_Net_sources.f T.m_Net_sources.fd ["self"] (Fn1 (rNet T.C_Net) (rList rInt) (fun n => True) (fun n => n.sources)) := by
  refine T.m_Net_sources.F.ok sc_m_Net_sources (fun vs H Q E h => ?_) (fun cdv A outer s H vs Q E hr h => ?_)
  · obtain ⟨G, v, x, rfl, _⟩ := h; rfl
  · obtain ⟨G, v, n, rfl, gh, h1, _, k⟩ := h
    refine ⟨_, (pss_one (ps_ret (pe_callTy (kList K) (by rfl) T.z_list PyProof.Rows.boot_list (pa_cons (kFld K (pv 0) rfl) pa_nil)))), ?_⟩
    exact s_ret (W := Wd.in G H gh) (EvO.fz (eo_list (ev_sources T.l_Net T.na_sources (ev_var rfl h1)))) k
theorem ok_lines (T : Txt K mg) : FnOk P w K mg base CX0 1 T.m_Net_lines.f T.m_Net_lines.fd ["self"] (Fn1 (rNet T.C_Net) (rList rLine) (fun n => True) (fun n => n.lines)) := by
  refine T.m_Net_lines.F.ok sc_m_Net_lines (fun vs H Q E h => ?_) (fun cdv A outer s H vs Q E hr h => ?_)
  · obtain ⟨G, v, x, rfl, _⟩ := h; rfl
  · obtain ⟨G, v, n, rfl, gh, h1, _, k⟩ := h
    refine ⟨_, (pss_one (ps_ret (pe_callTy (kList K) (by rfl) T.z_list PyProof.Rows.boot_list (pa_cons (kFld K (pv 0) rfl) pa_nil)))), ?_⟩
    exact s_ret (W := Wd.in G H gh) (EvO.fz (eo_list (ev_lines T.l_Net T.na_lines (ev_var rfl h1)))) k
abbrev SpLines (C : Addr) : Sp := Fn1 (rNet C) (rList rLine) (fun n => True) (fun n => n.lines)
abbrev SpPlaces (C : Addr) : Sp := Fn1 (rNet C) (rList rInt) (fun n => n.needs.length ≤ 100) (fun n => rg n.needs.length)
abbrev SpSources (C : Addr) : Sp := Fn1 (rNet C) (rList rInt) (fun n => True) (fun n => n.sources)
theorem nL1 : ¬ (("lines" : Str) = "_needs") := by decide +kernel
theorem nL2 : ¬ (("lines" : Str) = "_sources") := by decide +kernel
theorem nL3 : ¬ (("lines" : Str) = "_lines") := by decide +kernel
theorem nN1 : ¬ (("needs" : Str) = "_needs") := by decide +kernel
theorem nN2 : ¬ (("needs" : Str) = "_sources") := by decide +kernel
theorem nN3 : ¬ (("needs" : Str) = "_lines") := by decide +kernel
theorem nP1 : ¬ (("places" : Str) = "_needs") := by decide +kernel
theorem nP2 : ¬ (("places" : Str) = "_sources") := by decide +kernel
theorem nP3 : ¬ (("places" : Str) = "_lines") := by decide +kernel
theorem nS1 : ¬ (("sources" : Str) = "_needs") := by decide +kernel
theorem nS2 : ¬ (("sources" : Str) = "_sources") := by decide +kernel
theorem nS3 : ¬ (("sources" : Str) = "_lines") := by decide +kernel
end
end Q

namespace Q
open PySem L2
local macro_rules | `(tactic| walk_at "up") => do
  let l := Lean.mkIdent `l
  let mut ts : Array (Lean.TSyntax `tactic) := #[]
  for i in [1, 2, 3, 4, 5, 6, 7, 8, 9, 10, 11, 12, 13, 14, 15, 16] do
    let h := Lean.mkIdent (Lean.Name.mkSimple s!"h{i}")
    ts := ts.push (← `(tactic| try replace $h:ident := Rp.up (Le.ex $l) $h))
    ts := ts.push (← `(tactic| try replace $h:ident := Rp.up (Wk.ex $l) $h))
    ts := ts.push (← `(tactic| try replace $h:ident := Rp.up (Kp.ex $l) $h))
  for i in [1, 2, 3, 4] do
    let h := Lean.mkIdent (Lean.Name.mkSimple s!"o{i}")
    ts := ts.push (← `(tactic| try replace $h:ident := OwnL.up $l $h))
    ts := ts.push (← `(tactic| try replace $h:ident := OwnD.up $l $h))
  `(tactic| ($[$ts:tactic];*))
local macro_rules | `(tactic| walk_at "cm") => `(tactic| first | exact Or.inl ⟨by omega, by omega⟩ | exact Or.inr ⟨by omega, by omega⟩)
local macro_rules | `(tactic| walk_at "ev") => `(tactic| repeat' first
  | exact ev_var rfl (by first | assumption | rfl)
  | exact ev_int | exact ev_bl | exact ev_str | exact ev_non
  | (refine' ev_addA ?_ ?_) | (refine' ev_sub ?_ ?_)
  | (refine' ev_mulA ?_ ?_ ?_; rotate_left 2; walk_at "cm")
  | (refine' ev_mod ?_ ?_ ?_; rotate_left 2; omega)
  | (refine' ev_lt ?_ ?_) | (refine' ev_le ?_ ?_) | (refine' ev_gt ?_ ?_) | (refine' ev_ge ?_ ?_)
  | (refine' ev_lenA ?_) | (refine' ev_in ?_ ?_) | (refine' ev_nin ?_ ?_)
  | (refine' ev_jx0 ?_) | (refine' ev_jx1 ?_) | (refine' ev_jx2 ?_) | (refine' ev_ix0 ?_) | (refine' ev_ix1 ?_)
  | (refine ev_chain_lelt ?_ ?_ ?_) | (refine ev_chain_lele ?_ ?_ ?_)
  | (refine' et_r ?_) | (refine' et_b ?_) | (refine' et_not ?_) | (refine' et_and ?_ fun _ => ?_) | (refine' et_or ?_ fun _ => ?_)
  | (refine' ev_pow ?_ ?_ ⟨by decide, by decide, by decide⟩)
  | (refine' ev_t2 ?_ ?_) | (refine' ev_t3 ?_ ?_ ?_)
  | exact et_yes)

section
variable {P : Program} {w : World} {K : PySem.W.Frag} {mg : Str → Option Value} {base : Heap}
theorem ok_BadNet_init (T : Txt K mg) : FnOk P w K mg base CX0 1 T.m_BadNet_init.f T.m_BadNet_init.fd ["self", "at", "why"] (SpBadNet T.C_BadNet) := by
  refine T.m_BadNet_init.F.ok sc_m_BadNet_init (fun vs H Q E h => ?_) (fun cdv A outer s H vs Q E hr h => ?_)
  · obtain ⟨G, a, rest, x, rfl, _, _, _, ⟨rfl, _⟩, _⟩ := h; rfl
  · obtain ⟨G, a, rest, x, rfl, gh, ga, ha, ⟨rfl, b1, b2⟩, k⟩ := h
    refine ⟨_, (pss_cons (ps_expr (pe_binit (by rfl) T.g_LightError T.rd_LightError T.at_LightError (pa_cons (pv 0) (pa_cons (pe_joined (PJ.cons (pe_fmt (pv 2)) (PJ.cons pe_str (PJ.cons (pe_fmt (pv 1)) PJ.nil)))) pa_nil))))
      (pss_cons (ps_ost (pv 0) (pv 1))
      (pss_one (ps_ost (pv 0) (pv 2))))), ?_⟩
    refine q_veinit (gh := gh) rfl ga ha T.o_BadNet (ev_joined (.cons (ev_fmtS (ev_var rfl rfl) (Nat.le_trans b1 (by decide))) (.cons (ev_strN (by decide +kernel)) (.cons (ev_fmtI (ev_var rfl rfl) b2) .nil))) (by omega)) fun W1 e1 g1 => ?_
    refine s_ost2 (r := rStr) (P := fun z => z = x.2) (W := W1) rfl ga ha T.o_BadNet T.nf_BadNet_at T.nf_BadNet_why e1 g1 (fun Q q => ⟨_, rfl, q⟩) (fun H2 g2 => EvR.n (ev_var rfl rfl)) fun G' H' d v2 z m ea ed ex hv hz => ?_
    subst hz
    cases hv
    refine k G' H' d _ m ea ed ⟨?_, ?_⟩
    · rw [look_put, if_neg (by decide +kernel), look_put, if_pos rfl]
    · rw [look_put, if_pos rfl]
abbrev SpCkNeeds (D : Addr) : Sp := SpCk1 (rList rInt) D (fun ns => ns.length ≤ 1000) needsB
theorem ok_ck_needs (T : Txt K mg) : FnOk P w K mg base (L2N.CX P w) 3 T.d_check_needs.f T.d_check_needs.fd ["needs"] (SpCkNeeds T.C_BadNet) := by
  have G_m_BadNet_init : FnOk P w K mg base CX0 1 T.m_BadNet_init.f T.m_BadNet_init.fd ["self", "at", "why"] (SpBadNet T.C_BadNet) := ok_BadNet_init T
  refine okN T.d_check_needs.F sc_d_check_needs (fun vs H Q E h => ?_) (fun cdv A outer s H vs Q E hr h => ?_)
  · obtain ⟨G, v, x, rfl, _⟩ := h; rfl
  · obtain ⟨G, v, ns, rfl, gh, h1, hl, kE, k⟩ := h
    have hu := hu_of hr
    refine ⟨_, (pss_cons (ps_if (pt_not (pt_chain op_le op_le pe_int (pe_callB (kLen K) (by rfl) T.z_len PySem.boot_len (pa_cons (pv 0) pa_nil)) (pe_glob (v := .int 10) (by rfl) T.c_MOST_PLACES.2 ⟨_, rfl⟩))) (pss_one (L2N.ps_raise rfl (L2N.takes_of rfl rfl rfl rfl) (pmk_oexN T.o_BadNet T.m_BadNet_init.M.at_ T.ti_BadNet G_m_BadNet_init (hr.mono (by decide)) T.m_BadNet_init.b rfl T.g_BadNet (pa_cons pe_int (pa_cons pe_str pa_nil))))) pss_nil)
      (pss_one (ps_for (passes_of rfl) rfl (kEnum K (by rfl) T.z_enumerate (pa_cons (pv 0) pa_nil)) (kTupT K rfl (pgs_cons (pg_name (i := 1) sc_d_check_needs.nd rfl (.inl rfl)) (pgs_cons (pg_name (i := 2) sc_d_check_needs.nd rfl (.inl rfl)) pgs_nil))) (pss_one (ps_if (pt_not (pt_chain op_le op_le pe_int (pv 2) (pe_glob (v := .int 1000000) (by rfl) T.c_MOST_WORTH.2 ⟨_, rfl⟩))) (pss_one (L2N.ps_raise rfl (L2N.takes_of rfl rfl rfl rfl) (pmk_oexN T.o_BadNet T.m_BadNet_init.M.at_ T.ti_BadNet G_m_BadNet_init (hr.mono (by decide)) T.m_BadNet_init.b rfl T.g_BadNet (pa_cons (pv 1) (pa_cons pe_str pa_nil))))) pss_nil))))), ?_⟩
    refine q_when (W := Wd.in G H gh) (b := !(decide ((1 : Int) ≤ (ns.length : Nat)) && decide (((ns.length : Nat) : Int) ≤ 10))) (by walk_at "ev") (fun hb W l => ?_) fun hb W l => ?_
    · have c : ¬ (1 ≤ ns.length ∧ ns.length ≤ 10) := by simp at hb; omega
      exact s_badnt ev_int ev_str (by decide +kernel) (by decide) fun W1 d l1 hd => kE W1 d (0, "many") (by unfold needsB; rw [if_neg c]) hd
    have c : 1 ≤ ns.length ∧ ns.length ≤ 10 := by simp at hb; omega
    walk_at "up"
    refine s_forE (r := rInt) (xs := ns) (by walk_at "ev") fun W l => ?_
    walk_at "up"
    refine ⟨fun i σ W => ∃ k1 k2, σ = [some v, k1, k2] ∧ ∀ (j : Nat) y, j < i → ns[j]? = some y → needB y = none, ⟨none, none, rfl, fun j y h => absurd h (Nat.not_lt_zero _)⟩, ?_, ?_⟩
    · rintro i x u σ W1 W2 l l2 hx e ⟨k1, k2, rfl, ih⟩
      cases e
      have hi := (List.getElem?_eq_some_iff.mp hx).1
      refine g_name ?_
      refine s_when (W := W2) (b := !(decide ((0 : Int) ≤ x) && decide (x ≤ 1000000))) (by walk_at "ev") (fun hb W3 l3 => ?_) fun hb W3 l3 => ?_
      · have c2 : needB x = some ("need" : Str) := by unfold needB; rw [if_neg (by simp at hb; omega)]
        exact s_badnt (ev_var rfl rfl) ev_str (by decide +kernel) (by omega) fun W4 d l4 hd => kE W4 d ((i : Int), "need") (by unfold needsB; rw [if_pos c]; have := firstB_some (f := fun _ x => needB x) (i := 0) (m := i) ih hx c2; rw [Nat.zero_add] at this; exact this) hd
      · refine ⟨W3, rfl, ⟨(l.ex.trans l2.ex).trans l3.ex⟩, _, _, rfl, fun j y hj hy => ?_⟩
        by_cases e : j < i
        · exact ih j y e hy
        · have e : j = i := by omega
          subst e
          rw [hx] at hy
          cases hy
          unfold needB
          rw [if_pos (by simp at hb; omega)]
    · rintro σ W1 l ⟨k1, k2, rfl, ih⟩
      exact k (by unfold needsB; rw [if_pos c]; exact firstB_none fun j x hx => ih j x (List.getElem?_eq_some_iff.mp hx).1 hx) W1
abbrev SpCkSources (D : Addr) : Sp := SpCk2 (rList rInt) D (fun ns => ns.length ≤ 1000) srcsB
theorem ok_ck_sources (T : Txt K mg) : FnOk P w K mg base (L2N.CX P w) 3 T.d_check_sources.f T.d_check_sources.fd ["sources", "many"] (SpCkSources T.C_BadNet) := by
  have G_m_BadNet_init : FnOk P w K mg base CX0 1 T.m_BadNet_init.f T.m_BadNet_init.fd ["self", "at", "why"] (SpBadNet T.C_BadNet) := ok_BadNet_init T
  refine okN T.d_check_sources.F sc_d_check_sources (fun vs H Q E h => ?_) (fun cdv A outer s H vs Q E hr h => ?_)
  · obtain ⟨G, v, x, m, rfl, _⟩ := h; rfl
  · obtain ⟨G, v, ss, m, rfl, gh, h1, hl, kE, k⟩ := h
    have hu := hu_of hr
    refine ⟨_, (pss_one (ps_for (passes_of rfl) rfl (kEnum K (by rfl) T.z_enumerate (pa_cons (pv 0) pa_nil)) (kTupT K rfl (pgs_cons (pg_name (i := 2) sc_d_check_sources.nd rfl (.inl rfl)) (pgs_cons (pg_name (i := 3) sc_d_check_sources.nd rfl (.inl rfl)) pgs_nil))) (pss_one (ps_if (PW.pt (pw_or (pt_not (pt_chain op_le op_lt pe_int (pv 3) (pv 1))) (pw_or1 (pt_cmpR (kIn K) (pv 3) (pe_slice (kSl K) (pv 0) po_none (po_some (pv 2))) (by rfl))))) (pss_one (L2N.ps_raise rfl (L2N.takes_of rfl rfl rfl rfl) (pmk_oexN T.o_BadNet T.m_BadNet_init.M.at_ T.ti_BadNet G_m_BadNet_init (hr.mono (by decide)) T.m_BadNet_init.b rfl T.g_BadNet (pa_cons (pv 2) (pa_cons pe_str pa_nil))))) pss_nil)))), ?_⟩
    refine s_forE (W := Wd.in G H gh) (r := rInt) (xs := ss) (by walk_at "ev") fun W l => ?_
    walk_at "up"
    refine ⟨fun i σ W => ∃ k1 k2, σ = [some v, some (.int m), k1, k2] ∧ ∀ (j : Nat) y, j < i → ss[j]? = some y → srcB ss m (0 + j) y = none, ⟨none, none, rfl, fun j y h => absurd h (Nat.not_lt_zero _)⟩, ?_, ?_⟩
    · rintro i x u σ W1 W2 l l2 hx e ⟨k1, k2, rfl, ih⟩
      cases e
      replace h1 := Rp.up (l.ex.trans l2.ex) h1
      have hi := (List.getElem?_eq_some_iff.mp hx).1
      have e0 : ((i : Int)).toNat = i := by omega
      refine g_name ?_
      refine s_when (W := W2) (b := !(decide ((0 : Int) ≤ x) && decide (x < m)) || decide (x ∈ ss.take ((i : Int)).toNat)) (et_or (by walk_at "ev") fun _ => et_r (ev_in (by walk_at "ev") (EvO.fz (eo_sl (ev_var rfl h1) rfl (ev_var rfl rfl) (by omega) rfl)))) (fun hb W3 l3 => ?_) fun hb W3 l3 => ?_
      · have c2 : srcB ss m (0 + i) x = some ("source" : Str) := by
          unfold srcB
          rw [e0] at hb
          rw [Nat.zero_add, if_neg]
          rintro ⟨z1, z2⟩
          simp [z1, z2] at hb
        exact s_badnt (ev_var rfl rfl) ev_str (by decide +kernel) (by omega) fun W4 d l4 hd => kE W4 d ((i : Int), "source") (by have := firstB_some (f := srcB ss m) (i := 0) (m := i) ih hx c2; rw [Nat.zero_add] at this; exact this) hd
      · refine ⟨W3, rfl, ⟨(l.ex.trans l2.ex).trans l3.ex⟩, _, _, rfl, fun j y hj hy => ?_⟩
        by_cases e : j < i
        · exact ih j y e hy
        · have e : j = i := by omega
          subst e
          rw [hx] at hy
          cases hy
          unfold srcB
          rw [e0] at hb
          simp only [Bool.or_eq_false_iff, Bool.not_eq_false', Bool.and_eq_true, decide_eq_true_eq, decide_eq_false_iff_not] at hb
          rw [Nat.zero_add, if_pos ⟨hb.1, hb.2⟩]
    · rintro σ W1 l ⟨k1, k2, rfl, ih⟩
      exact k (firstB_none fun j x hx => ih j x (List.getElem?_eq_some_iff.mp hx).1 hx) W1
abbrev SpCkLines (D : Addr) : Sp := SpCk2 (rList rLine) D (fun ls => ls.length ≤ 1000) linesB
theorem ok_ck_lines (T : Txt K mg) : FnOk P w K mg base (L2N.CX P w) 3 T.d_check_lines.f T.d_check_lines.fd ["lines", "many"] (SpCkLines T.C_BadNet) := by
  have G_m_BadNet_init : FnOk P w K mg base CX0 1 T.m_BadNet_init.f T.m_BadNet_init.fd ["self", "at", "why"] (SpBadNet T.C_BadNet) := ok_BadNet_init T
  refine okN T.d_check_lines.F sc_d_check_lines (fun vs H Q E h => ?_) (fun cdv A outer s H vs Q E hr h => ?_)
  · obtain ⟨G, v, x, m, rfl, _⟩ := h; rfl
  · obtain ⟨G, v, ls, m, rfl, gh, h1, hl, kE, k⟩ := h
    have hu := hu_of hr
    refine ⟨_, (pss_cons (ps_if (pt_cmpR op_gt (pe_callB (kLen K) (by rfl) T.z_len PySem.boot_len (pa_cons (pv 0) pa_nil)) (pe_glob (v := .int 10) (by rfl) T.c_MOST_LINES.2 ⟨_, rfl⟩) (nomark _)) (pss_one (L2N.ps_raise rfl (L2N.takes_of rfl rfl rfl rfl) (pmk_oexN T.o_BadNet T.m_BadNet_init.M.at_ T.ti_BadNet G_m_BadNet_init (hr.mono (by decide)) T.m_BadNet_init.b rfl T.g_BadNet (pa_cons pe_int (pa_cons pe_str pa_nil))))) pss_nil)
      (pss_one (ps_for (passes_of rfl) rfl (kEnum K (by rfl) T.z_enumerate (pa_cons (pv 0) pa_nil)) (kTupT K rfl (pgs_cons (pg_name (i := 2) sc_d_check_lines.nd rfl (.inl rfl)) (pgs_cons (kTupT K rfl (pgs_cons (pg_name (i := 3) sc_d_check_lines.nd rfl (.inl rfl)) (pgs_cons (pg_name (i := 4) sc_d_check_lines.nd rfl (.inl rfl)) (pgs_cons (pg_name (i := 5) sc_d_check_lines.nd rfl (.inl rfl)) pgs_nil)))) pgs_nil))) (pss_cons (ps_if (PW.pt (pw_or (pt_not (pt_chain op_le op_lt pe_int (pv 3) (pv 1))) (pw_or (pt_not (pt_chain op_le op_lt pe_int (pv 4) (pv 1))) (pw_or1 (pt_cmpR (kEq K hr.units) (pv 3) (pv 4) (nomark _)))))) (pss_one (L2N.ps_raise rfl (L2N.takes_of rfl rfl rfl rfl) (pmk_oexN T.o_BadNet T.m_BadNet_init.M.at_ T.ti_BadNet G_m_BadNet_init (hr.mono (by decide)) T.m_BadNet_init.b rfl T.g_BadNet (pa_cons (pv 2) (pa_cons pe_str pa_nil))))) pss_nil)
      (pss_one (ps_if (pt_not (pt_chain op_le op_le pe_int (pv 5) (pe_glob (v := .int 1000000) (by rfl) T.c_MOST_WORTH.2 ⟨_, rfl⟩))) (pss_one (L2N.ps_raise rfl (L2N.takes_of rfl rfl rfl rfl) (pmk_oexN T.o_BadNet T.m_BadNet_init.M.at_ T.ti_BadNet G_m_BadNet_init (hr.mono (by decide)) T.m_BadNet_init.b rfl T.g_BadNet (pa_cons (pv 2) (pa_cons pe_str pa_nil))))) pss_nil)))))), ?_⟩
    refine q_when (W := Wd.in G H gh) (b := decide ((10 : Int) < (ls.length : Nat))) (by walk_at "ev") (fun hb W l => ?_) fun hb W l => ?_
    · have c : ¬ ls.length ≤ 10 := by simp at hb; omega
      exact s_badnt ev_int ev_str (by decide +kernel) (by decide) fun W1 d l1 hd => kE W1 d (0, "lines") (by unfold linesB; rw [if_neg c]) hd
    have c : ls.length ≤ 10 := by simp at hb; omega
    walk_at "up"
    refine s_forE (r := rLine) (xs := ls) (by walk_at "ev") fun W l => ?_
    walk_at "up"
    refine ⟨fun i σ W => ∃ k1 k2 k3 k4, σ = [some v, some (.int m), k1, k2, k3, k4] ∧ ∀ (j : Nat) y, j < i → ls[j]? = some y → lineB m y = none, ⟨none, none, none, none, rfl, fun j y h => absurd h (Nat.not_lt_zero _)⟩, ?_, ?_⟩
    · rintro i x u σ W1 W2 l l2 hx hv ⟨k1, k2, k3, k4, rfl, ih⟩
      refine g_t3 (W := W2) hv fun u1 u2 u3 e1 e2 e3 => ?_
      cases e1; cases e2; cases e3
      have hi := (List.getElem?_eq_some_iff.mp hx).1
      have fin : ∀ w, lineB m x = some w → linesB ls m = some ((i : Int), w) := fun w c2 => by
        unfold linesB
        rw [if_pos c]
        have := firstB_some (f := fun _ l => lineB m l) (i := 0) (m := i) ih hx c2
        rw [Nat.zero_add] at this
        exact this
      refine q_when (W := W2) (b := !(decide ((0 : Int) ≤ x.1) && decide (x.1 < m)) || (!(decide ((0 : Int) ≤ x.2.1) && decide (x.2.1 < m)) || decide (x.1 = x.2.1))) (et_or (by walk_at "ev") fun _ => et_or (by walk_at "ev") fun _ => et_r (ev_eqA fl_int (by walk_at "ev") (by walk_at "ev"))) (fun hb W3 l3 => ?_) fun hb W3 l3 => ?_
      · exact s_badnt (ev_var rfl rfl) ev_str (by decide +kernel) (by omega) fun W4 d l4 hd => kE W4 d ((i : Int), "place") (fin _ (by
          unfold lineB
          rw [if_neg]
          rintro ⟨z1, z2, z3⟩
          simp [z1, z2, z3] at hb)) hd
      simp only [Bool.or_eq_false_iff, Bool.not_eq_false', Bool.and_eq_true, decide_eq_true_eq, decide_eq_false_iff_not] at hb
      refine s_when (W := W3) (b := !(decide ((0 : Int) ≤ x.2.2) && decide (x.2.2 ≤ 1000000))) (by walk_at "ev") (fun hb2 W4 l4 => ?_) fun hb2 W4 l4 => ?_
      · exact s_badnt (ev_var rfl rfl) ev_str (by decide +kernel) (by omega) fun W5 d l5 hd => kE W5 d ((i : Int), "limit") (fin _ (by
          unfold lineB
          rw [if_pos ⟨hb.1, hb.2.1, hb.2.2⟩, if_neg]
          rintro ⟨z1, z2⟩
          simp [z1, z2] at hb2)) hd
      · refine ⟨W4, rfl, ⟨(l.ex.trans l2.ex).trans (l3.ex.trans l4.ex)⟩, _, _, _, _, rfl, fun j y hj hy => ?_⟩
        by_cases e : j < i
        · exact ih j y e hy
        · have e : j = i := by omega
          subst e
          rw [hx] at hy
          cases hy
          simp only [Bool.not_eq_false', Bool.and_eq_true, decide_eq_true_eq] at hb2
          unfold lineB
          rw [if_pos ⟨hb.1, hb.2.1, hb.2.2⟩, if_pos hb2]
    · rintro σ W1 l ⟨k1, k2, k3, k4, rfl, ih⟩
      exact k (by unfold linesB; rw [if_pos c]; exact firstB_none fun j x hx => ih j x (List.getElem?_eq_some_iff.mp hx).1 hx) W1
theorem ok_initB (T : Txt K mg) : FnOk P w K mg base (L2N.CX P w) 4 T.m_Net_init.f T.m_Net_init.fd ["self", "needs", "sources", "lines"] (SpInitB T.C_Net T.C_BadNet) := by
  have G_d_check_needs : FnOk P w K mg base (L2N.CX P w) 3 T.d_check_needs.f T.d_check_needs.fd ["needs"] (SpCkNeeds T.C_BadNet) := ok_ck_needs T
  have G_d_check_sources : FnOk P w K mg base (L2N.CX P w) 3 T.d_check_sources.f T.d_check_sources.fd ["sources", "many"] (SpCkSources T.C_BadNet) := ok_ck_sources T
  have G_d_check_lines : FnOk P w K mg base (L2N.CX P w) 3 T.d_check_lines.f T.d_check_lines.fd ["lines", "many"] (SpCkLines T.C_BadNet) := ok_ck_lines T
  refine okN T.m_Net_init.F sc_m_Net_init (fun vs H Q E h => ?_) (fun cdv A outer s H vs Q E hr h => ?_)
  · obtain ⟨G, x, dx, v1, v2, v3, n, rfl, _⟩ := h; rfl
  · obtain ⟨G, x, dx, v1, v2, v3, n, rfl, gh, gx, hx, h1, h2, h3, ⟨b1, b2, b3⟩, ⟨b, hb⟩, kE⟩ := h
    have hu := hu_of hr
    refine ⟨_, (pss_cons (ps_expr (pe_call G_d_check_needs (hr.mono (by decide)) (by rfl) T.d_check_needs.m T.d_check_needs.F.kp T.d_check_needs.b .nil (L2N.passes_call (L2N.takes_of rfl rfl rfl rfl) (fun _ _ _ _ h => h)) (pa_cons (pv 1) pa_nil)))
      (pss_cons (ps_expr (pe_call G_d_check_sources (hr.mono (by decide)) (by rfl) T.d_check_sources.m T.d_check_sources.F.kp T.d_check_sources.b .nil (L2N.passes_call (L2N.takes_of rfl rfl rfl rfl) (fun _ _ _ _ h => h)) (pa_cons (pv 2) (pa_cons (pe_callB (kLen K) (by rfl) T.z_len PySem.boot_len (pa_cons (pv 1) pa_nil)) pa_nil))))
      (pss_cons (ps_expr (pe_call G_d_check_lines (hr.mono (by decide)) (by rfl) T.d_check_lines.m T.d_check_lines.F.kp T.d_check_lines.b .nil (L2N.passes_call (L2N.takes_of rfl rfl rfl rfl) (fun _ _ _ _ h => h)) (pa_cons (pv 3) (pa_cons (pe_callB (kLen K) (by rfl) T.z_len PySem.boot_len (pa_cons (pv 1) pa_nil)) pa_nil))))
      (pss_cons (kSetF K (pv 0) (pe_callTy (kList K) (by rfl) T.z_list PyProof.Rows.boot_list (pa_cons (pv 1) pa_nil)) rfl)
      (pss_cons (kSetF K (pv 0) (pe_callB (kSorted K) (by rfl) T.z_sorted (by decide +kernel) (pa_cons (pv 2) pa_nil)) rfl)
      (pss_one (kSetF K (pv 0) (pe_callTy (kList K) (by rfl) T.z_list PyProof.Rows.boot_list (pa_cons (pv 3) pa_nil)) rfl))))))), ?_⟩
    refine q_ck1 (W := Wd.in G H gh) (ev_var rfl h1) b1 (fun W1 d b l e hd => kE W1 d b (by unfold netB; rw [e]) hd) fun e1 W l => ?_
    walk_at "up"
    refine q_ck2 (ev_var rfl h2) (ev_lenA (r := rInt) (ev_var rfl h1)) b2 (fun W1 d b l e hd => kE W1 d b (by unfold netB; simp only [e1, e]) hd) fun e2 W l => ?_
    walk_at "up"
    refine q_ck2 (ev_var rfl h3) (ev_lenA (r := rInt) (ev_var rfl h1)) b3 (fun W1 d b l e hd => kE W1 d b (by unfold netB; simp only [e1, e2, e]) hd) fun e3 W l => ?_
    exfalso
    unfold netB at hb
    simp only [e1, e2, e3] at hb
    cases hb
end
end Q

/-! long data; loops over long ranges; max and min of lists -/
namespace Q
open PySem L2
def okDatB : (k : Nat) → DatT k → Prop
  | 0, _ => True
  | k + 1, .inl x => okDatB k x
  | k + 1, .inr (.inl xs) => xs.length ≤ 16000000 ∧ ∀ x ∈ xs, okDatB k x
  | k + 1, .inr (.inr xs) => xs.length ≤ 16000000 ∧ ∀ x ∈ xs, okDatB k x
abbrev dDeed (d : DeedT) : DatT 1 := .inr (.inr [.inr d.1, .inl d.2])
abbrev dList {k : Nat} {α : Type} (f : α → DatT k) (xs : List α) : DatT (k + 1) := .inr (.inl (xs.map f))
abbrev dTup {k : Nat} {α : Type} (f : α → DatT k) (xs : List α) : DatT (k + 1) := .inr (.inr (xs.map f))
abbrev dPair {k : Nat} (x y : DatT k) : DatT (k + 1) := .inr (.inr [x, y])
abbrev dTri {k : Nat} (x y z : DatT k) : DatT (k + 1) := .inr (.inr [x, y, z])
abbrev dUp {k : Nat} (x : DatT k) : DatT (k + 1) := .inl x
abbrev dInt (x : Int) : DatT 0 := .inl x
section
variable {α β γ : Type} {r : Rp α} {s : Rp β} {t : Rp γ} {G : Hp} {v : V} {k : Nat}
theorem all2_map {R : V → α → Prop} {R' : V → β → Prop} {f : α → β} {vs : List V} {xs : List α} (h : All2 R vs xs) (k : ∀ v x, R v x → R' v (f x)) : All2 R' vs (xs.map f) := by
  refine ⟨by rw [h.1, List.length_map], fun i y e => ?_⟩
  rw [List.getElem?_map] at e
  cases hx : xs[i]? with
  | none => rw [hx] at e; cases e
  | some x =>
    rw [hx] at e; cases e
    obtain ⟨v, h1, h2⟩ := h.2 i x hx
    exact ⟨v, h1, k _ _ h2⟩
theorem rd_list {f : α → DatT k} (hf : ∀ v x, r.rel G v x → (rDat k).rel G v (f x)) {xs : List α} (h : (rList r).rel G v xs) : (rDat (k + 1)).rel G v (dList f xs) := let ⟨a, vs, e, h1, h2⟩ := h; ⟨a, vs, e, h1, all2_map h2 hf⟩
theorem rd_tup {f : α → DatT k} (hf : ∀ v x, r.rel G v x → (rDat k).rel G v (f x)) {xs : List α} (h : (rTup r).rel G v xs) : (rDat (k + 1)).rel G v (dTup f xs) := let ⟨a, vs, e, h1, h2⟩ := h; ⟨a, vs, e, h1, all2_map h2 hf⟩
theorem rd_pair {f : α → DatT k} {g : β → DatT k} (hf : ∀ v x, r.rel G v x → (rDat k).rel G v (f x)) (hg : ∀ v x, s.rel G v x → (rDat k).rel G v (g x)) {x : α × β} (h : (rT2 r s).rel G v x) : (rDat (k + 1)).rel G v (dPair (f x.1) (g x.2)) :=
  let ⟨a, u, w, e, h1, h2, h3⟩ := h; ⟨a, [u, w], e, h1, All2.cons (hf _ _ h2) (All2.one (hg _ _ h3))⟩
theorem rd_tri {f : α → DatT k} {g : β → DatT k} {g2 : γ → DatT k} (hf : ∀ v x, r.rel G v x → (rDat k).rel G v (f x)) (hg : ∀ v x, s.rel G v x → (rDat k).rel G v (g x)) (hg2 : ∀ v x, t.rel G v x → (rDat k).rel G v (g2 x)) {x : α × β × γ} (h : (rT3 r s t).rel G v x) : (rDat (k + 1)).rel G v (dTri (f x.1) (g x.2.1) (g2 x.2.2)) :=
  let ⟨a, u, w, y, e, h1, h2, h3, h4⟩ := h; ⟨a, [u, w, y], e, h1, All2.cons (hf _ _ h2) (All2.cons (hg _ _ h3) (All2.one (hg2 _ _ h4)))⟩
theorem rd_up {x : DatT k} (h : (rDat k).rel G v x) : (rDat (k + 1)).rel G v (dUp x) := h
theorem rd_int {x : Int} (h : rInt.rel G v x) : (rDat 0).rel G v (dInt x) := h
theorem rd_deed {x : DeedT} (h : rDd.rel G v x) : (rDat 1).rel G v (dDeed x) := rd_pair (k := 0) (f := fun s : Str => (.inr s : DatT 0)) (g := dInt) (fun _ _ h => h) (fun _ _ h => h) h
end
section
variable {F : Fr} {K : PySem.W.Frag} {σ : L2.St} {W W1 : Wd F} {ta tb te : TE} {g : TG} {tx : TS} {D : Ends} {tz : TS} {α β : Type} {r : Rp α} {s : Rp β}
theorem s_forRB {n : Int} (h : EvR ta σ W rInt n) (hb : -1000000 ≤ n ∧ n ≤ 16000000) (k : ∀ W1 : Wd F, Le W W1 → LoopR W1 n g tx D D.nx σ) : tFor (iRng1 (tCons ta tNil)) g tx D σ W.H := by
  refine h W (Le.refl _) _ fun v W1 l hv => ?_
  have hv : v = .int n := hv
  subst hv
  obtain ⟨P, h0, hs, hd⟩ := k W1 l
  refine ⟨n, rfl, by omega, by omega, for_range (lo := 0) (n := n.toNat) (fun i => Nx W1 (P i)) ⟨W1, rfl, Wk.refl _, h0⟩ ?_ ?_⟩
  · rintro i σ' _ hi ⟨W2, rfl, l2, p⟩
    rw [Int.zero_add]
    exact hs i σ' W2 l2 (by omega) p
  · rintro σ' _ ⟨W2, rfl, l2, p⟩
    exact hd σ' W2 l2 p
theorem q_forRB {n : Int} (h : EvR ta σ W rInt n) (hb : -1000000 ≤ n ∧ n ≤ 16000000) (k : ∀ W1 : Wd F, Le W W1 → LoopR W1 n g tx D (tz D) σ) : tSeq (tFor (iRng1 (tCons ta tNil)) g tx) tz D σ W.H := s_forRB (D := { D with nx := tz D }) h hb k
theorem EvR.as {x : α} {y : β} (h : EvR te σ W r x) (k : ∀ G v, r.rel G v x → s.rel G v y) : EvR te σ W s y := fun W1 l Q q => h W1 l Q fun v W2 l2 hv => q v W2 l2 (k _ _ hv)
theorem ev_maxL {xs : List Int} (hne : 0 < xs.length) (ha : EvR ta σ W (rList rInt) xs) : EvN (tCB (rMax K) (tCons ta tNil)) σ W rInt (fun m => m ∈ xs ∧ ∀ y ∈ xs, y ≤ m) := fun W1 l Q q => ha W1 l _ fun v W2 l2 hv => by
  obtain ⟨a, vs, rfl, h1, h2⟩ := hv
  have e := All2.ints h2
  subst e
  exact ⟨a, xs, rfl, sqL_of W2.gh h1, hne, fun m h1 h2 => q _ W2 m l2 rfl ⟨h1, h2⟩⟩
theorem ev_minL {xs : List Int} (hne : 0 < xs.length) (ha : EvR ta σ W (rList rInt) xs) : EvN (tCB (rMin K) (tCons ta tNil)) σ W rInt (fun m => m ∈ xs ∧ ∀ y ∈ xs, m ≤ y) := fun W1 l Q q => ha W1 l _ fun v W2 l2 hv => by
  obtain ⟨a, vs, rfl, h1, h2⟩ := hv
  have e := All2.ints h2
  subst e
  exact ⟨a, xs, rfl, sqL_of W2.gh h1, hne, fun m h1 h2 => q _ W2 m l2 rfl ⟨h1, h2⟩⟩
end
theorem kMaxL {X : Cx} (K : PySem.W.Frag) (hc : X.calm = true) (hK : X.K = K := by rfl) : CallR X (.builtin "max") (rMax K) := hK ▸ cr_max hc
theorem kMinL {X : Cx} (K : PySem.W.Frag) (hc : X.calm = true) (hK : X.K = K := by rfl) : CallR X (.builtin "min") (rMin K) := hK ▸ cr_min hc
end Q

namespace Q
open PySem L2
local macro_rules | `(tactic| walk_at "up") => do
  let l := Lean.mkIdent `l
  let mut ts : Array (Lean.TSyntax `tactic) := #[]
  for i in [1, 2, 3, 4, 5, 6, 7, 8, 9, 10, 11, 12, 13, 14, 15, 16] do
    let h := Lean.mkIdent (Lean.Name.mkSimple s!"h{i}")
    ts := ts.push (← `(tactic| try replace $h:ident := Rp.up (Le.ex $l) $h))
    ts := ts.push (← `(tactic| try replace $h:ident := Rp.up (Wk.ex $l) $h))
    ts := ts.push (← `(tactic| try replace $h:ident := Rp.up (Kp.ex $l) $h))
  for i in [1, 2, 3, 4] do
    let h := Lean.mkIdent (Lean.Name.mkSimple s!"o{i}")
    ts := ts.push (← `(tactic| try replace $h:ident := OwnL.up $l $h))
    ts := ts.push (← `(tactic| try replace $h:ident := OwnD.up $l $h))
  `(tactic| ($[$ts:tactic];*))
local macro_rules | `(tactic| walk_at "cm") => `(tactic| first | exact Or.inl ⟨by omega, by omega⟩ | exact Or.inr ⟨by omega, by omega⟩)
local macro_rules | `(tactic| walk_at "ev") => `(tactic| repeat' first
  | exact ev_var rfl (by first | assumption | rfl)
  | exact ev_int | exact ev_bl | exact ev_str | exact ev_non
  | (refine' ev_addA ?_ ?_) | (refine' ev_sub ?_ ?_)
  | (refine' ev_mulA ?_ ?_ ?_; rotate_left 2; walk_at "cm")
  | (refine' ev_mod ?_ ?_ ?_; rotate_left 2; omega)
  | (refine' ev_lt ?_ ?_) | (refine' ev_le ?_ ?_) | (refine' ev_gt ?_ ?_) | (refine' ev_ge ?_ ?_)
  | (refine' ev_lenA ?_) | (refine' ev_in ?_ ?_) | (refine' ev_nin ?_ ?_)
  | (refine' ev_jx0 ?_) | (refine' ev_jx1 ?_) | (refine' ev_jx2 ?_) | (refine' ev_ix0 ?_) | (refine' ev_ix1 ?_)
  | (refine ev_chain_lelt ?_ ?_ ?_) | (refine ev_chain_lele ?_ ?_ ?_)
  | (refine' et_r ?_) | (refine' et_b ?_) | (refine' et_not ?_) | (refine' et_and ?_ fun _ => ?_) | (refine' et_or ?_ fun _ => ?_)
  | (refine' ev_pow ?_ ?_ ⟨by decide, by decide, by decide⟩)
  | (refine' ev_t2 ?_ ?_) | (refine' ev_t3 ?_ ?_ ?_)
  | exact et_yes)

section
theorem w_ne1 : ¬ (("place" : Str) = "line") := by decide +kernel
theorem w_ne2 : ¬ (("source" : Str) = "line") := by decide +kernel
theorem w_ne3 : ¬ (("place" : Str) = "source") := by decide +kernel
theorem w_ne4 : ¬ (("line" : Str) = "source") := by decide +kernel
theorem tup_t3 {G : Hp} {v : V} {x : Ln} (h : (rTup rInt).rel G v [x.1, x.2.1, x.2.2]) : rLine.rel G v x := by
  obtain ⟨a, vs, rfl, h1, h2⟩ := h
  have e := All2.ints h2
  subst e
  exact ⟨a, _, _, _, rfl, h1, rfl, rfl, rfl⟩
theorem row_kind {r : RowT} (h : RowOk r) : (r.1 ≠ ("line" : Str) ∧ ∃ k, r.2 = [k]) ∨ (r.1 = ("line" : Str) ∧ ∃ a b c, r.2 = [a, b, c]) := by
  obtain ⟨w, ns⟩ := r
  rcases h.word with ⟨e, l⟩ | ⟨e, l⟩ | ⟨e, l⟩
  · match ns, l with
    | [k], _ => exact .inl ⟨fun z => w_ne1 (e.symm.trans z), k, rfl⟩
  · match ns, l with
    | [k], _ => exact .inl ⟨fun z => w_ne2 (e.symm.trans z), k, rfl⟩
  · match ns, l with
    | [a, b, c], _ => exact .inr ⟨e, a, b, c, rfl⟩
variable {P : Program} {w : World} {K : PySem.W.Frag} {mg : Str → Option Value} {base : Heap}
theorem ok_BadText_init (T : Txt K mg) : FnOk P w K mg base CX0 1 T.m_BadText_init.f T.m_BadText_init.fd ["self", "row"] (SpBadText T.C_BadText) := by
  refine T.m_BadText_init.F.ok sc_m_BadText_init (fun vs H Q E h => ?_) (fun cdv A outer s H vs Q E hr h => ?_)
  · obtain ⟨G, a, rest, x, rfl, _, _, _, ⟨rfl, _⟩, _⟩ := h; rfl
  · obtain ⟨G, a, rest, x, rfl, gh, ga, ha, ⟨rfl, b2⟩, k⟩ := h
    refine ⟨_, (pss_cons (ps_expr (pe_binit (by rfl) T.g_LightError T.rd_LightError T.at_LightError (pa_cons (pv 0) (pa_cons (pe_joined (PJ.cons pe_str (PJ.cons (pe_fmt (pv 1)) PJ.nil))) pa_nil))))
      (pss_one (ps_ost (pv 0) (pv 1)))), ?_⟩
    refine q_veinit (gh := gh) rfl ga ha T.o_BadText (ev_joined (.cons (ev_strN (by decide +kernel)) (.cons (ev_fmtI (ev_var rfl rfl) b2) .nil)) (by omega)) fun W1 e1 g1 => ?_
    refine s_ost1 (W := W1) (r := rInt) (P := (· = x)) rfl ga ha T.o_BadText T.nf_BadText_row e1 g1 (EvR.n (ev_var rfl rfl)) fun G' H' d v2 z m ea ed hv hz => ?_
    subst hz
    cases hv
    exact k G' H' d _ m ea ed (by show _ = _; rw [look_put, if_pos rfl])
theorem ok_readB (T : Txt K mg) (hw : T.w0 = w) : FnOk P w K mg base (L2N.CX P w) 6 T.d_read.f T.d_read.fd ["text"] (SpReadB K w T.d_NUMBERS T.C_BadText T.C_BadNet) := by
  have G_d_is_row : FnOk P w K mg base CX0 2 T.d_is_row.f T.d_is_row.fd ["word", "numbers"] (SpIsRow K w T.d_NUMBERS) := ok_isrow T hw
  have G_m_Net_init : FnOk P w K mg base (L2N.CX P w) 4 T.m_Net_init.f T.m_Net_init.fd ["self", "needs", "sources", "lines"] (SpInitB T.C_Net T.C_BadNet) := ok_initB T
  have G_m_BadText_init : FnOk P w K mg base CX0 1 T.m_BadText_init.f T.m_BadText_init.fd ["self", "row"] (SpBadText T.C_BadText) := ok_BadText_init T
  have kg0 : KGet K w T.d_NUMBERS "place" ((some 1 : Option Int).map V.int) := hw ▸ T.kg_NUMBERS_0
  have kg1 : KGet K w T.d_NUMBERS "source" ((some 1 : Option Int).map V.int) := hw ▸ T.kg_NUMBERS_1
  have kg2 : KGet K w T.d_NUMBERS "line" ((some 3 : Option Int).map V.int) := hw ▸ T.kg_NUMBERS_2
  refine okN T.d_read.F sc_d_read (fun vs H Q E h => ?_) (fun cdv A outer s H vs Q E hr h => ?_)
  · obtain ⟨G, z, rs, rest, rfl, _⟩ := h; rfl
  · obtain ⟨G, z, rs, rest, rfl, gh, rb, kk⟩ := h
    have hu := hu_of hr
    refine ⟨_, (pss_cons (ps_set (i := 1) sc_d_read.nd rfl (.inl rfl) (pe_lst pa_nil))
      (pss_cons (ps_set (i := 2) sc_d_read.nd rfl (.inl rfl) (pe_lst pa_nil))
      (pss_cons (ps_set (i := 3) sc_d_read.nd rfl (.inl rfl) (pe_lst pa_nil))
      (pss_cons (ps_for (passes_of rfl) rfl (kEnum K (by rfl) T.z_enumerate (pa_cons (kSplitS (pv 0) pe_str) pa_nil)) (kTupT K rfl (pgs_cons (pg_name (i := 4) sc_d_read.nd rfl (.inl rfl)) (pgs_cons (pg_name (i := 5) sc_d_read.nd rfl (.inl rfl)) pgs_nil))) (pss_cons (ps_asg (kSplitS (pv 5) pe_str) (pg_star K rfl (pg_name (i := 6) sc_d_read.nd rfl (.inl rfl)) (pg_name (i := 7) sc_d_read.nd rfl (.inl rfl))))
      (pss_cons (ps_if (PW.pt (pw_or (pt_not (pt_val (pe_call G_d_is_row (hr.mono (by decide)) (by rfl) T.d_is_row.m T.d_is_row.F.kp T.d_is_row.b .nil pass0 (pa_cons (pv 6) (pa_cons (pv 7) pa_nil))))) (pw_or1 (PW.pt (pw_and (pt_cmpR (kNe K hr.units) (pv 6) pe_str (nomark _)) (pw_and1 (pt_truth (pv 3) (by intro _; rfl)))))))) (pss_one (L2N.ps_raise rfl (L2N.takes_of rfl rfl rfl rfl) (pmk_oexN T.o_BadText T.m_BadText_init.M.at_ T.ti_BadText G_m_BadText_init (hr.mono (by decide)) T.m_BadText_init.b rfl T.g_BadText (pa_cons (pv 4) pa_nil)))) pss_nil)
      (pss_cons (ps_if (pt_cmpR (kEq K hr.units) (pv 6) pe_str (nomark _)) (pss_cons (ps_expr (kBm K PySem.F.plainAttrs_list PySem.F.slot_list_append PySem.F.type_list_append mt_append (pv 3) (pa_cons (pe_callTy (kTupleC K) (by rfl) T.z_tuple PyProof.Rows.boot_tuple (pa_cons (pe_lc (own := [("number", 8)]) (g := gName 8) (by rfl) sc_d_read.nd  (kPiList K (pv 7)) (blkOk_by (N := n_d_read) (sc := defScope s_d_read) (by decide +kernel)) (fun _ _ _ _ _ => (pg_name (i := 8) sc_d_read.nd rfl (.inl rfl))) (fun _ _ _ _ _ => pts_nil) (fun _ _ _ _ _ => (pe_callTy kIntS (by rfl) T.z_int PyProof.Rows.boot_int (pa_cons (pv 8) pa_nil)))) pa_nil)) pa_nil)))
      (pss_one ps_continue)) pss_nil)
      (pss_cons (ps_if (pt_cmpR (kEq K hr.units) (pv 6) pe_str (nomark _)) (pss_one (ps_expr (kBm K PySem.F.plainAttrs_list PySem.F.slot_list_append PySem.F.type_list_append mt_append (pv 2) (pa_cons (pe_callB (kLen K) (by rfl) T.z_len PySem.boot_len (pa_cons (pv 1) pa_nil)) pa_nil)))) pss_nil)
      (pss_one (ps_expr (kBm K PySem.F.plainAttrs_list PySem.F.slot_list_append PySem.F.type_list_append mt_append (pv 1) (pa_cons (pe_callTy kIntS (by rfl) T.z_int PyProof.Rows.boot_int (pa_cons (pe_ix (kIx K) (pv 7) pe_int (fun _ _ => rfl)) pa_nil)) pa_nil)))))))))
      (pss_one (ps_ret (pe_make T.k_Net G_m_Net_init (hr.mono (by decide)) (by rfl) T.g_Net T.m_Net_init.b .nil (L2N.passes_call (L2N.takes_of rfl rfl rfl rfl) (fun _ _ _ _ h => h)) (pa_cons (pv 1) (pa_cons (pv 2) (pa_cons (pv 3) pa_nil)))))))))), ?_⟩
    have rok := rb.ok
    have zlen := rb.len
    have rl40 := rb.l1
    have plen : ∀ m, (parseR (rs.take m)).1.length ≤ 40 ∧ (parseR (rs.take m)).2.1.length ≤ 40 ∧ (parseR (rs.take m)).2.2.length ≤ 40 := fun m => by
      have := parse_len (rs.take m)
      have := List.length_take_le m rs
      have : (rs.take m).length ≤ 40 := by rw [List.length_take]; omega
      omega
    refine q_asgO (W := Wd.in G H gh) (r := rInt) (xs := []) (eo_lst el_nil (Nat.zero_le _)) fun pn W l f1 o1 => ?_
    clear l
    refine q_asgO (W := W) (r := rInt) (xs := []) (eo_lst el_nil (Nat.zero_le _)) fun ps W l f2 o2 => ?_
    have ne12 : pn ≠ ps := o1.ne f2
    replace o1 := o1.up l
    clear l
    refine q_asgO (W := W) (r := rLine) (xs := []) (eo_lst el_nil (Nat.zero_le _)) fun pl W l f3 o3 => ?_
    have ne13 : pn ≠ pl := o1.ne f3
    have ne23 : ps ≠ pl := o2.ne f3
    replace o1 := o1.up l
    replace o2 := o2.up l
    clear l
    refine q_forE (W := W) (r := rStr) (xs := rs.map rowS ++ rest) (EvO.fz (EvO.is (eo_split (a := z) (b := "\n") (ev_var rfl rfl) ev_str (by decide +kernel) (by omega)) rb.split)) fun W l => ?_
    replace o1 := o1.up l
    replace o2 := o2.up l
    replace o3 := o3.up l
    clear l
    refine ⟨fun m σ W => ∃ k4 k5 k6 k7 : Option V, σ = [some (.str z), some (.ref pn), some (.ref ps), some (.ref pl), k4, k5, k6, k7, none] ∧ m ≤ rs.length ∧ OwnL W pn rInt (parseR (rs.take m)).1 ∧ OwnL W ps rInt (parseR (rs.take m)).2.1 ∧ OwnL W pl rLine (parseR (rs.take m)).2.2, ⟨none, none, none, none, rfl, Nat.zero_le _, o1, o2, o3⟩, ?_, ?_⟩
    · clear o1 o2 o3
      rintro m x u σ W1 W2 l l2 hm hx ⟨k4, k5, k6, k7, rfl, le, o1, o2, o3⟩
      refine g_name ?_
      replace o1 := o1.up l2
      replace o2 := o2.up l2
      replace o3 := o3.up l2
      by_cases c : m < rs.length
      · rw [List.getElem?_append_left (by rw [List.length_map]; exact c), List.getElem?_map] at hm
        obtain ⟨r, hr, rfl⟩ := Option.map_eq_some_iff.mp hm
        have ro := rok r (List.mem_of_getElem? hr)
        have rl := row_len ro
        have pt := parse_take hr
        refine (EvO.fz (EvO.is (eo_split (W := W2) (a := rowS r) (b := " ") (ev_var rfl hx) ev_str (by decide +kernel) (by omega)) (split_row ro))) W2 (Le.refl _) _ fun v9 W3 l3 h9 => ?_
        replace o1 := o1.up l3
        replace o2 := o2.up l3
        replace o3 := o3.up l3
        have wf := word_free ro
        refine g_star (W := W3) (r := rStr) (x := r.1) (xs := r.2.map numS) h9 (by rw [List.length_map]; omega) fun u6 p W4 vs l4 fp h6 ow al => ?_
        have n1 : pn ≠ p := o1.ne fp
        have n2 : ps ≠ p := o2.ne fp
        have n3 : pl ≠ p := o3.ne fp
        replace o1 := o1.up l4
        replace o2 := o2.up l4
        replace o3 := o3.up l4
        obtain ⟨W5, e5, kp5, h7⟩ := OwnL.fz (W := W4) ⟨vs, ow, al⟩
        replace h6 := Rp.up kp5.ex h6
        replace o1 := o1.kp kp5 n1
        replace o2 := o2.kp kp5 n2
        replace o3 := o3.kp kp5 n3
        rw [← e5]
        cases (show u6 = .str r.1 from h6)
        have lw0 : Wk W W5 := ⟨l.ex.trans (l2.ex.trans (l3.ex.trans (l4.ex.trans kp5.ex)))⟩
        have nums_ok : (r.2.map numS).all isNumM = true := List.all_eq_true.mpr fun y hy => by
          obtain ⟨k, hk, rfl⟩ := List.mem_map.mp hy
          exact isNum_numS (ro.nums k hk).1 (ro.nums k hk).2
        have small : ∀ y ∈ r.2.map numS, y.length ≤ 100 := fun y hy => by
          obtain ⟨k, hk, rfl⟩ := List.mem_map.mp hy
          have := (numS_len (ro.nums k hk).1 (ro.nums k hk).2).2
          omega
        have isrow : ∀ {F : Fr} {W : Wd F} {σ : L2.St} {ta tb : TE} {E : XK}, EvR ta σ W rStr r.1 → EvR tb σ W (rList rStr) (r.2.map numS) → EvR (tCall (SpIsRow K w T.d_NUMBERS) [] E (tCons ta (tCons tb tNil))) σ W rBool true := fun {F W σ ta tb E} ha hb => by
          have go : ∀ j : Int, KGet K w T.d_NUMBERS r.1 ((some j : Option Int).map V.int) → j = ((r.2.length : Nat) : Int) → EvR (tCall (SpIsRow K w T.d_NUMBERS) [] E (tCons ta (tCons tb tNil))) σ W rBool true := fun j kg ej =>
            EvR.is (ev_isrow (o := some j) ha hb kg (by rw [List.length_map]; omega) small) (by rw [nums_ok, List.length_map, decide_eq_true (congrArg some ej)]; rfl)
          rcases ro.word with ⟨e, el⟩ | ⟨e, el⟩ | ⟨e, el⟩
          · exact go 1 (e ▸ kg0) (by rw [el]; rfl)
          · exact go 1 (e ▸ kg1) (by rw [el]; rfl)
          · exact go 3 (e ▸ kg2) (by rw [el]; rfl)
        obtain ⟨q1, q2, q3⟩ := plen m
        dsimp only
        change tSeq (tIfS _ _ _) _ _ [some (.str z), some (.ref pn), some (.ref ps), some (.ref pl), some (.int (m : Int)), some u, some (.str r.1), some (.ref p), none] W5.H
        rcases row_kind ro with ⟨nl, kn, e2⟩ | ⟨e1, a, b, c3, e2⟩
        · -- a place
          have z3 := rb.seq m r hr nl
          have step : parseR (rs.take (m + 1)) = ((parseR (rs.take m)).1 ++ [kn], if r.1 = ("source" : Str) then (parseR (rs.take m)).2.1 ++ [((((parseR (rs.take m)).1.length : Nat) : Int))] else (parseR (rs.take m)).2.1, (parseR (rs.take m)).2.2) := by
            rw [pt]; unfold stepR; rw [if_neg nl, e2]; rfl
          have zk := ro.nums kn (by rw [e2]; exact List.mem_singleton.mpr rfl)
          rw [z3] at o3
          refine q_when (W := W5) (b := false) (EvB.is (et_or (et_not (et_b (isrow (ev_var rfl rfl) (ev_var rfl h7)))) fun _ => et_and (et_r (ev_neA fl_str (ev_var rfl rfl) ev_str)) fun _ => lentB (b := false) o3 fun W' kp' h => EvB.is (ev_truthL (ev_var rfl h)) rfl) (by simp)) (fun z => nomatch z) fun _ W6 l6 => ?_
          replace o1 := o1.up l6
          replace o2 := o2.up l6
          replace o3 := o3.up l6
          replace h7 := Rp.up l6.ex h7
          refine q_when (W := W6) (b := false) (EvB.is (et_r (ev_eqA fl_str (ev_var rfl rfl) ev_str)) (decide_eq_false nl)) (fun z => nomatch z) fun _ W7 l7 => ?_
          replace o1 := o1.up l7
          replace o2 := o2.up l7
          replace o3 := o3.up l7
          replace h7 := Rp.up l7.ex h7
          have lw1 : Wk W W7 := ⟨lw0.ex.trans (l6.ex.trans l7.ex)⟩
          refine q_whenCut (W := W7) (P := fun b => b = decide (r.1 = ("source" : Str))) (fun σ W8 => σ = [some (.str z), some (.ref pn), some (.ref ps), some (.ref pl), some (.int (m : Int)), some u, some (.str r.1), some (.ref p), none] ∧ Wk W W8 ∧ (rList rStr).rel W8.G (.ref p) (r.2.map numS) ∧ OwnL W8 pn rInt (parseR (rs.take m)).1 ∧ OwnL W8 ps rInt (parseR (rs.take (m + 1))).2.1 ∧ OwnL W8 pl rLine []) (EvB.n (et_r (ev_eqA fl_str (ev_var rfl rfl) ev_str))) (fun hb W8 l8 mid => ?_) (fun hb W8 l8 => ?_) ?_
          · have hs : r.1 = ("source" : Str) := of_decide_eq_true hb.symm
            replace o1 := o1.up l8
            replace o2 := o2.up l8
            replace o3 := o3.up l8
            refine s_app (W := W8) (x := (((parseR (rs.take m)).1.length : Nat) : Int)) rfl o2 (lentR flat_int o1 fun W' kp' h => ev_lenA (r := rInt) (ev_var rfl h)) (by omega) fun W9 kp o2' => ?_
            refine mid _ W9 ⟨rfl, ⟨lw1.ex.trans (l8.ex.trans kp.ex)⟩, Rp.up (l8.ex.trans kp.ex) h7, o1.kp kp ne12, ?_, o3.kp kp ne23.symm⟩
            rw [step]
            show OwnL W9 ps rInt (if _ then _ else _)
            rw [if_pos hs]
            exact o2'
          · have hs : ¬ r.1 = ("source" : Str) := of_decide_eq_false hb.symm
            refine ⟨rfl, ⟨lw1.ex.trans l8.ex⟩, Rp.up l8.ex h7, o1.up l8, ?_, o3.up l8⟩
            rw [step]
            show OwnL W8 ps rInt (if _ then _ else _)
            rw [if_neg hs]
            exact o2.up l8
          clear o1 o2 o3 h7 lw0 lw1
          rintro σ W8 ⟨rfl, lw2, h7, o1, o2, o3⟩
          refine s_app (W := W8) (x := kn) rfl o1 (ev_intS (a := numS kn) (ev_ixL (r := rStr) (ev_var rfl h7) (ev_int (i := 0)) ⟨by decide, by rw [e2]; rfl⟩) (int_numS zk.1 zk.2) (by have := (numS_len zk.1 zk.2).2; omega)) (by omega) fun W9 kp o1' => ?_
          refine ⟨W9, rfl, ⟨lw2.ex.trans kp.ex⟩, _, _, _, _, rfl, c, ?_, o2.kp kp ne12.symm, ?_⟩
          · rw [step]; exact o1'
          · rw [step]
            show OwnL W9 pl rLine (parseR (rs.take m)).2.2
            rw [z3]; exact o3.kp kp ne13.symm
        · -- a line
          have step : parseR (rs.take (m + 1)) = ((parseR (rs.take m)).1, (parseR (rs.take m)).2.1, (parseR (rs.take m)).2.2 ++ [(a, b, c3)]) := by
            rw [pt]; unfold stepR; rw [if_pos e1, e2]; rfl
          refine q_when (W := W5) (b := false) (EvB.is (et_or (et_not (et_b (isrow (ev_var rfl rfl) (ev_var rfl h7)))) fun _ => et_and (a := false) (b := false) (EvB.is (et_r (ev_neA fl_str (ev_var rfl rfl) ev_str)) (by rw [decide_eq_true e1]; rfl)) fun z => nomatch z) (by simp)) (fun z => nomatch z) fun _ W6 l6 => ?_
          replace o1 := o1.up l6
          replace o2 := o2.up l6
          replace o3 := o3.up l6
          replace h7 := Rp.up l6.ex h7
          refine q_when (W := W6) (b := true) (EvB.is (et_r (ev_eqA fl_str (ev_var rfl rfl) ev_str)) (decide_eq_true e1)) (fun _ W7 l7 => ?_) fun z => nomatch z
          replace o1 := o1.up l7
          replace o2 := o2.up l7
          replace o3 := o3.up l7
          replace h7 := Rp.up l7.ex h7
          have zn := fun k hk => ro.nums k hk
          rw [e2] at h7 zn
          refine q_app (W := W7) (x := (a, b, c3)) rfl o3 (EvR.as (r := rTup rInt) (x := [a, b, c3]) (ev_tuple (EvO.fz (EvO.is (eo_lcL (r := rStr) (s := rInt) (xs := [a, b, c3].map numS) (fun _ => true) (fun y => (PySem.intText? y).getD 0) (ev_var rfl h7) (by simp) (fun _ => rfl) (fun i y v W1 l hi e => et_yes) (fun i y v W1 l hi e _ => by
            obtain ⟨k, hk, ek⟩ := List.mem_map.mp (List.mem_of_getElem? hi)
            have zk := zn k hk
            rw [← ek, int_numS zk.1 zk.2]
            exact ev_intS (a := numS k) (ev_var rfl (ek ▸ e)) (int_numS zk.1 zk.2) (by have := (numS_len zk.1 zk.2).2; omega))) (by
              have x1 := int_numS (zn a (by simp)).1 (zn a (by simp)).2
              have x2 := int_numS (zn b (by simp)).1 (zn b (by simp)).2
              have x3 := int_numS (zn c3 (by simp)).1 (zn c3 (by simp)).2
              rw [List.filter_eq_self.mpr (fun _ _ => rfl)]
              simp [x1, x2, x3])))) fun G v h => tup_t3 h) (by omega) fun W8 kp o3' => ?_
          refine ⟨W8, rfl, ⟨lw0.ex.trans (l6.ex.trans (l7.ex.trans kp.ex))⟩, _, _, _, _, rfl, c, ?_, ?_, ?_⟩
          · rw [step]; exact o1.kp kp ne13
          · rw [step]; exact o2.kp kp ne23
          · rw [step]; exact o3'
      · -- the bad row
        have em : m = rs.length := by omega
        subst em
        rw [List.getElem?_append_right (by rw [List.length_map]; exact Nat.le_refl _), List.length_map, Nat.sub_self] at hm
        rcases kk with ⟨y, more, er, bad, kE⟩ | ⟨er, _⟩
        · rw [er] at hm
          cases hm
          have yl := (rb.free x (by rw [er]; exact List.mem_cons_self)).2
          obtain ⟨w0, ys, o, sp, kg, yl1, yl2, why⟩ := bad.ex
          refine (EvO.fz (EvO.is (eo_split (W := W2) (a := x) (b := " ") (ev_var rfl hx) ev_str (by decide +kernel) (by omega)) sp)) W2 (Le.refl _) _ fun v9 W3 l3 h9 => ?_
          replace o3 := o3.up l3
          refine g_star (W := W3) (r := rStr) (x := w0) (xs := ys) h9 (by omega) fun u6 p W4 vs l4 fp h6 ow al => ?_
          have n3 : pl ≠ p := o3.ne fp
          replace o3 := o3.up l4
          obtain ⟨W5, e5, kp5, h7⟩ := OwnL.fz (W := W4) ⟨vs, ow, al⟩
          replace h6 := Rp.up kp5.ex h6
          replace o3 := o3.kp kp5 n3
          rw [← e5]
          cases (show u6 = .str w0 from h6)
          rw [List.take_length] at o3
          dsimp only
          change tSeq (tIfS _ _ _) _ _ [some (.str z), some (.ref pn), some (.ref ps), some (.ref pl), some (.int ((rs.length : Nat) : Int)), some u, some (.str w0), some (.ref p), none] W5.H
          refine q_when (W := W5) (b := true) ?_ (fun _ W6 l6 => ?_) fun z => nomatch z
          · rcases why with e | ⟨nl, ne⟩
            · exact EvB.is (et_or (a := true) (b := true) (EvB.is (et_not (et_b (ev_isrow (ev_var rfl rfl) (ev_var rfl h7) kg yl1 yl2))) (by rw [e]; rfl)) fun z => nomatch z) rfl
            · refine EvB.is (et_or (b := true) (et_not (et_b (ev_isrow (ev_var rfl rfl) (ev_var rfl h7) kg yl1 yl2))) fun _ => EvB.is (et_and (a := true) (b := true) (EvB.is (et_r (ev_neA fl_str (ev_var rfl rfl) ev_str)) (by rw [decide_eq_false nl]; rfl)) fun _ => lentB (b := true) o3 fun W' kp' h => EvB.is (ev_truthL (ev_var rfl h)) (by
                cases e : (parseR rs).2.2 with
                | nil => exact absurd e ne
                | cons _ _ => rfl)) rfl) (by simp)
          · exact s_badtx (ev_var rfl rfl) (by omega) fun W7 d l7 hd => kE _ d hd
        · rw [er] at hm; cases hm
    · clear o1 o2 o3
      rintro σ W l ⟨k4, k5, k6, k7, rfl, le, o1, o2, o3⟩
      rcases kk with ⟨y, more, er, _⟩ | ⟨er, b, hb, kE⟩
      · rw [er, List.length_append, List.length_map, List.length_cons] at le; omega
      · have len : (rs.map rowS ++ rest).length = rs.length := by rw [er, List.append_nil, List.length_map]
        rw [len, List.take_length] at o1 o2 o3
        have pl := parse_len rs
        obtain ⟨W2, e2, kp2, h1⟩ := o1.fz
        replace o2 := o2.kp kp2 ne12.symm
        replace o3 := o3.kp kp2 ne13.symm
        obtain ⟨W3, e3, kp3, h2⟩ := o2.fz
        replace h1 := Rp.up kp3.ex h1
        replace o3 := o3.kp kp3 ne23.symm
        obtain ⟨W4, e4, kp4, h3⟩ := o3.fz
        replace h1 := Rp.up kp4.ex h1
        replace h2 := Rp.up kp4.ex h2
        rw [← e2, ← e3, ← e4]
        exact s_makeB (W := W4) (n := parseR rs) (ev_var rfl h1) (ev_var rfl h2) (ev_var rfl h3) (by omega) hb fun W5 d l5 bn => kE _ d bn
end
end Q

namespace Q
open PySem L2
local macro_rules | `(tactic| walk_at "up") => do
  let l := Lean.mkIdent `l
  let mut ts : Array (Lean.TSyntax `tactic) := #[]
  for i in [1, 2, 3, 4, 5, 6, 7, 8, 9, 10, 11, 12, 13, 14, 15, 16] do
    let h := Lean.mkIdent (Lean.Name.mkSimple s!"h{i}")
    ts := ts.push (← `(tactic| try replace $h:ident := Rp.up (Le.ex $l) $h))
    ts := ts.push (← `(tactic| try replace $h:ident := Rp.up (Wk.ex $l) $h))
    ts := ts.push (← `(tactic| try replace $h:ident := Rp.up (Kp.ex $l) $h))
  for i in [1, 2, 3, 4] do
    let h := Lean.mkIdent (Lean.Name.mkSimple s!"o{i}")
    ts := ts.push (← `(tactic| try replace $h:ident := OwnL.up $l $h))
    ts := ts.push (← `(tactic| try replace $h:ident := OwnD.up $l $h))
  `(tactic| ($[$ts:tactic];*))
local macro_rules | `(tactic| walk_at "cm") => `(tactic| first | exact Or.inl ⟨by omega, by omega⟩ | exact Or.inr ⟨by omega, by omega⟩)
local macro_rules | `(tactic| walk_at "ev") => `(tactic| repeat' first
  | exact ev_var rfl (by first | assumption | rfl)
  | exact ev_int | exact ev_bl | exact ev_str | exact ev_non
  | (refine' ev_addA ?_ ?_) | (refine' ev_sub ?_ ?_)
  | (refine' ev_mulA ?_ ?_ ?_; rotate_left 2; walk_at "cm")
  | (refine' ev_mod ?_ ?_ ?_; rotate_left 2; omega)
  | (refine' ev_lt ?_ ?_) | (refine' ev_le ?_ ?_) | (refine' ev_gt ?_ ?_) | (refine' ev_ge ?_ ?_)
  | (refine' ev_lenA ?_) | (refine' ev_in ?_ ?_) | (refine' ev_nin ?_ ?_)
  | (refine' ev_jx0 ?_) | (refine' ev_jx1 ?_) | (refine' ev_jx2 ?_) | (refine' ev_ix0 ?_) | (refine' ev_ix1 ?_)
  | (refine ev_chain_lelt ?_ ?_ ?_) | (refine ev_chain_lele ?_ ?_ ?_)
  | (refine' et_r ?_) | (refine' et_b ?_) | (refine' et_not ?_) | (refine' et_and ?_ fun _ => ?_) | (refine' et_or ?_ fun _ => ?_)
  | (refine' ev_pow ?_ ?_ ⟨by decide, by decide, by decide⟩)
  | (refine' ev_t2 ?_ ?_) | (refine' ev_t3 ?_ ?_ ?_)
  | exact et_yes)

section
variable {P : Program} {w : World} {K : PySem.W.Frag} {mg : Str → Option Value} {base : Heap}
def dtBools : Dt (rList rBool) := (dcList dcBool).dt (by decide)
theorem ok_is (T : Txt K mg) : FnP P w K mg base 1 T.d_is.f T.d_is.fd ["_law_e", "_law_word"] (SpIs K T.C_BadNet T.C_BadState T.C_BadDeed T.C_NoCut T.C_NoPlan T.C_BadText) := by
  refine okP T.d_is.F sc_d_is (fun a cls d vs H Q E h => ?_) (fun cdv A outer s H vs Q a oe cls d cau hr h => ?_)
  · obtain ⟨G, D, w, b1, b2, b3, b4, b5, b6, rfl, _⟩ := h; rfl
  · obtain ⟨G, D, w, b1, b2, b3, b4, b5, b6, rfl, gh, ec, hd, ki, k⟩ := h
    refine ⟨_, (pss_cons (ps_set (i := 2) sc_d_is.nd rfl (.inl rfl) (pe_lst (pa_cons (pe_callB (call_isC cau) (by rfl) T.z_isinstance (by decide +kernel) (pa_cons (pv 0) (pa_cons (pe_glob (v := .ref T.C_BadNet) (by rfl) T.g_BadNet rfl) pa_nil))) (pa_cons (pe_callB (call_isC cau) (by rfl) T.z_isinstance (by decide +kernel) (pa_cons (pv 0) (pa_cons (pe_glob (v := .ref T.C_BadState) (by rfl) T.g_BadState rfl) pa_nil))) (pa_cons (pe_callB (call_isC cau) (by rfl) T.z_isinstance (by decide +kernel) (pa_cons (pv 0) (pa_cons (pe_glob (v := .ref T.C_BadDeed) (by rfl) T.g_BadDeed rfl) pa_nil))) (pa_cons (pe_callB (call_isC cau) (by rfl) T.z_isinstance (by decide +kernel) (pa_cons (pv 0) (pa_cons (pe_glob (v := .ref T.C_NoCut) (by rfl) T.g_NoCut rfl) pa_nil))) pa_nil))))))
      (pss_cons (ps_set (i := 2) sc_d_is.nd rfl (.inl rfl) (pe_op op_addA (pv 2) (pe_lst (pa_cons (pe_callB (call_isC cau) (by rfl) T.z_isinstance (by decide +kernel) (pa_cons (pv 0) (pa_cons (pe_glob (v := .ref T.C_NoPlan) (by rfl) T.g_NoPlan rfl) pa_nil))) (pa_cons (pe_callB (call_isC cau) (by rfl) T.z_isinstance (by decide +kernel) (pa_cons (pv 0) (pa_cons (pe_glob (v := .ref T.C_BadText) (by rfl) T.g_BadText rfl) pa_nil))) pa_nil)))))
      (pss_cons (ps_set (i := 3) sc_d_is.nd rfl (.inl rfl) (pe_lst (pa_cons pe_str (pa_cons pe_str (pa_cons pe_str (pa_cons pe_str (pa_cons pe_str (pa_cons pe_str pa_nil))))))))
      (pss_one (ps_ret (pe_and (pe_callB (call_isC cau) (by rfl) T.z_isinstance (by decide +kernel) (pa_cons (pv 0) (pa_cons (pe_bltn (v := .ty "ValueError") (by rfl) T.z_ValueError (by decide +kernel) rfl) pa_nil))) (pe_one (pe_cmpR (kEq K (units_of hr)) (pv 2) (pe_lcH (own := [("_law_one", 4)]) (g := gName 4) (Cau.pin1 cau) sc_d_is.nd  (pi_listH (K := K) (pv 3)) (blkOk_by (N := n_d_is) (sc := defScope s_d_is) (by decide +kernel)) (fun _ _ _ _ _ => (pg_name (i := 4) sc_d_is.nd rfl (.inl rfl))) (fun _ _ _ _ _ => pts_nil) (fun _ _ _ _ _ => (pe_cmpR (kEq K (units_of hr)) (pv 1) (pv 4) (nomark _)))) (nomark _))))))))), ?_⟩
    refine q_asg (W := Wd.in G H gh) (r := rList rBool) (x := [b1, b2, b3, b4]) (EvO.fz (eo_lst (el_cons (ev_isC rfl ec ki.ec hd ki.k1) (el_cons (ev_isC rfl ec ki.ec hd ki.k2) (el_cons (ev_isC rfl ec ki.ec hd ki.k3) (el_cons (ev_isC rfl ec ki.ec hd ki.k4) el_nil)))) (by simp))) fun v2 W l h2 => ?_
    replace hd := hd.up l.ex
    walk_at "up"
    refine q_asg (r := rList rBool) (x := [b1, b2, b3, b4] ++ [b5, b6]) (EvO.fz (eo_catA (r := rBool) (ev_var rfl h2) (EvO.fz (eo_lst (el_cons (ev_isC rfl ec ki.ec hd ki.k5) (el_cons (ev_isC rfl ec ki.ec hd ki.k6) el_nil)) (by simp))) (by simp))) fun v3 W l h3 => ?_
    replace hd := hd.up l.ex
    walk_at "up"
    refine q_asg (r := rList rStr) (x := isWords) (EvO.fz (eo_lst (el_cons ev_str (el_cons ev_str (el_cons ev_str (el_cons ev_str (el_cons ev_str (el_cons ev_str el_nil)))))) (by simp))) fun v4 W l h4 => ?_
    replace hd := hd.up l.ex
    walk_at "up"
    refine s_ret (r := rBool) (x := decide ([b1, b2, b3, b4, b5, b6] = isWords.map fun z => decide (w = z))) (EvR.is (ev_andV (ev_isCb rfl ec ki.ec hd ki.kv) fun _ => ev_eqD dtBools (ev_var rfl h3) (EvO.fz (eo_lcL (r := rStr) (s := rBool) (fun _ => true) (fun one => decide (w = one)) (ev_var rfl h4) (by simp) (fun _ => rfl) (fun i x v W1 l1 hi e => et_yes) (fun i x v W1 l1 hi e _ => ev_eqA fl_str (ev_var rfl rfl) (ev_var rfl e))))) (by rfl)) fun v W e => by rw [show v = .bl _ from e]; exact k W
end
end Q

namespace Q
open PySem L2
local macro_rules | `(tactic| walk_at "up") => do
  let l := Lean.mkIdent `l
  let mut ts : Array (Lean.TSyntax `tactic) := #[]
  for i in [1, 2, 3, 4, 5, 6, 7, 8, 9, 10, 11, 12, 13, 14, 15, 16] do
    let h := Lean.mkIdent (Lean.Name.mkSimple s!"h{i}")
    ts := ts.push (← `(tactic| try replace $h:ident := Rp.up (Le.ex $l) $h))
    ts := ts.push (← `(tactic| try replace $h:ident := Rp.up (Wk.ex $l) $h))
    ts := ts.push (← `(tactic| try replace $h:ident := Rp.up (Kp.ex $l) $h))
  for i in [1, 2, 3, 4] do
    let h := Lean.mkIdent (Lean.Name.mkSimple s!"o{i}")
    ts := ts.push (← `(tactic| try replace $h:ident := OwnL.up $l $h))
    ts := ts.push (← `(tactic| try replace $h:ident := OwnD.up $l $h))
  `(tactic| ($[$ts:tactic];*))
local macro_rules | `(tactic| walk_at "cm") => `(tactic| first | exact Or.inl ⟨by omega, by omega⟩ | exact Or.inr ⟨by omega, by omega⟩)
local macro_rules | `(tactic| walk_at "ev") => `(tactic| repeat' first
  | exact ev_var rfl (by first | assumption | rfl)
  | exact ev_int | exact ev_bl | exact ev_str | exact ev_non
  | (refine' ev_addA ?_ ?_) | (refine' ev_sub ?_ ?_)
  | (refine' ev_mulA ?_ ?_ ?_; rotate_left 2; walk_at "cm")
  | (refine' ev_mod ?_ ?_ ?_; rotate_left 2; omega)
  | (refine' ev_lt ?_ ?_) | (refine' ev_le ?_ ?_) | (refine' ev_gt ?_ ?_) | (refine' ev_ge ?_ ?_)
  | (refine' ev_lenA ?_) | (refine' ev_in ?_ ?_) | (refine' ev_nin ?_ ?_)
  | (refine' ev_jx0 ?_) | (refine' ev_jx1 ?_) | (refine' ev_jx2 ?_) | (refine' ev_ix0 ?_) | (refine' ev_ix1 ?_)
  | (refine ev_chain_lelt ?_ ?_ ?_) | (refine ev_chain_lele ?_ ?_ ?_)
  | (refine' et_r ?_) | (refine' et_b ?_) | (refine' et_not ?_) | (refine' et_and ?_ fun _ => ?_) | (refine' et_or ?_ fun _ => ?_)
  | (refine' ev_pow ?_ ?_ ⟨by decide, by decide, by decide⟩)
  | (refine' ev_t2 ?_ ?_) | (refine' ev_t3 ?_ ?_ ?_)
  | exact et_yes)

section
variable {P : Program} {w : World} {K : PySem.W.Frag} {mg : Str → Option Value} {base : Heap}
theorem kw1 : kitB "int" "int" = some true := by decide +kernel
theorem kw2 : kitB "int" "bool" = some false := by decide +kernel
theorem kw3 : kitB "tuple" "tuple" = some true := by decide +kernel
theorem kw4 : kitB "list" "list" = some true := by decide +kernel
theorem ok_whole_int (T : Txt K mg) : FnOk P w K mg base CX0 1 T.d_whole.f T.d_whole.fd ["_law_found"] (Fn1 rInt rBool (fun _ => True) (fun _ => true)) := by
  refine T.d_whole.F.ok sc_d_whole (fun vs H Q E h => ?_) (fun cdv A outer s H vs Q E hr h => ?_)
  · obtain ⟨G, v, x, rfl, _⟩ := h; rfl
  · obtain ⟨G, v, x, rfl, gh, h1, _, k⟩ := h
    refine ⟨_, (pss_one (ps_ret (pe_and (pe_callB (kIsi K) (by rfl) T.z_isinstance (by decide +kernel) (pa_cons (pv 0) (pa_cons (pe_bltn (v := .ty "int") (by rfl) T.z_int (by decide +kernel) rfl) pa_nil))) (pe_one (pe_not (pe_callB (kIsi K) (by rfl) T.z_isinstance (by decide +kernel) (pa_cons (pv 0) (pa_cons (pe_bltn (v := .ty "bool") (by rfl) T.z_bool (by decide +kernel) rfl) pa_nil)))))))), ?_⟩
    refine s_ret (W := Wd.in G H gh) (r := rBool) (ev_andV (ev_isi ty_int kw1 (ev_var rfl h1)) fun _ => ev_notV (ev_isi ty_int kw2 (ev_var rfl h1))) fun v W e => k v W e
end
end Q

namespace Q
open PySem L2
local macro_rules | `(tactic| walk_at "up") => do
  let l := Lean.mkIdent `l
  let mut ts : Array (Lean.TSyntax `tactic) := #[]
  for i in [1, 2, 3, 4, 5, 6, 7, 8, 9, 10, 11, 12, 13, 14, 15, 16] do
    let h := Lean.mkIdent (Lean.Name.mkSimple s!"h{i}")
    ts := ts.push (← `(tactic| try replace $h:ident := Rp.up (Le.ex $l) $h))
    ts := ts.push (← `(tactic| try replace $h:ident := Rp.up (Wk.ex $l) $h))
    ts := ts.push (← `(tactic| try replace $h:ident := Rp.up (Kp.ex $l) $h))
  for i in [1, 2, 3, 4] do
    let h := Lean.mkIdent (Lean.Name.mkSimple s!"o{i}")
    ts := ts.push (← `(tactic| try replace $h:ident := OwnL.up $l $h))
    ts := ts.push (← `(tactic| try replace $h:ident := OwnD.up $l $h))
  `(tactic| ($[$ts:tactic];*))
local macro_rules | `(tactic| walk_at "cm") => `(tactic| first | exact Or.inl ⟨by omega, by omega⟩ | exact Or.inr ⟨by omega, by omega⟩)
local macro_rules | `(tactic| walk_at "ev") => `(tactic| repeat' first
  | exact ev_var rfl (by first | assumption | rfl)
  | exact ev_int | exact ev_bl | exact ev_str | exact ev_non
  | (refine' ev_addA ?_ ?_) | (refine' ev_sub ?_ ?_)
  | (refine' ev_mulA ?_ ?_ ?_; rotate_left 2; walk_at "cm")
  | (refine' ev_mod ?_ ?_ ?_; rotate_left 2; omega)
  | (refine' ev_lt ?_ ?_) | (refine' ev_le ?_ ?_) | (refine' ev_gt ?_ ?_) | (refine' ev_ge ?_ ?_)
  | (refine' ev_lenA ?_) | (refine' ev_in ?_ ?_) | (refine' ev_nin ?_ ?_)
  | (refine' ev_jx0 ?_) | (refine' ev_jx1 ?_) | (refine' ev_jx2 ?_) | (refine' ev_ix0 ?_) | (refine' ev_ix1 ?_)
  | (refine ev_chain_lelt ?_ ?_ ?_) | (refine ev_chain_lele ?_ ?_ ?_)
  | (refine' et_r ?_) | (refine' et_b ?_) | (refine' et_not ?_) | (refine' et_and ?_ fun _ => ?_) | (refine' et_or ?_ fun _ => ?_)
  | (refine' ev_pow ?_ ?_ ⟨by decide, by decide, by decide⟩)
  | (refine' ev_t2 ?_ ?_) | (refine' ev_t3 ?_ ?_ ?_)
  | exact et_yes)

open L2H
section
variable {P : Program} {w : World} {K : PySem.W.Frag} {mg : Str → Option Value} {base : Heap}
theorem ok_wholeH (T : Txt K mg) : FnH P w K mg base CX0 1 T.d_whole.f T.d_whole.fd ["_law_found"] (Fn1 rInt rBool (fun _ => True) (fun _ => true)) := by
  refine okH T.d_whole.F sc_d_whole (fun vs H Q E h => ?_) (fun cdv A outer s H vs Q E p hot hr h => ?_)
  · obtain ⟨G, v, x, rfl, _⟩ := h; rfl
  · obtain ⟨G, v, x, rfl, gh, h1, _, k⟩ := h
    refine ⟨_, (pss_one (ps_ret (pe_and (pe_callB (kIsi K) (by rfl) T.z_isinstance (by decide +kernel) (pa_cons (pv 0) (pa_cons (pe_bltn (v := .ty "int") (by rfl) T.z_int (by decide +kernel) rfl) pa_nil))) (pe_one (pe_not (pe_callB (kIsi K) (by rfl) T.z_isinstance (by decide +kernel) (pa_cons (pv 0) (pa_cons (pe_bltn (v := .ty "bool") (by rfl) T.z_bool (by decide +kernel) rfl) pa_nil)))))))), ?_⟩
    refine s_ret (W := Wd.in G H gh) (r := rBool) (ev_andV (ev_isi ty_int kw1 (ev_var rfl h1)) fun _ => ev_notV (ev_isi ty_int kw2 (ev_var rfl h1))) fun v W e => k v W e
/-- the rows, what is to be told of them -/
def SpRefT (K : PySem.W.Frag) (w : World) (D : Addr) : Sp := fun vs H Q _ => ∃ (G : Hp) (v : V) (word : Str) (at_ : Int) (why : Str) (rs : List RowT) (rest : List Str), vs = [v, .str word, .int at_, .str why] ∧ Ex G H ∧ (rList rStr).rel G v (rs.map rowS ++ rest) ∧ ReadB rs rest (Str.join "\n" (rs.map rowS ++ rest)) ∧
  ((word = "text" ∧ at_ = ((rs.length : Nat) : Int) ∧ ∃ y more, rest = y :: more ∧ BadRow K w D rs y) ∨ (word = "net" ∧ rest = [] ∧ netB (parseR rs) = some (at_, why))) ∧ ∀ W : Wd (pF G H), Q (.bl true) W.H
theorem w_tn : ¬ (("net" : Str) = "text") := by decide +kernel
/-- read(..), its value forgotten, in a try -/
theorem s_readB {F : Fr} {σ : L2.St} {W : Wd F} {ta : TE} {D CT CN : Addr} {E : L2.St → XK} {rs : List RowT} {rest : List Str} {z : Str} {Dn : Ends} (ha : EvR ta σ W rStr z) (rb : ReadB rs rest z)
    (k : (∃ y more, rest = y :: more ∧ BadRow K w D rs y ∧ ∀ (W1 : Wd F) d, Le W W1 → BadTx W1.G d ((rs.length : Nat) : Int) → E σ (.ref CT) (some d) W1.H) ∨ (rest = [] ∧ ∃ b, netB (parseR rs) = some b ∧ ∀ (W1 : Wd F) d, Le W W1 → BadNt W1.G d b → E σ (.ref CN) (some d) W1.H)) :
    tDrop (tCallS (SpReadB K w D CT CN) E (tCons ta tNil)) Dn σ W.H :=
  ha W (Le.refl _) _ fun v W2 l2 hv => ⟨W2.G, z, rs, rest, by rw [show v = .str z from hv], W2.gh, rb, by
    rcases k with ⟨y, more, er, bad, kE⟩ | ⟨er, b, hb, kE⟩
    · exact .inl ⟨y, more, er, bad, fun W4 d h => kE (W2.back W4) d (l2.trans (W2.back_le W4)) h⟩
    · exact .inr ⟨er, b, hb, fun W4 d h => kE (W2.back W4) d (l2.trans (W2.back_le W4)) h⟩⟩
theorem ok_refused (T : Txt K mg) (hw : T.w0 = w) : FnOk P w K mg base CX0 8 T.d_refused.f T.d_refused.fd ["_law_rows", "_law_word", "_law_at", "_law_why"] (SpRefT K w T.d_NUMBERS) := by
  have G_d_read : FnOk P w K mg base (L2N.CX P w) 6 T.d_read.f T.d_read.fd ["text"] (SpReadB K w T.d_NUMBERS T.C_BadText T.C_BadNet) := ok_readB T hw
  have P_d_is : FnP P w K mg base 1 T.d_is.f T.d_is.fd ["_law_e", "_law_word"] (SpIs K T.C_BadNet T.C_BadState T.C_BadDeed T.C_NoCut T.C_NoPlan T.C_BadText) := ok_is T
  have H_d_whole : FnH P w K mg base CX0 1 T.d_whole.f T.d_whole.fd ["_law_found"] (Fn1 rInt rBool (fun _ => True) (fun _ => true)) := ok_wholeH T
  refine T.d_refused.F.ok sc_d_refused (fun vs H Q E h => ?_) (fun cdv A outer s H vs Q E hr h => ?_)
  · obtain ⟨G, v, wd, a, y, rs, rest, rfl, _⟩ := h; rfl
  · obtain ⟨G, v, wd, a, y, rs, rest, rfl, gh, h1, rb, why, k⟩ := h
    have hu := hu_of hr
    refine ⟨_, (pss_cons (L2N.ps_try_as (i := 4) (Wout := fun _ _ _ _ => False) rfl rfl sc_d_refused.nd rfl rfl ⟨rfl, by decide, .inl T.g_LightError⟩ takes0N (fun W pn xe tk po => (pss_one (ps_expr (pe_callS G_d_read (hr.mono (by decide)) (by rfl) T.d_read.m T.d_read.F.kp T.d_read.b (fun σ => L2N.passAt tk σ) (pa_cons (kJoinS K pe_str (pv 0)) pa_nil)))))
      (fun a oe cls d pn hz hf => (pss_cons (ps_if (pt_not (pt_val (pe_callP (cau_suite hz hf) P_d_is (L2H.roomH_mark (hr.mono (by decide)) _) (by rfl) T.d_is.m T.d_is.F.kp T.d_is.b (pa_cons (pv 4) (pa_cons (pv 1) pa_nil))))) (pss_one (ps_ret pe_bl)) pss_nil)
      (pss_cons (ps_if (pt_cmpR (kEq K hr.units) (pv 1) pe_str (nomark _)) (pss_one (ps_ret (pe_and (pe_callH (E := fun _ => E0) H_d_whole (L2H.roomH_mark (hr.mono (by decide)) _) (Pin1.hotC (Cau.pin1 (cau_suite hz hf))) (by rfl) T.d_whole.m T.d_whole.F.kp T.d_whole.b (fun _ => passE0At) (pa_cons (pe_fldE K (pv 4) rfl rfl (cau_suite hz hf)) pa_nil)) (pe_one (pe_cmpR (kEq K hr.units) (pe_fldE K (pv 4) rfl rfl (cau_suite hz hf)) (pv 2) (nomark _)))))) pss_nil)
      (pss_one (ps_ret (pe_and (pe_cmpR (kEq K hr.units) (pe_fldE K (pv 4) rfl rfl (cau_suite hz hf)) (pv 2) (nomark _)) (pe_one (pe_cmpR (kEq K hr.units) (pe_fldE K (pv 4) rfl rfl (cau_suite hz hf)) (pv 3) (nomark _))))))))))
      (pss_one (ps_ret pe_bl))), ?_⟩
    refine s_readB (W := Wd.in G H gh) (rs := rs) (rest := rest) (ev_join ev_str (ev_var rfl h1) (Nat.le_trans rb.sum (by decide))) rb ?_
    rcases why with ⟨e1, e2, y1, more, er, bad⟩ | ⟨e1, er, hb⟩
    · subst e1 e2
      refine .inl ⟨y1, more, er, bad, fun W d l bn => ?_⟩
      obtain ⟨fs, hd, f1⟩ := bn
      refine ⟨true, T.ex_BadText_LightError, fun _ a0 ha0 => ?_, fun q => Bool.noConfusion q⟩
      refine q_when (W := W) (b := false) (EvB.is (et_not (et_b (ev_is rfl rfl (fun dd z => by cases z; exact ⟨fs, hd⟩) T.kit_BadText (ev_var rfl rfl)))) (by decide +kernel)) (fun z => nomatch z) fun _ W l => ?_
      replace hd := l.ex _ _ hd
      refine q_when (W := W) (b := true) (EvB.is (et_r (ev_eqA fl_str (ev_var rfl rfl) ev_str)) (by decide +kernel)) (fun _ W l => ?_) fun z => nomatch z
      replace hd := l.ex _ _ hd
      exact s_ret (W := W) (r := rBool) (x := true) (EvR.is (ev_andV (ev_callH1 (r := rInt) (s := rBool) (ev_fldC rfl rfl T.xf_BadText T.nf_BadText_row hd f1 rfl) trivial) fun _ => ev_eqA fl_int (ev_fldC rfl rfl T.xf_BadText T.nf_BadText_row hd f1 rfl) (ev_var rfl rfl)) (by simp)) fun v W e => by rw [show v = .bl true from e]; exact k _
    · subst e1
      refine .inr ⟨er, (a, y), hb, fun W d l bn => ?_⟩
      obtain ⟨fs, hd, f1, f2⟩ := bn
      refine ⟨true, T.ex_BadNet_LightError, fun _ a0 ha0 => ?_, fun q => Bool.noConfusion q⟩
      refine q_when (W := W) (b := false) (EvB.is (et_not (et_b (ev_is rfl rfl (fun dd z => by cases z; exact ⟨fs, hd⟩) T.kit_BadNet (ev_var rfl rfl)))) (by decide +kernel)) (fun z => nomatch z) fun _ W l => ?_
      replace hd := l.ex _ _ hd
      refine q_when (W := W) (b := false) (EvB.is (et_r (ev_eqA fl_str (ev_var rfl rfl) ev_str)) (by decide +kernel)) (fun z => nomatch z) fun _ W l => ?_
      replace hd := l.ex _ _ hd
      exact s_ret (W := W) (r := rBool) (x := true) (EvR.is (ev_andV (ev_eqA fl_int (ev_fldC rfl rfl T.xf_BadNet T.nf_BadNet_at hd f1 rfl) (ev_var rfl rfl)) fun _ => ev_eqA fl_str (ev_fldC rfl rfl T.xf_BadNet T.nf_BadNet_why hd f2 rfl) (ev_var rfl rfl)) (by simp)) fun v W e => by rw [show v = .bl true from e]; exact k _
end
end Q

namespace Q
open PySem L2
local macro_rules | `(tactic| walk_at "up") => do
  let l := Lean.mkIdent `l
  let mut ts : Array (Lean.TSyntax `tactic) := #[]
  for i in [1, 2, 3, 4, 5, 6, 7, 8, 9, 10, 11, 12, 13, 14, 15, 16] do
    let h := Lean.mkIdent (Lean.Name.mkSimple s!"h{i}")
    ts := ts.push (← `(tactic| try replace $h:ident := Rp.up (Le.ex $l) $h))
    ts := ts.push (← `(tactic| try replace $h:ident := Rp.up (Wk.ex $l) $h))
    ts := ts.push (← `(tactic| try replace $h:ident := Rp.up (Kp.ex $l) $h))
  for i in [1, 2, 3, 4] do
    let h := Lean.mkIdent (Lean.Name.mkSimple s!"o{i}")
    ts := ts.push (← `(tactic| try replace $h:ident := OwnL.up $l $h))
    ts := ts.push (← `(tactic| try replace $h:ident := OwnD.up $l $h))
  `(tactic| ($[$ts:tactic];*))
local macro_rules | `(tactic| walk_at "cm") => `(tactic| first | exact Or.inl ⟨by omega, by omega⟩ | exact Or.inr ⟨by omega, by omega⟩)
local macro_rules | `(tactic| walk_at "ev") => `(tactic| repeat' first
  | exact ev_var rfl (by first | assumption | rfl)
  | exact ev_int | exact ev_bl | exact ev_str | exact ev_non
  | (refine' ev_addA ?_ ?_) | (refine' ev_sub ?_ ?_)
  | (refine' ev_mulA ?_ ?_ ?_; rotate_left 2; walk_at "cm")
  | (refine' ev_mod ?_ ?_ ?_; rotate_left 2; omega)
  | (refine' ev_lt ?_ ?_) | (refine' ev_le ?_ ?_) | (refine' ev_gt ?_ ?_) | (refine' ev_ge ?_ ?_)
  | (refine' ev_lenA ?_) | (refine' ev_in ?_ ?_) | (refine' ev_nin ?_ ?_)
  | (refine' ev_jx0 ?_) | (refine' ev_jx1 ?_) | (refine' ev_jx2 ?_) | (refine' ev_ix0 ?_) | (refine' ev_ix1 ?_)
  | (refine ev_chain_lelt ?_ ?_ ?_) | (refine ev_chain_lele ?_ ?_ ?_)
  | (refine' et_r ?_) | (refine' et_b ?_) | (refine' et_not ?_) | (refine' et_and ?_ fun _ => ?_) | (refine' et_or ?_ fun _ => ?_)
  | (refine' ev_pow ?_ ?_ ⟨by decide, by decide, by decide⟩)
  | (refine' ev_t2 ?_ ?_) | (refine' ev_t3 ?_ ?_ ?_)
  | exact et_yes)

section
variable {P : Program} {w : World} {K : PySem.W.Frag} {mg : Str → Option Value} {base : Heap}
/-- a net that the defs may be asked about -/
structure NetG (n : NetD) : Prop where
  l : LinesOk n.needs.length n.lines
  s1 : n.sources.Nodup
  s2 : ∀ x ∈ n.sources, 0 ≤ x ∧ x < (n.needs.length : Int)
end
end Q

namespace Q
open PySem L2
local macro_rules | `(tactic| walk_at "up") => do
  let l := Lean.mkIdent `l
  let mut ts : Array (Lean.TSyntax `tactic) := #[]
  for i in [1, 2, 3, 4, 5, 6, 7, 8, 9, 10, 11, 12, 13, 14, 15, 16] do
    let h := Lean.mkIdent (Lean.Name.mkSimple s!"h{i}")
    ts := ts.push (← `(tactic| try replace $h:ident := Rp.up (Le.ex $l) $h))
    ts := ts.push (← `(tactic| try replace $h:ident := Rp.up (Wk.ex $l) $h))
    ts := ts.push (← `(tactic| try replace $h:ident := Rp.up (Kp.ex $l) $h))
  for i in [1, 2, 3, 4] do
    let h := Lean.mkIdent (Lean.Name.mkSimple s!"o{i}")
    ts := ts.push (← `(tactic| try replace $h:ident := OwnL.up $l $h))
    ts := ts.push (← `(tactic| try replace $h:ident := OwnD.up $l $h))
  `(tactic| ($[$ts:tactic];*))
local macro_rules | `(tactic| walk_at "cm") => `(tactic| first | exact Or.inl ⟨by omega, by omega⟩ | exact Or.inr ⟨by omega, by omega⟩)
local macro_rules | `(tactic| walk_at "ev") => `(tactic| repeat' first
  | exact ev_var rfl (by first | assumption | rfl)
  | exact ev_int | exact ev_bl | exact ev_str | exact ev_non
  | (refine' ev_addA ?_ ?_) | (refine' ev_sub ?_ ?_)
  | (refine' ev_mulA ?_ ?_ ?_; rotate_left 2; walk_at "cm")
  | (refine' ev_mod ?_ ?_ ?_; rotate_left 2; omega)
  | (refine' ev_lt ?_ ?_) | (refine' ev_le ?_ ?_) | (refine' ev_gt ?_ ?_) | (refine' ev_ge ?_ ?_)
  | (refine' ev_lenA ?_) | (refine' ev_in ?_ ?_) | (refine' ev_nin ?_ ?_)
  | (refine' ev_jx0 ?_) | (refine' ev_jx1 ?_) | (refine' ev_jx2 ?_) | (refine' ev_ix0 ?_) | (refine' ev_ix1 ?_)
  | (refine ev_chain_lelt ?_ ?_ ?_) | (refine ev_chain_lele ?_ ?_ ?_)
  | (refine' et_r ?_) | (refine' et_b ?_) | (refine' et_not ?_) | (refine' et_and ?_ fun _ => ?_) | (refine' et_or ?_ fun _ => ?_)
  | (refine' ev_pow ?_ ?_ ⟨by decide, by decide, by decide⟩)
  | (refine' ev_t2 ?_ ?_) | (refine' ev_t3 ?_ ?_ ?_)
  | exact et_yes)

section
variable {P : Program} {w : World} {K : PySem.W.Frag} {mg : Str → Option Value} {base : Heap}
def spLaw (K : PySem.W.Frag) : Sp := fun vs H Q _ => ∃ (a : Addr) (ns : List Int), vs = [.ref a] ∧ SqL K H a (ns.map V.int) ∧ ns.length ≤ 63 ∧ ∀ H', Q (.bl true) H'
theorem rows_lines {a b : Int} {n : Rows} (h : RowsOk a b n) (ha : a ≤ 10) (hb : b ≤ 10) : LinesOk n.1.length n.2.2 := ⟨h.n1.1, by have := h.n1.2; omega, by have := h.l1; omega, fun x hx => let ⟨p, q, r, _⟩ := h.l2 x hx; ⟨p, q, r⟩⟩
theorem rows_net {a b : Int} {n : Rows} (h : RowsOk a b n) (ha : a ≤ 10) (hb : b ≤ 10) : NetOk n.1 n.2.1 n.2.2 := ⟨⟨h.n1.1, by have := h.n1.2; omega⟩, h.n2, h.s1, h.s2, by have := h.l1; omega, h.l2⟩
theorem rows_src {a b : Int} {n : Rows} (h : RowsOk a b n) (ha : a ≤ 10) : n.2.1.length ≤ 10 := by
  have := nodup_len h.s1 h.s2
  have := h.n1.2
  omega
end
end Q

namespace Q
open PySem L2
local macro_rules | `(tactic| walk_at "up") => do
  let l := Lean.mkIdent `l
  let mut ts : Array (Lean.TSyntax `tactic) := #[]
  for i in [1, 2, 3, 4, 5, 6, 7, 8, 9, 10, 11, 12, 13, 14, 15, 16] do
    let h := Lean.mkIdent (Lean.Name.mkSimple s!"h{i}")
    ts := ts.push (← `(tactic| try replace $h:ident := Rp.up (Le.ex $l) $h))
    ts := ts.push (← `(tactic| try replace $h:ident := Rp.up (Wk.ex $l) $h))
    ts := ts.push (← `(tactic| try replace $h:ident := Rp.up (Kp.ex $l) $h))
  for i in [1, 2, 3, 4] do
    let h := Lean.mkIdent (Lean.Name.mkSimple s!"o{i}")
    ts := ts.push (← `(tactic| try replace $h:ident := OwnL.up $l $h))
    ts := ts.push (← `(tactic| try replace $h:ident := OwnD.up $l $h))
  `(tactic| ($[$ts:tactic];*))
local macro_rules | `(tactic| walk_at "cm") => `(tactic| first | exact Or.inl ⟨by omega, by omega⟩ | exact Or.inr ⟨by omega, by omega⟩)
local macro_rules | `(tactic| walk_at "ev") => `(tactic| repeat' first
  | exact ev_var rfl (by first | assumption | rfl)
  | exact ev_int | exact ev_bl | exact ev_str | exact ev_non
  | (refine' ev_addA ?_ ?_) | (refine' ev_sub ?_ ?_)
  | (refine' ev_mulA ?_ ?_ ?_; rotate_left 2; walk_at "cm")
  | (refine' ev_mod ?_ ?_ ?_; rotate_left 2; omega)
  | (refine' ev_lt ?_ ?_) | (refine' ev_le ?_ ?_) | (refine' ev_gt ?_ ?_) | (refine' ev_ge ?_ ?_)
  | (refine' ev_lenA ?_) | (refine' ev_in ?_ ?_) | (refine' ev_nin ?_ ?_)
  | (refine' ev_jx0 ?_) | (refine' ev_jx1 ?_) | (refine' ev_jx2 ?_) | (refine' ev_ix0 ?_) | (refine' ev_ix1 ?_)
  | (refine ev_chain_lelt ?_ ?_ ?_) | (refine ev_chain_lele ?_ ?_ ?_)
  | (refine' et_r ?_) | (refine' et_b ?_) | (refine' et_not ?_) | (refine' et_and ?_ fun _ => ?_) | (refine' et_or ?_ fun _ => ?_)
  | (refine' ev_pow ?_ ?_ ⟨by decide, by decide, by decide⟩)
  | (refine' ev_t2 ?_ ?_) | (refine' ev_t3 ?_ ?_ ?_)
  | exact et_yes)

section
/-- the net that a law's rows make -/
abbrev netM (n : Rows) : NetD := ⟨n.1, srt n.2.1, n.2.2⟩
theorem netM_eq {n : Rows} {m : NetD} (h1 : m.needs = n.1) (h2 : m.lines = n.2.2) (h3 : m.sources.Perm n.2.1) (h4 : m.sources.Pairwise (· ≤ ·)) : m = netM n := by
  obtain ⟨a, b, c⟩ := m
  have h1 : a = n.1 := h1
  have h2 : c = n.2.2 := h2
  have h3 : b.Perm n.2.1 := h3
  have h4 : b.Pairwise (· ≤ ·) := h4
  subst h1 h2
  have : b = srt n.2.1 := le_eq (h3.trans srt_perm.symm) h4 srt_le
  subst this
  rfl
end
end Q

namespace Q
open PySem L2
local macro_rules | `(tactic| walk_at "up") => do
  let l := Lean.mkIdent `l
  let mut ts : Array (Lean.TSyntax `tactic) := #[]
  for i in [1, 2, 3, 4, 5, 6, 7, 8, 9, 10, 11, 12, 13, 14, 15, 16] do
    let h := Lean.mkIdent (Lean.Name.mkSimple s!"h{i}")
    ts := ts.push (← `(tactic| try replace $h:ident := Rp.up (Le.ex $l) $h))
    ts := ts.push (← `(tactic| try replace $h:ident := Rp.up (Wk.ex $l) $h))
    ts := ts.push (← `(tactic| try replace $h:ident := Rp.up (Kp.ex $l) $h))
  for i in [1, 2, 3, 4] do
    let h := Lean.mkIdent (Lean.Name.mkSimple s!"o{i}")
    ts := ts.push (← `(tactic| try replace $h:ident := OwnL.up $l $h))
    ts := ts.push (← `(tactic| try replace $h:ident := OwnD.up $l $h))
  `(tactic| ($[$ts:tactic];*))
local macro_rules | `(tactic| walk_at "cm") => `(tactic| first | exact Or.inl ⟨by omega, by omega⟩ | exact Or.inr ⟨by omega, by omega⟩)
local macro_rules | `(tactic| walk_at "ev") => `(tactic| repeat' first
  | exact ev_var rfl (by first | assumption | rfl)
  | exact ev_int | exact ev_bl | exact ev_str | exact ev_non
  | (refine' ev_addA ?_ ?_) | (refine' ev_sub ?_ ?_)
  | (refine' ev_mulA ?_ ?_ ?_; rotate_left 2; walk_at "cm")
  | (refine' ev_mod ?_ ?_ ?_; rotate_left 2; omega)
  | (refine' ev_lt ?_ ?_) | (refine' ev_le ?_ ?_) | (refine' ev_gt ?_ ?_) | (refine' ev_ge ?_ ?_)
  | (refine' ev_lenA ?_) | (refine' ev_in ?_ ?_) | (refine' ev_nin ?_ ?_)
  | (refine' ev_jx0 ?_) | (refine' ev_jx1 ?_) | (refine' ev_jx2 ?_) | (refine' ev_ix0 ?_) | (refine' ev_ix1 ?_)
  | (refine ev_chain_lelt ?_ ?_ ?_) | (refine ev_chain_lele ?_ ?_ ?_)
  | (refine' et_r ?_) | (refine' et_b ?_) | (refine' et_not ?_) | (refine' et_and ?_ fun _ => ?_) | (refine' et_or ?_ fun _ => ?_)
  | (refine' ev_pow ?_ ?_ ⟨by decide, by decide, by decide⟩)
  | (refine' ev_t2 ?_ ?_) | (refine' ev_t3 ?_ ?_ ?_)
  | exact et_yes)

section
def wordOf (ss : List Int) (i : Nat) : Str := if ((i : Nat) : Int) ∈ ss then "source" else "place"
def placeRows (ns ss : List Int) : List RowT := ns.mapIdx fun i k => (wordOf ss i, [k])
def lineRow (l : Ln) : RowT := ("line", [l.1, l.2.1, l.2.2])
def rowsN (n : NetD) : List RowT := placeRows n.needs n.sources ++ n.lines.map lineRow
structure NetT (n : NetD) : Prop where
  n1 : n.needs.length ≤ 10
  n2 : ∀ x ∈ n.needs, 0 ≤ x ∧ x ≤ 9999999
  l1 : n.lines.length ≤ 10
  l2 : ∀ l ∈ n.lines, (0 ≤ l.1 ∧ l.1 ≤ 9999999) ∧ (0 ≤ l.2.1 ∧ l.2.1 ≤ 9999999) ∧ 0 ≤ l.2.2 ∧ l.2.2 ≤ 9999999
theorem place_at {ns ss : List Int} {i : Nat} {k : Int} (h : ns[i]? = some k) : (placeRows ns ss)[i]? = some (wordOf ss i, [k]) := by
  unfold placeRows
  rw [List.getElem?_mapIdx, h]; rfl
theorem place_len {ns ss : List Int} : (placeRows ns ss).length = ns.length := List.length_mapIdx
theorem place_mem {ns ss : List Int} {r : RowT} (h : r ∈ placeRows ns ss) : ∃ (i : Nat) (k : Int), ns[i]? = some k ∧ r = (wordOf ss i, [k]) := by
  obtain ⟨i, hi⟩ := List.getElem?_of_mem h
  unfold placeRows at hi
  rw [List.getElem?_mapIdx] at hi
  cases e : ns[i]? with
  | none => rw [e] at hi; cases hi
  | some k => rw [e] at hi; cases hi; exact ⟨i, k, e, rfl⟩
theorem word_cases (ss : List Int) (i : Nat) : wordOf ss i = "place" ∨ wordOf ss i = "source" := by
  unfold wordOf
  split
  · exact .inr rfl
  · exact .inl rfl
theorem rowsN_ok {n : NetD} (t : NetT n) : ∀ r ∈ rowsN n, RowOk r := fun r hr => by
  rcases List.mem_append.mp hr with h | h
  · obtain ⟨i, k, hk, rfl⟩ := place_mem h
    have z := t.n2 k (List.mem_of_getElem? hk)
    refine ⟨?_, fun x hx => by rw [List.mem_singleton.mp hx]; exact z⟩
    rcases word_cases n.sources i with e | e
    · exact .inl ⟨e, rfl⟩
    · exact .inr (.inl ⟨e, rfl⟩)
  · obtain ⟨l, hl, rfl⟩ := List.mem_map.mp h
    obtain ⟨a, b, c⟩ := t.l2 l hl
    refine ⟨.inr (.inr ⟨rfl, rfl⟩), fun x hx => ?_⟩
    rcases List.mem_cons.mp hx with e | hx
    · rw [e]; exact a
    rcases List.mem_cons.mp hx with e | hx
    · rw [e]; exact b
    · rw [List.mem_singleton.mp hx]; exact c
theorem rowsN_len {n : NetD} (t : NetT n) : (rowsN n).length ≤ 20 := by
  have := t.n1
  have := t.l1
  unfold rowsN
  rw [List.length_append, place_len, List.length_map]
  omega
theorem sum_rows {rs : List RowT} (h : ∀ r ∈ rs, RowOk r) : ((rs.map rowS).map (·.length)).sum ≤ rs.length * 31 := by
  have b := sum_le (xs := (rs.map rowS).map (·.length)) (m := 31) fun x hx => by
    rw [List.map_map] at hx
    obtain ⟨r, hr, rfl⟩ := List.mem_map.mp hx
    exact row_len (h r hr)
  rw [List.length_map, List.length_map] at b
  exact b
theorem nl_len : ("\n" : Str).length = 1 := by decide +kernel
end
end Q

namespace Q
open PySem L2
local macro_rules | `(tactic| walk_at "up") => do
  let l := Lean.mkIdent `l
  let mut ts : Array (Lean.TSyntax `tactic) := #[]
  for i in [1, 2, 3, 4, 5, 6, 7, 8, 9, 10, 11, 12, 13, 14, 15, 16] do
    let h := Lean.mkIdent (Lean.Name.mkSimple s!"h{i}")
    ts := ts.push (← `(tactic| try replace $h:ident := Rp.up (Le.ex $l) $h))
    ts := ts.push (← `(tactic| try replace $h:ident := Rp.up (Wk.ex $l) $h))
    ts := ts.push (← `(tactic| try replace $h:ident := Rp.up (Kp.ex $l) $h))
  for i in [1, 2, 3, 4] do
    let h := Lean.mkIdent (Lean.Name.mkSimple s!"o{i}")
    ts := ts.push (← `(tactic| try replace $h:ident := OwnL.up $l $h))
    ts := ts.push (← `(tactic| try replace $h:ident := OwnD.up $l $h))
  `(tactic| ($[$ts:tactic];*))
local macro_rules | `(tactic| walk_at "cm") => `(tactic| first | exact Or.inl ⟨by omega, by omega⟩ | exact Or.inr ⟨by omega, by omega⟩)
local macro_rules | `(tactic| walk_at "ev") => `(tactic| repeat' first
  | exact ev_var rfl (by first | assumption | rfl)
  | exact ev_int | exact ev_bl | exact ev_str | exact ev_non
  | (refine' ev_addA ?_ ?_) | (refine' ev_sub ?_ ?_)
  | (refine' ev_mulA ?_ ?_ ?_; rotate_left 2; walk_at "cm")
  | (refine' ev_mod ?_ ?_ ?_; rotate_left 2; omega)
  | (refine' ev_lt ?_ ?_) | (refine' ev_le ?_ ?_) | (refine' ev_gt ?_ ?_) | (refine' ev_ge ?_ ?_)
  | (refine' ev_lenA ?_) | (refine' ev_in ?_ ?_) | (refine' ev_nin ?_ ?_)
  | (refine' ev_jx0 ?_) | (refine' ev_jx1 ?_) | (refine' ev_jx2 ?_) | (refine' ev_ix0 ?_) | (refine' ev_ix1 ?_)
  | (refine ev_chain_lelt ?_ ?_ ?_) | (refine ev_chain_lele ?_ ?_ ?_)
  | (refine' et_r ?_) | (refine' et_b ?_) | (refine' et_not ?_) | (refine' et_and ?_ fun _ => ?_) | (refine' et_or ?_ fun _ => ?_)
  | (refine' ev_pow ?_ ?_ ⟨by decide, by decide, by decide⟩)
  | (refine' ev_t2 ?_ ?_) | (refine' ev_t3 ?_ ?_ ?_)
  | exact et_yes)

section
/-! the odd rows -/
structure KgAll (K : PySem.W.Frag) (w : World) (D : Addr) : Prop where
  k0 : KGet K w D "place" ((some 1 : Option Int).map V.int)
  k1 : KGet K w D "source" ((some 1 : Option Int).map V.int)
  k2 : KGet K w D "line" ((some 3 : Option Int).map V.int)
  k3 : KGet K w D "" ((none : Option Int).map V.int)
  k4 : KGet K w D "Place" ((none : Option Int).map V.int)
  k5 : KGet K w D "lines" ((none : Option Int).map V.int)
  k6 : KGet K w D "roof" ((none : Option Int).map V.int)
section
variable {K : PySem.W.Frag} {w : World} {D : Addr}
def oddA : List Str := ["", "place", "place 1 2", "place 01", "place -1", "place x", "place  1", "place 1 ", " place 1", "Place 1"]
def oddB : List Str := ["source", "source 10000000", "line", "line 0 1", "line 0 1 2 3", "line 0 1 -2", "line 0 01 2"]
def oddC : List Str := ["line 0 1  2", "lines 0 1 2", "place +1", "line 0 1 2 ", "roof 1"]
theorem odd_0 {rs : List RowT} (k : KgAll K w D) : BadRow K w D rs "" := ⟨"", [], none, by decide +kernel, k.k3, by decide, by decide +kernel, .inl (by decide +kernel)⟩
theorem odd_1 {rs : List RowT} (k : KgAll K w D) : BadRow K w D rs "place" := ⟨"place", [], some 1, by decide +kernel, k.k0, by decide, by decide +kernel, .inl (by decide +kernel)⟩
theorem odd_2 {rs : List RowT} (k : KgAll K w D) : BadRow K w D rs "place 1 2" := ⟨"place", ["1", "2"], some 1, by decide +kernel, k.k0, by decide, by decide +kernel, .inl (by decide +kernel)⟩
theorem odd_3 {rs : List RowT} (k : KgAll K w D) : BadRow K w D rs "place 01" := ⟨"place", ["01"], some 1, by decide +kernel, k.k0, by decide, by decide +kernel, .inl (by decide +kernel)⟩
theorem odd_4 {rs : List RowT} (k : KgAll K w D) : BadRow K w D rs "place -1" := ⟨"place", ["-1"], some 1, by decide +kernel, k.k0, by decide, by decide +kernel, .inl (by decide +kernel)⟩
theorem odd_5 {rs : List RowT} (k : KgAll K w D) : BadRow K w D rs "place x" := ⟨"place", ["x"], some 1, by decide +kernel, k.k0, by decide, by decide +kernel, .inl (by decide +kernel)⟩
theorem odd_6 {rs : List RowT} (k : KgAll K w D) : BadRow K w D rs "place  1" := ⟨"place", ["", "1"], some 1, by decide +kernel, k.k0, by decide, by decide +kernel, .inl (by decide +kernel)⟩
theorem odd_7 {rs : List RowT} (k : KgAll K w D) : BadRow K w D rs "place 1 " := ⟨"place", ["1", ""], some 1, by decide +kernel, k.k0, by decide, by decide +kernel, .inl (by decide +kernel)⟩
theorem odd_8 {rs : List RowT} (k : KgAll K w D) : BadRow K w D rs " place 1" := ⟨"", ["place", "1"], none, by decide +kernel, k.k3, by decide, by decide +kernel, .inl (by decide +kernel)⟩
theorem odd_9 {rs : List RowT} (k : KgAll K w D) : BadRow K w D rs "Place 1" := ⟨"Place", ["1"], none, by decide +kernel, k.k4, by decide, by decide +kernel, .inl (by decide +kernel)⟩
theorem odd_10 {rs : List RowT} (k : KgAll K w D) : BadRow K w D rs "source" := ⟨"source", [], some 1, by decide +kernel, k.k1, by decide, by decide +kernel, .inl (by decide +kernel)⟩
theorem odd_11 {rs : List RowT} (k : KgAll K w D) : BadRow K w D rs "source 10000000" := ⟨"source", ["10000000"], some 1, by decide +kernel, k.k1, by decide, by decide +kernel, .inl (by decide +kernel)⟩
theorem odd_12 {rs : List RowT} (k : KgAll K w D) : BadRow K w D rs "line" := ⟨"line", [], some 3, by decide +kernel, k.k2, by decide, by decide +kernel, .inl (by decide +kernel)⟩
theorem odd_13 {rs : List RowT} (k : KgAll K w D) : BadRow K w D rs "line 0 1" := ⟨"line", ["0", "1"], some 3, by decide +kernel, k.k2, by decide, by decide +kernel, .inl (by decide +kernel)⟩
theorem odd_14 {rs : List RowT} (k : KgAll K w D) : BadRow K w D rs "line 0 1 2 3" := ⟨"line", ["0", "1", "2", "3"], some 3, by decide +kernel, k.k2, by decide, by decide +kernel, .inl (by decide +kernel)⟩
theorem odd_15 {rs : List RowT} (k : KgAll K w D) : BadRow K w D rs "line 0 1 -2" := ⟨"line", ["0", "1", "-2"], some 3, by decide +kernel, k.k2, by decide, by decide +kernel, .inl (by decide +kernel)⟩
theorem odd_16 {rs : List RowT} (k : KgAll K w D) : BadRow K w D rs "line 0 01 2" := ⟨"line", ["0", "01", "2"], some 3, by decide +kernel, k.k2, by decide, by decide +kernel, .inl (by decide +kernel)⟩
theorem odd_17 {rs : List RowT} (k : KgAll K w D) : BadRow K w D rs "line 0 1  2" := ⟨"line", ["0", "1", "", "2"], some 3, by decide +kernel, k.k2, by decide, by decide +kernel, .inl (by decide +kernel)⟩
theorem odd_18 {rs : List RowT} (k : KgAll K w D) : BadRow K w D rs "lines 0 1 2" := ⟨"lines", ["0", "1", "2"], none, by decide +kernel, k.k5, by decide, by decide +kernel, .inl (by decide +kernel)⟩
theorem odd_19 {rs : List RowT} (k : KgAll K w D) : BadRow K w D rs "place +1" := ⟨"place", ["+1"], some 1, by decide +kernel, k.k0, by decide, by decide +kernel, .inl (by decide +kernel)⟩
theorem odd_20 {rs : List RowT} (k : KgAll K w D) : BadRow K w D rs "line 0 1 2 " := ⟨"line", ["0", "1", "2", ""], some 3, by decide +kernel, k.k2, by decide, by decide +kernel, .inl (by decide +kernel)⟩
theorem odd_21 {rs : List RowT} (k : KgAll K w D) : BadRow K w D rs "roof 1" := ⟨"roof", ["1"], none, by decide +kernel, k.k6, by decide, by decide +kernel, .inl (by decide +kernel)⟩
theorem odd_bad {rs : List RowT} (k : KgAll K w D) : ∀ y ∈ oddA ++ oddB ++ oddC, BadRow K w D rs y := fun y hy => by
  simp only [oddA, oddB, oddC, List.cons_append, List.nil_append, List.mem_cons, List.not_mem_nil, or_false] at hy
  rcases hy with e | e | e | e | e | e | e | e | e | e | e | e | e | e | e | e | e | e | e | e | e | e <;> subst e
  · exact odd_0 k
  · exact odd_1 k
  · exact odd_2 k
  · exact odd_3 k
  · exact odd_4 k
  · exact odd_5 k
  · exact odd_6 k
  · exact odd_7 k
  · exact odd_8 k
  · exact odd_9 k
  · exact odd_10 k
  · exact odd_11 k
  · exact odd_12 k
  · exact odd_13 k
  · exact odd_14 k
  · exact odd_15 k
  · exact odd_16 k
  · exact odd_17 k
  · exact odd_18 k
  · exact odd_19 k
  · exact odd_20 k
  · exact odd_21 k
theorem odd_free : ∀ y ∈ oddA ++ oddB ++ oddC, 10 ∉ TL.tl y ∧ y.length ≤ 1000 := by decide +kernel
end
theorem odd_len : (oddA ++ oddB ++ oddC).length = 22 := rfl
/-! what well-made rows tell -/
def srcU (ss : List Int) : Nat → List Int
  | 0 => []
  | i + 1 => srcU ss i ++ if ((i : Nat) : Int) ∈ ss then [((i : Nat) : Int)] else []
theorem srcU_succ (ss : List Int) (i : Nat) : srcU ss (i + 1) = srcU ss i ++ if ((i : Nat) : Int) ∈ ss then [((i : Nat) : Int)] else [] := rfl
theorem mem_srcU {ss : List Int} {x : Int} : ∀ {i : Nat}, x ∈ srcU ss i ↔ x ∈ ss ∧ 0 ≤ x ∧ x < (i : Int)
  | 0 => by
    constructor
    · intro h; cases h
    · rintro ⟨_, h1, h2⟩; omega
  | i + 1 => by
    unfold srcU
    rw [List.mem_append, mem_srcU (i := i)]
    constructor
    · rintro (⟨a, b, c⟩ | h)
      · exact ⟨a, b, by omega⟩
      · by_cases e : ((i : Nat) : Int) ∈ ss
        · rw [if_pos e] at h
          rw [List.mem_singleton.mp h]
          exact ⟨e, by omega, by omega⟩
        · rw [if_neg e] at h; cases h
    · rintro ⟨a, b, c⟩
      by_cases e : x = ((i : Nat) : Int)
      · subst e
        exact .inr (by rw [if_pos a]; exact List.mem_singleton.mpr rfl)
      · exact .inl ⟨a, b, by omega⟩
theorem srcU_nd (ss : List Int) : ∀ i, (srcU ss i).Nodup
  | 0 => List.nodup_nil
  | i + 1 => by
    unfold srcU
    refine List.nodup_append.mpr ⟨srcU_nd ss i, by split <;> simp, fun a ha b hb e => ?_⟩
    by_cases z : ((i : Nat) : Int) ∈ ss
    · rw [if_pos z] at hb
      rw [List.mem_singleton.mp hb] at e
      have := (mem_srcU.mp ha).2.2
      omega
    · rw [if_neg z] at hb; cases hb
theorem seq_nil : SeqOk [] := fun m r h => by cases h
theorem seq_snoc {rs : List RowT} {r : RowT} (h : SeqOk rs) (hr : r.1 ≠ ("line" : Str) → (parseR rs).2.2 = []) : SeqOk (rs ++ [r]) := fun m r' h1 h2 => by
  by_cases c : m < rs.length
  · rw [List.getElem?_append_left c] at h1
    rw [List.take_append_of_le_length (Nat.le_of_lt c)]
    exact h m r' h1 h2
  · rw [List.getElem?_append_right (by omega)] at h1
    have e : m - rs.length = 0 := by
      have := (List.getElem?_eq_some_iff.mp h1).1
      simp at this; omega
    rw [e] at h1
    cases h1
    have em : m = rs.length := by omega
    rw [em, List.take_left]
    exact hr h2
theorem seq_take {rs : List RowT} (h : SeqOk rs) (k : Nat) : SeqOk (rs.take k) := fun m r h1 h2 => by
  have lt : m < k := by
    have := (List.getElem?_eq_some_iff.mp h1).1
    rw [List.length_take] at this
    omega
  rw [List.getElem?_take, if_pos lt] at h1
  rw [List.take_take, Nat.min_eq_left (Nat.le_of_lt lt)]
  exact h m r h1 h2
theorem word_ne (ss : List Int) (i : Nat) : wordOf ss i ≠ ("line" : Str) := by
  rcases word_cases ss i with e | e <;> rw [e] <;> decide +kernel
theorem places_ok (ns ss : List Int) : ∀ m, m ≤ ns.length → SeqOk ((placeRows ns ss).take m) ∧ parseR ((placeRows ns ss).take m) = (ns.take m, srcU ss m, [])
  | 0, _ => ⟨by rw [List.take_zero]; exact seq_nil, by rw [List.take_zero]; rfl⟩
  | m + 1, hm => by
    obtain ⟨s, p⟩ := places_ok ns ss m (by omega)
    obtain ⟨k, hk⟩ : ∃ k, ns[m]? = some k := ⟨_, List.getElem?_eq_getElem (by omega)⟩
    have hr := place_at (ss := ss) hk
    rw [List.take_add_one, hr]
    refine ⟨seq_snoc s fun _ => by rw [p], ?_⟩
    show parseR (_ ++ [_]) = _
    rw [parse_snoc, p]
    unfold stepR
    rw [if_neg (word_ne ss m)]
    refine Prod.ext (by rw [List.take_add_one, hk]; rfl) (Prod.ext ?_ rfl)
    show (if wordOf ss m = ("source" : Str) then srcU ss m ++ [((ns.take m).length : Int)] else srcU ss m) = _
    rw [srcU_succ, List.length_take, Nat.min_eq_left (by omega)]
    by_cases c : ((m : Nat) : Int) ∈ ss
    · rw [if_pos c, if_pos (show wordOf ss m = ("source" : Str) by unfold wordOf; rw [if_pos c])]
    · rw [if_neg c, if_neg (show ¬ wordOf ss m = ("source" : Str) by unfold wordOf; rw [if_neg c]; decide +kernel), List.append_nil]
theorem places_all (ns ss : List Int) : SeqOk (placeRows ns ss) ∧ parseR (placeRows ns ss) = (ns, srcU ss ns.length, []) := by
  have h := places_ok ns ss ns.length (Nat.le_refl _)
  rw [List.take_of_length_le (by rw [place_len]; exact Nat.le_refl _), List.take_length] at h
  exact h
theorem lines_on {rs : List RowT} (s : SeqOk rs) : ∀ ls : List Ln, SeqOk (rs ++ ls.map lineRow) ∧ parseR (rs ++ ls.map lineRow) = ((parseR rs).1, (parseR rs).2.1, (parseR rs).2.2 ++ ls) := by
  intro ls
  refine snoc_ind (C := fun ls => SeqOk (rs ++ ls.map lineRow) ∧ parseR (rs ++ ls.map lineRow) = ((parseR rs).1, (parseR rs).2.1, (parseR rs).2.2 ++ ls)) ⟨by rw [List.map_nil, List.append_nil]; exact s, by rw [List.map_nil, List.append_nil, List.append_nil]⟩ (fun ls l ih => ?_) ls
  obtain ⟨a, b⟩ := ih
  rw [List.map_append, ← List.append_assoc]
  refine ⟨seq_snoc a fun h => absurd rfl h, ?_⟩
  show parseR (_ ++ [lineRow l]) = _
  rw [parse_snoc, b]
  unfold stepR
  rw [if_pos (show (lineRow l).1 = ("line" : Str) from rfl), List.append_assoc]
  rfl
theorem rows_all (n : NetD) : SeqOk (rowsN n) ∧ parseR (rowsN n) = (n.needs, srcU n.sources n.needs.length, n.lines) := by
  obtain ⟨a, b⟩ := places_all n.needs n.sources
  obtain ⟨c, d⟩ := lines_on a n.lines
  refine ⟨c, ?_⟩
  show parseR (placeRows n.needs n.sources ++ n.lines.map lineRow) = _
  rw [d, b]; rfl
/-! the first four signs -/
theorem tl_cut4 (z : Str) : TL.tl (L2.cutS z none (some 4)) = (TL.tl z).take 4 := by
  unfold L2.cutS
  rw [TL.tl_mk]
  have e1 : HT.sIx z.length 0 none = 0 := rfl
  rw [e1, List.drop_zero, Nat.sub_zero]
  have e2 : HT.sIx z.length z.length (some 4) = min 4 z.length := by
    unfold HT.sIx
    simp
  rw [e2, TL.len_tl]
  show (TL.tl z).take _ = _
  rcases Nat.le_total 4 (TL.tl z).length with h | h
  · rw [Nat.min_eq_left h]
  · rw [Nat.min_eq_right h, List.take_length, List.take_of_length_le h]
theorem cut_line {r : RowT} (h : RowOk r) : (L2.cutS (rowS r) none (some 4) = ("line" : Str)) ↔ r.1 = ("line" : Str) := by
  have e : TL.tl (rowS r) = TL.tl r.1 ++ (TL.tl (rowS r)).drop r.1.length ∧ True := by
    refine ⟨?_, trivial⟩
    unfold rowS wordsR
    rw [TL.tl_join, List.map_cons, TL.len_tl]
    cases hh : (r.2.map numS).map TL.tl with
    | nil => show TL.tl r.1 = TL.tl r.1 ++ (TL.tl r.1).drop _; rw [List.drop_length, List.append_nil]
    | cons p q =>
      show TL.tl r.1 ++ _ = TL.tl r.1 ++ (TL.tl r.1 ++ _).drop _
      rw [List.drop_left]
  have t4 : (TL.tl (rowS r)).take 4 = (TL.tl r.1).take 4 := by
    rw [e.1]
    refine List.take_append_of_le_length ?_
    rcases h.word with ⟨z, _⟩ | ⟨z, _⟩ | ⟨z, _⟩
    · rw [z, tl_place]; decide
    · rw [z, tl_source]; decide
    · rw [z, tl_line]; decide
  constructor
  · intro z
    have y := congrArg TL.tl z
    rw [tl_cut4, t4, tl_line] at y
    rcases h.word with ⟨e, _⟩ | ⟨e, _⟩ | ⟨e, _⟩
    · rw [e, tl_place] at y; exact absurd y (by decide)
    · rw [e, tl_source] at y; exact absurd y (by decide)
    · exact e
  · intro z
    apply TL.ext_tl
    rw [tl_cut4, t4, z, tl_line]; rfl
theorem filter_places {n : NetD} (t : NetT n) : ((rowsN n).map rowS).filter (fun y => !decide (L2.cutS y none (some 4) = ("line" : Str))) = (placeRows n.needs n.sources).map rowS := by
  have ok := rowsN_ok t
  unfold rowsN at ok ⊢
  rw [List.map_append, List.filter_append, List.filter_eq_self.mpr, List.filter_eq_nil_iff.mpr, List.append_nil]
  · intro y hy
    rw [List.map_map] at hy
    obtain ⟨l, hl, rfl⟩ := List.mem_map.mp hy
    have := (cut_line (ok _ (List.mem_append_right _ (List.mem_map_of_mem hl)))).mpr rfl
    show ¬ (!decide (L2.cutS (rowS (lineRow l)) none (some 4) = ("line" : Str))) = true
    rw [decide_eq_true this]; decide
  · intro y hy
    obtain ⟨r, hr, rfl⟩ := List.mem_map.mp hy
    obtain ⟨i, k, _, er⟩ := place_mem hr
    have : ¬ L2.cutS (rowS r) none (some 4) = ("line" : Str) := fun z => by
      have := (cut_line (ok _ (List.mem_append_left _ hr))).mp z
      rw [er] at this
      exact word_ne n.sources i this
    rw [decide_eq_false this]; rfl
theorem filter_lines {n : NetD} (t : NetT n) : (((rowsN n).map rowS).filter (fun y => decide (L2.cutS y none (some 4) = ("line" : Str)))).length = n.lines.length := by
  have ok := rowsN_ok t
  unfold rowsN at ok ⊢
  rw [List.map_append, List.filter_append, List.filter_eq_nil_iff.mpr, List.nil_append, List.filter_eq_self.mpr, List.length_map, List.length_map]
  · intro y hy
    rw [List.map_map] at hy
    obtain ⟨l, hl, rfl⟩ := List.mem_map.mp hy
    exact decide_eq_true ((cut_line (ok _ (List.mem_append_right _ (List.mem_map_of_mem hl)))).mpr rfl)
  · intro y hy
    obtain ⟨r, hr, rfl⟩ := List.mem_map.mp hy
    obtain ⟨i, k, _, er⟩ := place_mem hr
    have : ¬ L2.cutS (rowS r) none (some 4) = ("line" : Str) := fun z => by
      have := (cut_line (ok _ (List.mem_append_left _ hr))).mp z
      rw [er] at this
      exact word_ne n.sources i this
    rw [decide_eq_false this]; decide
theorem nb_need1 {ns ss : List Int} {ls : List Ln} {bad : Int} (ok : ∀ x ∈ ns, 0 ≤ x ∧ x ≤ 1000000) (hl : ns.length + 1 ≤ 10) (hb : ¬ (0 ≤ bad ∧ bad ≤ 1000000)) : netB (ns ++ [bad], ss, ls) = some ((ns.length : Int), ("need" : Str)) := by
  unfold netB needsB
  rw [if_pos (by simp; omega)]
  have := firstB_some (f := fun _ x => needB x) (xs := ns ++ [bad]) (i := 0) (m := ns.length) (x := bad) (w := ("need" : Str)) (fun j y hj hy => by
    rw [List.getElem?_append_left hj] at hy
    unfold needB
    rw [if_pos (ok y (List.mem_of_getElem? hy))]) (by simp) (by unfold needB; rw [if_neg hb])
  rw [Nat.zero_add] at this
  rw [this]
theorem nb_line1 {ns ss : List Int} {ls : List Ln} {x : Ln} {w : Str} (ok : NetOk ns ss ls) (hl : ls.length + 1 ≤ 10) (hx : lineB (ns.length : Int) x = some w) : netB (ns, ss, ls ++ [x]) = some ((ls.length : Int), w) := by
  unfold netB
  rw [needs_none ok.n1 ok.n2]
  dsimp only
  rw [srcs_none ok.s1 ok.s2]
  dsimp only
  unfold linesB
  rw [if_pos (by simp; omega)]
  have := firstB_some (f := fun _ l => lineB (ns.length : Int) l) (xs := ls ++ [x]) (i := 0) (m := ls.length) (x := x) (w := w) (fun j y hj hy => by
    rw [List.getElem?_append_left hj] at hy
    obtain ⟨a, b, c, d⟩ := ok.l2 y (List.mem_of_getElem? hy)
    unfold lineB
    rw [if_pos ⟨a, b, c⟩, if_pos d]) (by simp) hx
  rw [Nat.zero_add] at this
  exact this
/-! nets that are refused, as texts -/
abbrev NoneD := List Str × Int × Str
structure NoneOk (z : NoneD) : Prop where
  ex : ∃ rs, z.1 = rs.map rowS ∧ ReadB rs [] (Str.join "\n" (rs.map rowS ++ [])) ∧ netB (parseR rs) = some (z.2.1, z.2.2)
theorem none_of {rs : List RowT} {a : Int} {wy : Str} {xs : List Str} (e : xs = rs.map rowS) (ok : ∀ r ∈ rs, RowOk r) (seq : SeqOk rs) (l : rs.length ≤ 40) (ne : rs ≠ []) (nb : netB (parseR rs) = some (a, wy)) : NoneOk (xs, a, wy) :=
  ⟨rs, e, ⟨rfl, ok, seq, l, by simp, fun y hy => (nomatch hy), by simpa using ne⟩, nb⟩
theorem l012 : RowOk ("line", [0, 1, 2]) := ⟨.inr (.inr ⟨rfl, rfl⟩), by decide⟩
theorem p0 : RowOk ("place", [0]) := ⟨.inl ⟨rfl, rfl⟩, by decide⟩
theorem p1 : RowOk ("place", [1]) := ⟨.inl ⟨rfl, rfl⟩, by decide⟩
theorem rep_seq {r : RowT} (h : r.1 ≠ ("line" : Str)) : ∀ k : Nat, SeqOk (List.replicate k r) ∧ (parseR (List.replicate k r)).2.2 = []
  | 0 => ⟨seq_nil, rfl⟩
  | k + 1 => by
    obtain ⟨a, b⟩ := rep_seq h k
    rw [List.replicate_succ']
    refine ⟨seq_snoc a fun _ => b, ?_⟩
    rw [parse_snoc]
    unfold stepR
    rw [if_neg h]
    exact b
theorem none1 : NoneOk ((["line 0 1 2"] : List Str), 0, "many") := none_of (rs := [(("line" : Str), [(0 : Int), 1, 2])]) (by decide +kernel) (fun r hr => by rw [List.mem_singleton.mp hr]; exact l012) (seq_snoc (rs := []) seq_nil fun h => absurd rfl h) (by decide) (by simp) (by decide +kernel)
theorem none2 : NoneOk (List.replicate 11 ("place 0" : Str), 0, "many") := none_of (rs := List.replicate 11 (("place" : Str), [(0 : Int)])) (by decide +kernel) (fun r hr => by rw [(List.mem_replicate.mp hr).2]; exact p0) (rep_seq (by decide +kernel) 11).1 (by decide) (by decide) (by decide +kernel)
theorem two_ok : ∀ r ∈ [(("place" : Str), [(0 : Int)]), ("place", [1])], RowOk r := fun r hr => by
  rcases List.mem_cons.mp hr with e | e
  · rw [e]; exact p0
  · rw [List.mem_singleton.mp e]; exact p1
theorem two_seq : SeqOk [(("place" : Str), [(0 : Int)]), ("place", [1])] := seq_snoc (rs := [(("place" : Str), [(0 : Int)])]) (seq_snoc (rs := []) seq_nil fun _ => rfl) fun _ => by decide +kernel
theorem none6 : NoneOk ((["place 0", "place 1"] : List Str) ++ List.replicate 11 ("line 0 1 2" : Str), 0, "lines") := none_of (rs := [(("place" : Str), [(0 : Int)]), ("place", [1])] ++ (List.replicate 11 ((0, 1, 2) : Ln)).map lineRow) (by decide +kernel) (fun r hr => by
  rcases List.mem_append.mp hr with h | h
  · exact two_ok r h
  · obtain ⟨l, hl, rfl⟩ := List.mem_map.mp h
    rw [(List.mem_replicate.mp hl).2]; exact l012) (lines_on two_seq _).1 (by decide) (by simp) (by decide +kernel)
theorem none7 : NoneOk ((["place 0", "place 1", "line 0 1 2", "line 1 0 9999999"] : List Str), 1, "limit") := none_of (rs := [(("place" : Str), [(0 : Int)]), ("place", [1])] ++ ([(0, 1, 2), (1, 0, 9999999)] : List Ln).map lineRow) (by decide +kernel) (fun r hr => by
  rcases List.mem_append.mp hr with h | h
  · exact two_ok r h
  · obtain ⟨l, hl, rfl⟩ := List.mem_map.mp h
    refine ⟨.inr (.inr ⟨rfl, rfl⟩), ?_⟩
    rcases List.mem_cons.mp hl with e | e
    · rw [e]; decide
    · rw [List.mem_singleton.mp e]; decide) (lines_on two_seq _).1 (by decide) (by simp) (by decide +kernel)
section
variable {n : Rows} (ok : NetOk n.1 n.2.1 n.2.2) (t : NetT (netM n))
theorem src_ok (ok : NetOk n.1 n.2.1 n.2.2) : (srcU (srt n.2.1) n.1.length).Nodup ∧ ∀ x ∈ srcU (srt n.2.1) n.1.length, 0 ≤ x ∧ x < (n.1.length : Int) := ⟨srcU_nd _ _, fun x hx => (mem_srcU.mp hx).2⟩
theorem rowS_need : rowS ("place", [1000001]) = ("place 1000001" : Str) := by decide +kernel
theorem none3 (ok : NetOk n.1 n.2.1 n.2.2) (t : NetT (netM n)) (l8 : n.1.length ≤ 9) : NoneOk ((placeRows n.1 (srt n.2.1)).map rowS ++ [("place 1000001" : Str)], (((placeRows n.1 (srt n.2.1)).map rowS).length : Int), "need") := by
  obtain ⟨sq, pr⟩ := places_all n.1 (srt n.2.1)
  refine none_of (rs := placeRows n.1 (srt n.2.1) ++ [((("place" : Str), [1000001]) : RowT)]) (by rw [List.map_append, List.map_cons, List.map_nil, rowS_need]) (fun r hr => ?_) (seq_snoc sq fun _ => by rw [pr]) (by rw [List.length_append, place_len]; simp; omega) (by simp) ?_
  · rcases List.mem_append.mp hr with h | h
    · exact rowsN_ok t r (List.mem_append_left _ h)
    · rw [List.mem_singleton.mp h]; exact ⟨.inl ⟨rfl, rfl⟩, by decide⟩
  · rw [parse_snoc, pr]
    unfold stepR
    rw [if_neg (show ¬ (("place" : Str) = "line") by decide +kernel), if_neg (show ¬ (("place" : Str) = "source") by decide +kernel), List.length_map, place_len]
    exact nb_need1 ok.n2 (by show n.1.length + 1 ≤ 10; omega) (by decide)
theorem none45 (ok : NetOk n.1 n.2.1 n.2.2) (t : NetT (netM n)) (l9 : n.2.2.length ≤ 9) {x : Ln} {y : Str} (hy : rowS (lineRow x) = y) (ro : RowOk (lineRow x)) (hx : lineB (n.1.length : Int) x = some ("place" : Str)) {k : Nat} (hk : k = n.2.2.length) : NoneOk ((rowsN (netM n)).map rowS ++ [y], (k : Int), "place") := by
  obtain ⟨sq, pr⟩ := rows_all (netM n)
  have rl := rowsN_len t
  refine none_of (rs := rowsN (netM n) ++ [lineRow x]) (by rw [List.map_append, List.map_cons, List.map_nil, hy]) (fun r hr => ?_) (seq_snoc sq fun h => absurd rfl h) (by rw [List.length_append]; simp; omega) (by simp) ?_
  · rcases List.mem_append.mp hr with h | h
    · exact rowsN_ok t r h
    · rw [List.mem_singleton.mp h]; exact ro
  · rw [parse_snoc, pr]
    unfold stepR
    rw [if_pos (show (lineRow x).1 = ("line" : Str) from rfl), hk]
    have z := src_ok ok
    exact nb_line1 ⟨ok.n1, ok.n2, z.1, z.2, ok.l1, ok.l2⟩ (by show n.2.2.length + 1 ≤ 10; omega) hx
theorem none4 (ok : NetOk n.1 n.2.1 n.2.2) (t : NetT (netM n)) (l9 : n.2.2.length ≤ 9) {k : Nat} (hk : k = n.2.2.length) : NoneOk ((rowsN (netM n)).map rowS ++ [("line 0 0 2" : Str)], (k : Int), "place") := none45 ok t l9 (x := (0, 0, 2)) (by decide +kernel) ⟨.inr (.inr ⟨rfl, rfl⟩), by decide⟩ (by unfold lineB; rw [if_neg fun h => h.2.2 rfl]) hk
theorem none5 (ok : NetOk n.1 n.2.1 n.2.2) (t : NetT (netM n)) (l9 : n.2.2.length ≤ 9) {k : Nat} (hk : k = n.2.2.length) : NoneOk ((rowsN (netM n)).map rowS ++ [("line 0 99 2" : Str)], (k : Int), "place") := none45 ok t l9 (x := (0, 99, 2)) (by decide +kernel) ⟨.inr (.inr ⟨rfl, rfl⟩), by decide⟩ (by
  unfold lineB
  rw [if_neg]
  rintro ⟨_, ⟨_, h⟩, _⟩
  have := ok.n1.2
  have h : (99 : Int) < (n.1.length : Int) := h
  omega) hk
end
end
end Q

namespace Q
open PySem L2
local macro_rules | `(tactic| walk_at "up") => do
  let l := Lean.mkIdent `l
  let mut ts : Array (Lean.TSyntax `tactic) := #[]
  for i in [1, 2, 3, 4, 5, 6, 7, 8, 9, 10, 11, 12, 13, 14, 15, 16] do
    let h := Lean.mkIdent (Lean.Name.mkSimple s!"h{i}")
    ts := ts.push (← `(tactic| try replace $h:ident := Rp.up (Le.ex $l) $h))
    ts := ts.push (← `(tactic| try replace $h:ident := Rp.up (Wk.ex $l) $h))
    ts := ts.push (← `(tactic| try replace $h:ident := Rp.up (Kp.ex $l) $h))
  for i in [1, 2, 3, 4] do
    let h := Lean.mkIdent (Lean.Name.mkSimple s!"o{i}")
    ts := ts.push (← `(tactic| try replace $h:ident := OwnL.up $l $h))
    ts := ts.push (← `(tactic| try replace $h:ident := OwnD.up $l $h))
  `(tactic| ($[$ts:tactic];*))
local macro_rules | `(tactic| walk_at "cm") => `(tactic| first | exact Or.inl ⟨by omega, by omega⟩ | exact Or.inr ⟨by omega, by omega⟩)
local macro_rules | `(tactic| walk_at "ev") => `(tactic| repeat' first
  | exact ev_var rfl (by first | assumption | rfl)
  | exact ev_int | exact ev_bl | exact ev_str | exact ev_non
  | (refine' ev_addA ?_ ?_) | (refine' ev_sub ?_ ?_)
  | (refine' ev_mulA ?_ ?_ ?_; rotate_left 2; walk_at "cm")
  | (refine' ev_mod ?_ ?_ ?_; rotate_left 2; omega)
  | (refine' ev_lt ?_ ?_) | (refine' ev_le ?_ ?_) | (refine' ev_gt ?_ ?_) | (refine' ev_ge ?_ ?_)
  | (refine' ev_lenA ?_) | (refine' ev_in ?_ ?_) | (refine' ev_nin ?_ ?_)
  | (refine' ev_jx0 ?_) | (refine' ev_jx1 ?_) | (refine' ev_jx2 ?_) | (refine' ev_ix0 ?_) | (refine' ev_ix1 ?_)
  | (refine ev_chain_lelt ?_ ?_ ?_) | (refine ev_chain_lele ?_ ?_ ?_)
  | (refine' et_r ?_) | (refine' et_b ?_) | (refine' et_not ?_) | (refine' et_and ?_ fun _ => ?_) | (refine' et_or ?_ fun _ => ?_)
  | (refine' ev_pow ?_ ?_ ⟨by decide, by decide, by decide⟩)
  | (refine' ev_t2 ?_ ?_) | (refine' ev_t3 ?_ ?_ ?_)
  | exact et_yes)

section
variable {F : Fr} {K : PySem.W.Frag} {σ : L2.St} {W : Wd F} {ta : TE}
theorem t3_tup {G : Hp} {v : V} {x : Ln} (h : rLine.rel G v x) : (rTup rInt).rel G v [x.1, x.2.1, x.2.2] := by
  obtain ⟨a, u1, u2, u3, rfl, h1, h2, h3, h4⟩ := h
  exact ⟨a, [u1, u2, u3], rfl, h1, All2.cons h2 (All2.cons h3 (All2.one h4))⟩
theorem word_srt {ss : List Int} {i : Nat} : wordOf (srt ss) i = wordOf ss i := by
  unfold wordOf
  by_cases h : ((i : Nat) : Int) ∈ ss
  · rw [if_pos h, if_pos (srt_mem.mpr h)]
  · rw [if_neg h, if_neg fun z => h (srt_mem.mp z)]
theorem three_sum {l : Ln} (t : (0 ≤ l.1 ∧ l.1 ≤ 9999999) ∧ (0 ≤ l.2.1 ∧ l.2.1 ≤ 9999999) ∧ 0 ≤ l.2.2 ∧ l.2.2 ≤ 9999999) : (([numS l.1, numS l.2.1, numS l.2.2].map (·.length)).sum) ≤ 21 := by
  have := (numS_len t.1.1 t.1.2).2
  have := (numS_len t.2.1.1 t.2.1.2).2
  have := (numS_len t.2.2.1 t.2.2.2).2
  simp only [List.map_cons, List.map_nil, List.sum_cons, List.sum_nil]
  omega
theorem sp_len : (" " : Str).length = 1 := by decide +kernel
theorem three_len {l : Ln} (t : (0 ≤ l.1 ∧ l.1 ≤ 9999999) ∧ (0 ≤ l.2.1 ∧ l.2.1 ≤ 9999999) ∧ 0 ≤ l.2.2 ∧ l.2.2 ≤ 9999999) : (([numS l.1, numS l.2.1, numS l.2.2].map (·.length)).sum) + [numS l.1, numS l.2.1, numS l.2.2].length * (" " : Str).length ≤ 16777216 := by
  have := three_sum t
  rw [sp_len, show [numS l.1, numS l.2.1, numS l.2.2].length = 3 from rfl]
  omega
theorem three_cat {l : Ln} (t : (0 ≤ l.1 ∧ l.1 ≤ 9999999) ∧ (0 ≤ l.2.1 ∧ l.2.1 ≤ 9999999) ∧ 0 ≤ l.2.2 ∧ l.2.2 ≤ 9999999) : ("line " : Str).length + (Str.join " " [numS l.1, numS l.2.1, numS l.2.2]).length ≤ 100000 := by
  have a := three_sum t
  have b := len_join " " [numS l.1, numS l.2.1, numS l.2.2]
  rw [sp_len, show [numS l.1, numS l.2.1, numS l.2.2].length = 3 from rfl] at b
  rw [show ("line " : Str).length = 5 by decide +kernel]
  omega
variable {P : Program} {w : World} {mg : Str → Option Value} {base : Heap}
theorem ok_ltext (T : Txt K mg) : FnOk P w K mg base CX0 1 T.d_text.f T.d_text.fd ["_law_net_here"] (Fn1 rRows (rList rStr) (fun n => NetT (netM n)) (fun n => (rowsN (netM n)).map rowS)) := by
  refine T.d_text.F.ok sc_d_text (fun vs H Q E h => ?_) (fun cdv A outer s H vs Q E hr h => ?_)
  · obtain ⟨G, v, x, rfl, _⟩ := h; rfl
  · obtain ⟨G, v, n, rfl, gh, h1, t, k⟩ := h
    have hu := hu_of hr
    refine ⟨_, (pss_cons (ps_set (i := 1) sc_d_text.nd rfl (.inl rfl) (pe_lst pa_nil))
      (pss_cons (ps_for PassesOwn.never rfl (pi_range1 (by rfl) T.z_range (pa_cons (pe_callB (kLen K) (by rfl) T.z_len PySem.boot_len (pa_cons (pe_ix (kIx K) (pv 0) pe_int (fun _ _ => rfl)) pa_nil)) pa_nil)) (pg_name (i := 2) sc_d_text.nd rfl (.inl rfl)) (pss_one (ps_expr (kBm K PySem.F.plainAttrs_list PySem.F.slot_list_append PySem.F.type_list_append mt_append (pv 1) (pa_cons (pe_op op_addA (pe_ix (kIx K) (pe_lst (pa_cons pe_str (pa_cons pe_str pa_nil))) (pe_callTy call_int1 (by rfl) T.z_int PyProof.Rows.boot_int (pa_cons (pe_cmpR (kIn K) (pv 2) (pe_ix (kIx K) (pv 0) pe_int (fun _ _ => rfl)) (by rfl)) pa_nil)) (fun _ _ => rfl)) (pe_callTy kStrI (by rfl) T.z_str PyProof.Rows.boot_str (pa_cons (pe_ix (kIx K) (pe_ix (kIx K) (pv 0) pe_int (fun _ _ => rfl)) (pv 2) (fun _ _ => rfl)) pa_nil))) pa_nil)))))
      (pss_one (ps_ret (pe_op op_addA (pv 1) (pe_lc (own := [("_law_line", 3)]) (g := gName 3) (by rfl) sc_d_text.nd  (kPiList K (pe_ix (kIx K) (pv 0) pe_int (fun _ _ => rfl))) (blkOk_by (N := n_d_text) (sc := defScope s_d_text) (by decide +kernel)) (fun _ _ _ _ _ => (pg_name (i := 3) sc_d_text.nd rfl (.inl rfl))) (fun _ _ _ _ _ => pts_nil) (fun _ _ _ _ _ => (pe_op op_addA pe_str (kJoinS K pe_str (pe_lc (own := [("_law_number", 4)]) (g := gName 4) (by rfl) sc_d_text.nd  (kPiTup K (pv 3)) (blkOk_by (N := n_d_text) (sc := retScA s_d_text) (by decide +kernel)) (fun _ _ _ _ _ => (pg_name (i := 4) sc_d_text.nd rfl (.inl rfl))) (fun _ _ _ _ _ => pts_nil) (fun _ _ _ _ _ => (pe_callTy kStrI (by rfl) T.z_str PyProof.Rows.boot_str (pa_cons (pv 4) pa_nil))))))))))))), ?_⟩
    refine q_asgO (W := Wd.in G H gh) (r := rStr) (xs := []) (eo_lst el_nil (Nat.zero_le _)) fun p W l f1 o1 => ?_
    walk_at "up"
    clear l
    refine q_forR (W := W) (n := ((n.1.length : Nat) : Int)) (ev_lenA (r := rInt) (ev_jx0 (ev_var rfl h1))) ⟨by omega, by have := t.n1; show ((n.1.length : Nat) : Int) ≤ _; have : n.1.length ≤ 10 := this; omega⟩ fun W l => ?_
    walk_at "up"
    clear l
    refine ⟨fun m σ W => ∃ k2 : Option V, σ = [some v, some (.ref p), k2, none, none] ∧ OwnL W p rStr (((placeRows n.1 (srt n.2.1)).take m).map rowS), ⟨none, rfl, o1⟩, ?_, ?_⟩
    · clear o1
      rintro m σ W lw hi ⟨k2, rfl, o1⟩
      refine g_name ?_
      replace h1 := Rp.up lw.ex h1
      have ml : m < n.1.length := by omega
      obtain ⟨x, hm⟩ : ∃ x, n.1[m]? = some x := ⟨_, List.getElem?_eq_getElem ml⟩
      have z := t.n2 x (List.mem_of_getElem? hm)
      have hr := place_at (ss := srt n.2.1) hm
      have nl := (numS_len z.1 z.2).2
      refine s_app (W := W) (x := rowS (wordOf (srt n.2.1) m, [x])) rfl o1 (EvR.is (ev_catS (a := if decide (((m : Nat) : Int) ∈ n.2.1) then ("source " : Str) else "place ") (ev_pick2 (r := rStr) ev_str ev_str (ev_in (ev_var rfl rfl) (ev_jx1 (ev_var rfl h1)))) (ev_strI (i := x) (ev_ixL (ev_jx0 (ev_var rfl h1)) (ev_var rfl rfl) ⟨by omega, by simpa using hm⟩) (by omega)) (by
        have : (if decide (((m : Nat) : Int) ∈ n.2.1) then ("source " : Str) else "place ").length ≤ 10 := by split <;> decide +kernel
        omega)) ?_) (by rw [List.length_map, List.length_take, place_len]; have : n.1.length ≤ 10 := t.n1; omega) fun W4 kp o2 => ?_
      · rw [word_srt]
        unfold wordOf
        by_cases c : ((m : Nat) : Int) ∈ n.2.1
        · rw [if_pos c, if_pos (decide_eq_true c)]; exact law_source x
        · rw [if_neg c, if_neg (by simpa using c)]; exact law_place x
      refine ⟨W4, rfl, ⟨lw.ex.trans kp.ex⟩, _, rfl, ?_⟩
      rw [List.take_add_one, hr, List.map_append]
      exact o2
    · clear o1
      rintro σ W l ⟨k2, rfl, o1⟩
      walk_at "up"
      clear l
      rw [show ((n.1.length : Nat) : Int).toNat = (placeRows n.1 (srt n.2.1)).length by rw [place_len]; rfl, List.take_length] at o1
      obtain ⟨W2, e2, kp2, h9⟩ := o1.fz
      replace h1 := Rp.up kp2.ex h1
      rw [← e2]
      have lt : ∀ l ∈ n.2.2, (0 ≤ l.1 ∧ l.1 ≤ 9999999) ∧ (0 ≤ l.2.1 ∧ l.2.1 ≤ 9999999) ∧ 0 ≤ l.2.2 ∧ l.2.2 ≤ 9999999 := t.l2
      have n10 : n.1.length ≤ 10 := t.n1
      have l10 : n.2.2.length ≤ 10 := t.l1
      have sl : (" " : Str).length = 1 := by decide +kernel
      exact s_ret (W := W2) (r := rList rStr) (x := (rowsN (netM n)).map rowS) (EvR.is (EvO.fz (eo_catA (ev_var rfl h9) (EvO.fz (eo_lcL (r := rLine) (s := rStr) (fun _ => true) (fun l => rowS (lineRow l)) (ev_jx2 (ev_var rfl h1)) (by omega) (fun _ => rfl) (fun i x v W1 l1 hi e => et_yes) (fun i x v W1 l1 hi e _ => EvR.is (ev_catS (a := "line ") (b := Str.join " " [numS x.1, numS x.2.1, numS x.2.2]) ev_str (ev_join ev_str (EvO.fz (EvO.is (eo_lcT (r := rInt) (s := rStr) (xs := [x.1, x.2.1, x.2.2]) (fun _ => true) numS (ev_var rfl (t3_tup e)) (by simp) (fun _ => rfl) (fun i y v W1 l1 hi e => et_yes) (fun j y v W1 l1 hj e _ => ev_strI (ev_var rfl e) (by
        obtain ⟨a, b, c⟩ := lt x (List.mem_of_getElem? hi)
        have : y ∈ [x.1, x.2.1, x.2.2] := List.mem_of_getElem? hj
        simp only [List.mem_cons, List.not_mem_nil, or_false] at this
        rcases this with e | e | e <;> rw [e] <;> omega))) rfl)) (three_len (lt x (List.mem_of_getElem? hi)))) (three_cat (lt x (List.mem_of_getElem? hi)))) (law_line _ _ _)))) (by
        rw [List.length_map, place_len, List.length_map]
        have := List.length_filter_le (fun _ => true) n.2.2
        omega))) (by
          show _ = (placeRows n.1 (srt n.2.1) ++ n.2.2.map lineRow).map rowS
          rw [List.filter_eq_self.mpr (fun _ _ => rfl), List.map_append, List.map_map]; rfl)) fun v W e => k v W e
end
end Q

namespace Q
open PySem L2
local macro_rules | `(tactic| walk_at "up") => do
  let l := Lean.mkIdent `l
  let mut ts : Array (Lean.TSyntax `tactic) := #[]
  for i in [1, 2, 3, 4, 5, 6, 7, 8, 9, 10, 11, 12, 13, 14, 15, 16] do
    let h := Lean.mkIdent (Lean.Name.mkSimple s!"h{i}")
    ts := ts.push (← `(tactic| try replace $h:ident := Rp.up (Le.ex $l) $h))
    ts := ts.push (← `(tactic| try replace $h:ident := Rp.up (Wk.ex $l) $h))
    ts := ts.push (← `(tactic| try replace $h:ident := Rp.up (Kp.ex $l) $h))
  for i in [1, 2, 3, 4] do
    let h := Lean.mkIdent (Lean.Name.mkSimple s!"o{i}")
    ts := ts.push (← `(tactic| try replace $h:ident := OwnL.up $l $h))
    ts := ts.push (← `(tactic| try replace $h:ident := OwnD.up $l $h))
  `(tactic| ($[$ts:tactic];*))
local macro_rules | `(tactic| walk_at "cm") => `(tactic| first | exact Or.inl ⟨by omega, by omega⟩ | exact Or.inr ⟨by omega, by omega⟩)
local macro_rules | `(tactic| walk_at "ev") => `(tactic| repeat' first
  | exact ev_var rfl (by first | assumption | rfl)
  | exact ev_int | exact ev_bl | exact ev_str | exact ev_non
  | (refine' ev_addA ?_ ?_) | (refine' ev_sub ?_ ?_)
  | (refine' ev_mulA ?_ ?_ ?_; rotate_left 2; walk_at "cm")
  | (refine' ev_mod ?_ ?_ ?_; rotate_left 2; omega)
  | (refine' ev_lt ?_ ?_) | (refine' ev_le ?_ ?_) | (refine' ev_gt ?_ ?_) | (refine' ev_ge ?_ ?_)
  | (refine' ev_lenA ?_) | (refine' ev_in ?_ ?_) | (refine' ev_nin ?_ ?_)
  | (refine' ev_jx0 ?_) | (refine' ev_jx1 ?_) | (refine' ev_jx2 ?_) | (refine' ev_ix0 ?_) | (refine' ev_ix1 ?_)
  | (refine ev_chain_lelt ?_ ?_ ?_) | (refine ev_chain_lele ?_ ?_ ?_)
  | (refine' et_r ?_) | (refine' et_b ?_) | (refine' et_not ?_) | (refine' et_and ?_ fun _ => ?_) | (refine' et_or ?_ fun _ => ?_)
  | (refine' ev_pow ?_ ?_ ⟨by decide, by decide, by decide⟩)
  | (refine' ev_t2 ?_ ?_) | (refine' ev_t3 ?_ ?_ ?_)
  | exact et_yes)

section
variable {F : Fr} {K : PySem.W.Frag} {w : World} {σ : L2.St} {W W1 : Wd F} {ta tb tc td te : TE} {α β γ : Type} {r : Rp α} {s : Rp β} {t : Rp γ} {E : XK} {D : Addr}
theorem ev_call1M {P : α → Prop} {pre : α → Prop} {f : α → β} (h : EvN te σ W r P) (hp : ∀ x, P x → pre x) : EvN (tCall (Fn1 r s pre f) [] E (tCons te tNil)) σ W s (fun y => ∃ x, P x ∧ y = f x) := fun W1 l Q q =>
  h W1 l _ fun v W2 x l2 hv hx => ⟨W2.G, v, x, rfl, W2.gh, hv, hp x hx, fun u W3 hu => q u (W2.back W3) (f x) (l2.trans (W2.back_le W3)) hu ⟨x, hx, rfl⟩⟩
theorem ev_slS {z : Str} {j : Int} (ha : EvR ta σ W rStr z) (hz : z.length ≤ 100000) : EvR (tSl rSlS ta tNoPart (tPart (tC (.int j)))) σ W rStr (L2.cutS z none (some j)) := fun W1 l Q q =>
  ha W1 l _ fun v W2 l2 hv => ⟨j, rfl, z, hv, Nat.le_trans hz (by decide), q _ W2 l2 rfl⟩
/-- a slice to the end -/
theorem eo_slF {xs : List α} {j : Int} {tlo thi : TO} (ha : EvR ta σ W (rList r) xs) (hhi : thi = tNoPart) (hb : EvR tb σ W rInt j) (hj : 0 ≤ j) (hlo : tlo = tPart tb) : EvO (tSl (rSlL K) ta tlo thi) σ W r (xs.drop j.toNat) := fun W1 l Q q => by
  subst hlo; subst hhi
  refine ha W1 l _ fun v W2 l2 hv => ?_
  refine hb W2 (l.trans l2) _ fun w W3 l3 hw => ?_
  obtain ⟨a, vs, rfl, h1, h2⟩ := hv
  refine ⟨j, hw, ⟨a, vs, rfl, sqL_of W3.gh (l3.ex _ _ h1), fun p hp => ?_⟩⟩
  have e : cutV vs (some j) none = vs.drop j.toNat := by
    unfold cutV HT.sIx
    simp only [if_neg (show ¬ j < 0 by omega)]
    rw [List.take_of_length_le (by rw [List.length_drop]; omega)]
    rw [Nat.min_def]
    split
    · rfl
    · rename_i hh
      rw [List.drop_eq_nil_of_le (Nat.le_refl _), List.drop_eq_nil_of_le (by omega)]
  rw [e]
  exact q p _ (W3.own p _ hp) ((l2.trans l3).trans (W3.own_le hp)) (le_fresh (l2.trans l3) hp) (W3.own_at hp) (((h2.imp fun _ _ => r.mono l3.ex)).drop _)
def RefOk (K : PySem.W.Frag) (w : World) (D : Addr) (word : Str) (at_ : Int) (why : Str) (xs : List Str) : Prop := ∃ rs rest, xs = rs.map rowS ++ rest ∧ ReadB rs rest (Str.join "\n" (rs.map rowS ++ rest)) ∧
  ((word = "text" ∧ at_ = ((rs.length : Nat) : Int) ∧ ∃ y more, rest = y :: more ∧ BadRow K w D rs y) ∨ (word = "net" ∧ rest = [] ∧ netB (parseR rs) = some (at_, why)))
theorem ev_refT {word why : Str} {at_ : Int} {P : List Str → Prop} (ha : EvN ta σ W (rList rStr) P) (hb : EvR tb σ W rStr word) (hc : EvR tc σ W rInt at_) (hd : EvR td σ W rStr why) (hP : ∀ xs, P xs → RefOk K w D word at_ why xs) : EvR (tCall (SpRefT K w D) [] E (tCons ta (tCons tb (tCons tc (tCons td tNil))))) σ W rBool true := fun W1 l Q q =>
  ha W1 l _ fun v W2 xs l2 h1 hx => hb W2 (l.trans l2) _ fun u W3 l3 h2 => hc W3 ((l.trans l2).trans l3) _ fun x W4 l4 h3 => hd W4 (((l.trans l2).trans l3).trans l4) _ fun y W5 l5 h4 => by
    obtain ⟨rs, rest, e, rb, z⟩ := hP xs hx
    exact ⟨W5.G, v, word, at_, why, rs, rest, by rw [show u = .str word from h2, show x = .int at_ from h3, show y = .str why from h4]; rfl, W5.gh, e ▸ Rp.up ((l3.trans l4).trans l5).ex h1, rb, z, fun W6 => q _ (W5.back W6) ((((l2.trans l3).trans l4).trans l5).trans (W5.back_le W6)) rfl⟩
/-- a row that is refused, among good ones -/
theorem ref_text {rs : List RowT} {y : Str} {more : List Str} {why : Str} (ok : ∀ r ∈ rs, RowOk r) (seq : SeqOk rs) (l1 : rs.length ≤ 40) (l2 : more.length ≤ 39) (free : ∀ x ∈ y :: more, 10 ∉ TL.tl x ∧ x.length ≤ 1000) (bad : BadRow K w D rs y) : RefOk K w D "text" ((rs.length : Nat) : Int) why (rs.map rowS ++ (y :: more)) :=
  ⟨rs, y :: more, rfl, ⟨rfl, ok, seq, l1, by rw [List.length_cons]; omega, free, by simp⟩, .inl ⟨rfl, rfl, y, more, rfl, bad⟩⟩
theorem ref_net {z : NoneD} (h : NoneOk z) : RefOk K w D "net" z.2.1 z.2.2 z.1 := by
  obtain ⟨rs, e, rb, nb⟩ := h.ex
  exact ⟨rs, [], by rw [e, List.append_nil], rb, .inr ⟨rfl, rfl, nb⟩⟩
end
section
variable {P : Program} {w : World} {K : PySem.W.Frag} {mg : Str → Option Value} {base : Heap}
theorem ok_law (T : Txt K mg) (hw : T.w0 = w := by rfl) : FnOk P w K mg base CX0 9 T.d_law.f T.d_law.fd ["_law_script"] (spLaw K) := by
  have G_d_dice : FnOk P w K mg base CX0 1 T.d_dice.f T.d_dice.fd ["_law_script"] (SpDice K) := ok_dice T
  have G_d_next : FnOk P w K mg base CX0 1 T.d_next.f T.d_next.fd ["_law_dice_here", "_law_many"] (SpNext K) := ok_next T
  have G_d_net : FnOk P w K mg base CX0 2 T.d_net.f T.d_net.fd ["_law_d", "_law_places", "_law_lines"] (SpNet K) := ok_net T
  have G_d_text : FnOk P w K mg base CX0 1 T.d_text.f T.d_text.fd ["_law_net_here"] (Fn1 rRows (rList rStr) (fun n => NetT (netM n)) (fun n => (rowsN (netM n)).map rowS)) := ok_ltext T
  have G_d_refused : FnOk P w K mg base CX0 8 T.d_refused.f T.d_refused.fd ["_law_rows", "_law_word", "_law_at", "_law_why"] (SpRefT K w T.d_NUMBERS) := ok_refused T hw
  have kg : KgAll K w T.d_NUMBERS := ⟨hw ▸ T.kg_NUMBERS_0, hw ▸ T.kg_NUMBERS_1, hw ▸ T.kg_NUMBERS_2, hw ▸ T.kg_NUMBERS_3, hw ▸ T.kg_NUMBERS_4, hw ▸ T.kg_NUMBERS_5, hw ▸ T.kg_NUMBERS_6⟩
  refine T.d_law.F.ok sc_d_law (fun vs H Q E h => ?_) (fun cdv A outer s H vs Q E hr h => ?_)
  · obtain ⟨a, ns, rfl, _⟩ := h; rfl
  · obtain ⟨sc, ns, rfl, hS, hl63, k⟩ := h
    have hu := hu_of hr
    refine ⟨_, (pss_cons (ps_set (i := 1) sc_d_law.nd rfl (.inl rfl) (pe_call G_d_dice (hr.mono (by decide)) (by rfl) T.d_dice.m T.d_dice.F.kp T.d_dice.b .nil pass0 (pa_cons (pv 0) pa_nil)))
      (pss_cons (ps_set (i := 2) sc_d_law.nd rfl (.inl rfl) (pe_call G_d_text (hr.mono (by decide)) (by rfl) T.d_text.m T.d_text.F.kp T.d_text.b .nil pass0 (pa_cons (pe_call G_d_net (hr.mono (by decide)) (by rfl) T.d_net.m T.d_net.F.kp T.d_net.b .nil pass0 (pa_cons (pv 1) (pa_cons pe_int (pa_cons pe_int pa_nil)))) pa_nil)))
      (pss_cons (ps_set (i := 3) sc_d_law.nd rfl (.inl rfl) (pe_lst (pa_cons pe_str (pa_cons pe_str (pa_cons pe_str (pa_cons pe_str (pa_cons pe_str (pa_cons pe_str (pa_cons pe_str (pa_cons pe_str (pa_cons pe_str (pa_cons pe_str pa_nil))))))))))))
      (pss_cons (ps_set (i := 3) sc_d_law.nd rfl (.inl rfl) (pe_op op_addA (pv 3) (pe_lst (pa_cons pe_str (pa_cons pe_str (pa_cons pe_str (pa_cons pe_str (pa_cons pe_str (pa_cons pe_str (pa_cons pe_str pa_nil))))))))))
      (pss_cons (ps_set (i := 3) sc_d_law.nd rfl (.inl rfl) (pe_op op_addA (pv 3) (pe_lst (pa_cons pe_str (pa_cons pe_str (pa_cons pe_str (pa_cons pe_str (pa_cons pe_str pa_nil))))))))
      (pss_cons (ps_set (i := 4) sc_d_law.nd rfl (.inl rfl) (pe_call G_d_next (hr.mono (by decide)) (by rfl) T.d_next.m T.d_next.F.kp T.d_next.b .nil pass0 (pa_cons (pv 1) (pa_cons (pe_op op_addA (pe_callB (kLen K) (by rfl) T.z_len PySem.boot_len (pa_cons (pv 2) pa_nil)) pe_int) pa_nil))))
      (pss_cons (ps_set (i := 5) sc_d_law.nd rfl (.inl rfl) (pe_slice (kSl K) (pe_lst (pa_cons pe_str (pa_cons pe_str pa_nil))) po_none (po_some (pe_call G_d_next (hr.mono (by decide)) (by rfl) T.d_next.m T.d_next.F.kp T.d_next.b .nil pass0 (pa_cons (pv 1) (pa_cons pe_int pa_nil))))))
      (pss_cons (ps_if (pt_not (pt_val (pe_call G_d_refused (hr.mono (by decide)) (by rfl) T.d_refused.m T.d_refused.F.kp T.d_refused.b .nil pass0 (pa_cons (pe_op op_addA (pe_op op_addA (pe_op op_addA (pe_slice (kSl K) (pv 2) po_none (po_some (pv 4))) (pe_lst (pa_cons (pe_ix (kIx K) (pv 3) (pe_call G_d_next (hr.mono (by decide)) (by rfl) T.d_next.m T.d_next.F.kp T.d_next.b .nil pass0 (pa_cons (pv 1) (pa_cons (pe_callB (kLen K) (by rfl) T.z_len PySem.boot_len (pa_cons (pv 3) pa_nil)) pa_nil))) (fun _ _ => rfl)) pa_nil))) (pe_slice (kSl K) (pv 2) (po_some (pv 4)) po_none)) (pv 5)) (pa_cons pe_str (pa_cons (pv 4) (pa_cons pe_str pa_nil))))))) (pss_one (ps_ret pe_bl)) pss_nil)
      (pss_cons (ps_setLc (i := 6) (own := [("_law_row", 12)]) (g := gName 12) rfl sc_d_law.nd rfl rfl (sw_true rfl rfl rfl (by decide +kernel)) (kPiList K (pv 2)) (blkOk_by (N := n_d_law) (sc := defScope s_d_law) (by decide +kernel)) (fun _ _ _ _ _ => (pg_name (i := 12) sc_d_law.nd rfl (.inl rfl))) (fun _ _ _ _ _ => (pts_one (pt_cmpR (kNe K hr.units) (pe_slice sl_str (pv 12) po_none (po_some pe_int)) pe_str (nomark _)))) (fun _ _ _ _ _ => (pv 12)))
      (pss_cons (ps_setLc (i := 7) (own := [("_law_row", 12)]) (g := gName 12) rfl sc_d_law.nd rfl rfl (sw_true rfl rfl rfl (by decide +kernel)) (kPiList K (pv 2)) (blkOk_by (N := n_d_law) (sc := defScope s_d_law) (by decide +kernel)) (fun _ _ _ _ _ => (pg_name (i := 12) sc_d_law.nd rfl (.inl rfl))) (fun _ _ _ _ _ => (pts_one (pt_cmpR (kEq K hr.units) (pe_slice sl_str (pv 12) po_none (po_some pe_int)) pe_str (nomark _)))) (fun _ _ _ _ _ => (pv 12)))
      (pss_cons (ps_if (pt_not (pt_val (pe_call G_d_refused (hr.mono (by decide)) (by rfl) T.d_refused.m T.d_refused.F.kp T.d_refused.b .nil pass0 (pa_cons (pe_op op_addA (pv 6) (pe_lst (pa_cons pe_str (pa_cons pe_str pa_nil)))) (pa_cons pe_str (pa_cons (pe_op op_addA (pe_callB (kLen K) (by rfl) T.z_len PySem.boot_len (pa_cons (pv 6) pa_nil)) pe_int) (pa_cons pe_str pa_nil))))))) (pss_one (ps_ret pe_bl)) pss_nil)
      (pss_cons (ps_set (i := 8) sc_d_law.nd rfl (.inl rfl) (pe_lst (pa_cons (pe_tup (pa_cons (pe_lst (pa_cons pe_str pa_nil)) (pa_cons pe_int (pa_cons pe_str pa_nil)))) (pa_cons (pe_tup (pa_cons (pe_op op_mulA (pe_lst (pa_cons pe_str pa_nil)) pe_int) (pa_cons pe_int (pa_cons pe_str pa_nil)))) pa_nil))))
      (pss_cons (ps_expr (kBm K PySem.F.plainAttrs_list PySem.F.slot_list_append PySem.F.type_list_append mt_append (pv 8) (pa_cons (pe_tup (pa_cons (pe_op op_addA (pv 6) (pe_lst (pa_cons pe_str pa_nil))) (pa_cons (pe_callB (kLen K) (by rfl) T.z_len PySem.boot_len (pa_cons (pv 6) pa_nil)) (pa_cons pe_str pa_nil)))) pa_nil)))
      (pss_cons (ps_set (i := 8) sc_d_law.nd rfl (.inl rfl) (pe_op op_addA (pv 8) (pe_lst (pa_cons (pe_tup (pa_cons (pe_op op_addA (pv 2) (pe_lst (pa_cons pe_str pa_nil))) (pa_cons (pe_callB (kLen K) (by rfl) T.z_len PySem.boot_len (pa_cons (pv 7) pa_nil)) (pa_cons pe_str pa_nil)))) (pa_cons (pe_tup (pa_cons (pe_op op_addA (pv 2) (pe_lst (pa_cons pe_str pa_nil))) (pa_cons (pe_callB (kLen K) (by rfl) T.z_len PySem.boot_len (pa_cons (pv 7) pa_nil)) (pa_cons pe_str pa_nil)))) pa_nil)))))
      (pss_cons (ps_expr (kBm K PySem.F.plainAttrs_list PySem.F.slot_list_append PySem.F.type_list_append mt_append (pv 8) (pa_cons (pe_tup (pa_cons (pe_op op_addA (pe_lst (pa_cons pe_str (pa_cons pe_str pa_nil))) (pe_op op_mulA (pe_lst (pa_cons pe_str pa_nil)) pe_int)) (pa_cons pe_int (pa_cons pe_str pa_nil)))) pa_nil)))
      (pss_cons (ps_expr (kBm K PySem.F.plainAttrs_list PySem.F.slot_list_append PySem.F.type_list_append mt_append (pv 8) (pa_cons (pe_tup (pa_cons (pe_lst (pa_cons pe_str (pa_cons pe_str (pa_cons pe_str (pa_cons pe_str pa_nil))))) (pa_cons pe_int (pa_cons pe_str pa_nil)))) pa_nil)))
      (pss_cons (ps_asg (pe_ix (kIx K) (pv 8) (pe_call G_d_next (hr.mono (by decide)) (by rfl) T.d_next.m T.d_next.F.kp T.d_next.b .nil pass0 (pa_cons (pv 1) (pa_cons (pe_callB (kLen K) (by rfl) T.z_len PySem.boot_len (pa_cons (pv 8) pa_nil)) pa_nil))) (fun _ _ => rfl)) (kTupT K rfl (pgs_cons (pg_name (i := 9) sc_d_law.nd rfl (.inl rfl)) (pgs_cons (pg_name (i := 10) sc_d_law.nd rfl (.inl rfl)) (pgs_cons (pg_name (i := 11) sc_d_law.nd rfl (.inl rfl)) pgs_nil)))))
      (pss_one (ps_ret (pe_call G_d_refused (hr.mono (by decide)) (by rfl) T.d_refused.m T.d_refused.F.kp T.d_refused.b .nil pass0 (pa_cons (pv 9) (pa_cons pe_str (pa_cons (pv 10) (pa_cons (pv 11) pa_nil)))))))))))))))))))))))), ?_⟩
    refine ⟨_, rfl, sc, ns, rfl, hS, hl63, fun d H1 hd ex1 da => ?_⟩
    have hs : SqL K H sc (ns.map V.int) := hS
    have tt : ∀ n : Rows, RowsOk 8 8 n → NetT (netM n) := fun n ok => by
      have nk := rows_net ok (by decide) (by decide)
      have pl : ∀ x : Int, x < (n.1.length : Int) → x ≤ 9999999 := fun x hx => by have := nk.n1.2; omega
      exact ⟨nk.n1.2, fun x hx => ⟨(nk.n2 x hx).1, by have := (nk.n2 x hx).2; show x ≤ 9999999; omega⟩, nk.l1, fun l hl => by
        obtain ⟨a, b, _, c⟩ := nk.l2 l hl
        exact ⟨⟨a.1, pl _ a.2⟩, ⟨b.1, pl _ b.2⟩, c.1, by have := c.2; omega⟩⟩
    refine q_asgN (W := Wd.inD H H1 d sc da ex1 hd) (r := rList rStr) (ev_call1M (s := rList rStr) (ev_net rfl hs ev_int ev_int (by decide) (by decide) (by decide) (by decide)) tt) fun v2 W R l h1 hR => ?_
    obtain ⟨n, ok, rfl⟩ := hR
    walk_at "up"
    clear l
    have t := tt n ok
    have nk := rows_net ok (by decide) (by decide)
    have n8 : n.1.length ≤ 8 := by have := ok.n1.2; omega
    have l8 : n.2.2.length ≤ 8 := by have := ok.l1; omega
    have rok := rowsN_ok t
    obtain ⟨seq, prs⟩ := rows_all (netM n)
    have rlen : (rowsN (netM n)).length = n.1.length + n.2.2.length := by unfold rowsN; rw [List.length_append, place_len, List.length_map]
    obtain ⟨rs, hrs⟩ : ∃ rs, rs = rowsN (netM n) := ⟨_, rfl⟩
    rw [← hrs] at h1 rok seq prs rlen
    have rl10 : ∀ r ∈ rs, (10 ∉ TL.tl (rowS r)) ∧ (rowS r).length ≤ 1000 := fun r hr => ⟨row_free (rok r hr), Nat.le_trans (row_len (rok r hr)) (by decide)⟩
    refine q_asg (W := W) (r := rList rStr) (x := oddA) (EvO.fz (eo_lst (el_cons ev_str (el_cons ev_str (el_cons ev_str (el_cons ev_str (el_cons ev_str (el_cons ev_str (el_cons ev_str (el_cons ev_str (el_cons ev_str (el_cons ev_str el_nil)))))))))) (by decide))) fun v3 W l h2 => ?_
    walk_at "up"
    clear l
    refine q_asg (W := W) (r := rList rStr) (x := oddA ++ oddB) (EvO.fz (eo_catA (ys := oddB) (ev_var rfl h2) (EvO.fz (eo_lst (el_cons ev_str (el_cons ev_str (el_cons ev_str (el_cons ev_str (el_cons ev_str (el_cons ev_str (el_cons ev_str el_nil))))))) (by decide))) (by decide))) fun v3 W l h3 => ?_
    clear h2
    walk_at "up"
    clear l
    refine q_asg (W := W) (r := rList rStr) (x := oddA ++ oddB ++ oddC) (EvO.fz (eo_catA (ys := oddC) (ev_var rfl h3) (EvO.fz (eo_lst (el_cons ev_str (el_cons ev_str (el_cons ev_str (el_cons ev_str (el_cons ev_str el_nil))))) (by decide))) (by decide))) fun v3 W l h2 => ?_
    clear h3
    walk_at "up"
    clear l
    obtain ⟨odd, hodd⟩ : ∃ odd, odd = oddA ++ oddB ++ oddC := ⟨_, rfl⟩
    have obad : ∀ y ∈ odd, ∀ rs, BadRow K w T.d_NUMBERS rs y := fun y hy rs => odd_bad kg y (hodd ▸ hy)
    have ofree : ∀ y ∈ odd, 10 ∉ TL.tl y ∧ y.length ≤ 1000 := hodd ▸ odd_free
    have olen : odd.length = 22 := by rw [hodd]; exact odd_len
    rw [← hodd] at h2
    refine q_asgN (W := W) (ev_next (m := ((rs.length : Nat) : Int) + 1) rfl hs (EvR.is (ev_addA (ev_lenA (r := rStr) (ev_var rfl h1)) ev_int) (by rw [List.length_map])) (by omega) (by omega)) fun v4 W at_ l h3 ha => ?_
    cases h3
    walk_at "up"
    clear l
    refine q_asgN (W := W) (r := rList rStr) (P := fun ys => ys.length ≤ 2 ∧ ∀ y ∈ ys, 10 ∉ TL.tl y ∧ y.length ≤ 1000) (EvN.imp (EvON.fz (eon_slN (EvR.n (EvO.fz (eo_lst (r := rStr) (xs := ["", "x"]) (el_cons ev_str (el_cons ev_str el_nil)) (by decide)))) (ev_next (m := 3) rfl hs ev_int (by decide) (by decide)) fun j hj => hj.1)) fun ys hy => ?_) fun v5 W behind l h3 hbe => ?_
    · obtain ⟨xs, j, rfl, _, rfl⟩ := hy
      have all : ∀ y ∈ (["", "x"] : List Str), 10 ∉ TL.tl y ∧ y.length ≤ 1000 := by decide +kernel
      exact ⟨by rw [List.length_take]; simp; omega, fun y hy => all y (List.mem_of_mem_take hy)⟩
    walk_at "up"
    clear l
    -- a row that is odd
    have at_le : at_.toNat ≤ rs.length := by omega
    refine q_when (W := W) (b := false) (EvB.is (et_not (et_b (ev_refT (P := fun xs => ∃ y ∈ odd, xs = (rs.take at_.toNat).map rowS ++ (y :: ((rs.drop at_.toNat).map rowS ++ behind))) (EvN.imp (EvON.fz (eon_catA (EvON.fz (eon_catA (EvON.fz (eon_catA (EvR.n (EvO.fz (eo_sl (ev_var rfl h1) rfl (ev_var rfl rfl) ha.1 rfl))) (EvON.fz (eo_lstN (el_consN (ev_ixLN (EvR.n (ev_var rfl h2)) (ev_next (m := 22) rfl hs (EvR.is (ev_lenA (r := rStr) (ev_var rfl h2)) (by rw [olen]; rfl)) (by decide) (by decide)) (R := fun y => y ∈ odd) fun xs i e hi => by
        obtain ⟨y, hy⟩ : ∃ y, odd[i.toNat]? = some y := ⟨_, List.getElem?_eq_getElem (by omega)⟩
        exact ⟨hi.1, y, by rw [e]; exact hy, List.mem_of_getElem? hy⟩) el_nilN) fun xs hx => by obtain ⟨y, ys, rfl, _, rfl⟩ := hx; simp)) (by
          rintro xs ys rfl ⟨y, zs, rfl, _, rfl⟩
          rw [List.length_take, List.length_map]; simp; omega))) (EvR.n (EvO.fz (eo_slF (ev_var rfl h1) rfl (ev_var rfl rfl) ha.1 rfl))) (by
          rintro _ ys ⟨xs, zs, rfl, ⟨y, us, rfl, _, rfl⟩, rfl⟩ rfl
          simp only [List.length_append, List.length_take, List.length_map, List.length_drop, List.length_cons, List.length_nil]; omega))) (EvR.n (ev_var rfl h3)) (by
          rintro _ ys ⟨_, zs, ⟨xs, us, rfl, ⟨y, ws, rfl, _, rfl⟩, rfl⟩, rfl, rfl⟩ rfl
          have := hbe.1
          simp only [List.length_append, List.length_take, List.length_map, List.length_drop, List.length_cons, List.length_nil]; omega))) fun xs hx => ?cat) ev_str (ev_var rfl rfl) ev_str fun xs hx => ?ref))) rfl) (fun z => nomatch z) fun _ W l => ?_
    case cat =>
      obtain ⟨_, _, ⟨_, _, ⟨_, _, rfl, ⟨y, _, rfl, hy, rfl⟩, rfl⟩, rfl, rfl⟩, rfl, rfl⟩ := hx
      refine ⟨y, hy, ?_⟩
      rw [List.map_take, List.map_drop]
      simp only [List.append_assoc, List.cons_append, List.nil_append]
    case ref =>
      obtain ⟨y, hy, rfl⟩ := hx
      have e : at_ = (((rs.take at_.toNat).length : Nat) : Int) := by rw [List.length_take, Nat.min_eq_left at_le]; omega
      have z := ref_text (K := K) (w := w) (D := T.d_NUMBERS) (rs := rs.take at_.toNat) (y := y) (more := (rs.drop at_.toNat).map rowS ++ behind) (why := "") (fun r hr => rok r (List.mem_of_mem_take hr)) (seq_take seq _) (by rw [List.length_take]; omega) (by rw [List.length_append, List.length_map, List.length_drop]; have := hbe.1; omega) (fun x hx => by
        rcases List.mem_cons.mp hx with e | hx
        · rw [e]; exact ofree y hy
        rcases List.mem_append.mp hx with hx | hx
        · obtain ⟨r, hr, rfl⟩ := List.mem_map.mp hx
          exact rl10 r (List.mem_of_mem_drop hr)
        · exact hbe.2 x hx) (obad y hy _)
      rw [← e] at z
      exact z
    walk_at "up"
    clear l
    -- the places' rows, the lines' rows
    have slen : ∀ y ∈ rs.map rowS, y.length ≤ 1000 := fun y hy => by
      obtain ⟨r, hr, rfl⟩ := List.mem_map.mp hy
      exact (rl10 r hr).2
    refine q_asg (W := W) (r := rList rStr) (x := (placeRows n.1 (srt n.2.1)).map rowS) (EvO.fz (EvO.is (eo_lcL (r := rStr) (s := rStr) (fun y => !decide (L2.cutS y none (some 4) = ("line" : Str))) id (ev_var rfl h1) (by rw [List.length_map]; omega) (fun _ => rfl) (fun i y v W1 l hi e => et_r (ev_neA fl_str (ev_slS (ev_var rfl e) (by have := slen y (List.mem_of_getElem? hi); omega)) ev_str)) (fun i y v W1 l hi e _ => ev_var rfl e)) (by rw [List.map_id, hrs]; exact filter_places t))) fun v6 W l h4 => ?_
    walk_at "up"
    clear l
    refine q_asg (W := W) (r := rList rStr) (x := (rs.map rowS).filter (fun y => decide (L2.cutS y none (some 4) = ("line" : Str)))) (EvO.fz (EvO.is (eo_lcL (r := rStr) (s := rStr) (fun y => decide (L2.cutS y none (some 4) = ("line" : Str))) id (ev_var rfl h1) (by rw [List.length_map]; omega) (fun _ => rfl) (fun i y v W1 l hi e => et_r (ev_eqA fl_str (ev_slS (ev_var rfl e) (by have := slen y (List.mem_of_getElem? hi); omega)) ev_str)) (fun i y v W1 l hi e _ => ev_var rfl e)) (List.map_id _))) fun v7 W l h5 => ?_
    walk_at "up"
    clear l
    have llen : ((rs.map rowS).filter (fun y => decide (L2.cutS y none (some 4) = ("line" : Str)))).length = n.2.2.length := by rw [hrs]; exact filter_lines t
    obtain ⟨lns, hlns⟩ : ∃ x, x = (rs.map rowS).filter (fun y => decide (L2.cutS y none (some 4) = ("line" : Str))) := ⟨_, rfl⟩
    rw [← hlns] at h5 llen
    -- a place behind a line
    obtain ⟨pseq, pprs⟩ := places_all n.1 (srt n.2.1)
    have plen : (placeRows n.1 (srt n.2.1)).length = n.1.length := place_len
    have p_ok : ∀ r ∈ placeRows n.1 (srt n.2.1), RowOk r := fun r hr => rok r (by rw [hrs]; exact List.mem_append_left _ hr)
    refine q_when (W := W) (b := false) (EvB.is (et_not (et_b (ev_refT (P := fun xs => xs = (placeRows n.1 (srt n.2.1) ++ [(("line" : Str), [(0 : Int), 1, 2])]).map rowS ++ [("place 1" : Str)]) (EvR.n (EvR.is (EvO.fz (eo_catA (xs := (placeRows n.1 (srt n.2.1)).map rowS) (ys := ["line 0 1 2", "place 1"]) (ev_var rfl h4) (EvO.fz (eo_lst (el_cons ev_str (el_cons ev_str el_nil)) (by simp))) (by simp only [List.length_map, List.length_cons, List.length_nil]; omega))) (by
      have : rowS (("line" : Str), [(0 : Int), 1, 2]) = "line 0 1 2" := by decide +kernel
      rw [List.map_append, List.append_assoc, List.map_cons, List.map_nil, this]; rfl))) ev_str (EvR.is (ev_addA (ev_lenA (r := rStr) (ev_var rfl h4)) ev_int) (show _ = (((placeRows n.1 (srt n.2.1) ++ [(("line" : Str), [(0 : Int), 1, 2])]).length : Nat) : Int) by rw [List.length_append, List.length_map]; simp)) ev_str fun xs hx => ?ref2))) rfl) (fun z => nomatch z) fun _ W l => ?_
    case ref2 =>
      subst hx
      refine ref_text (fun r hr => ?_) (seq_snoc pseq fun h => absurd rfl h) (by rw [List.length_append, plen]; simp; omega) (by simp) (fun x hx => by rw [List.mem_singleton.mp hx]; decide +kernel) ⟨"place", ["1"], some 1, by decide +kernel, kg.k0, by decide, by decide +kernel, .inr ⟨by decide +kernel, fun z => ?_⟩⟩
      · rcases List.mem_append.mp hr with h | h
        · exact p_ok r h
        · rw [List.mem_singleton.mp h]; exact l012
      · rw [parse_snoc] at z
        unfold stepR at z
        rw [if_pos rfl] at z
        simp at z
    walk_at "up"
    clear l
    -- nets that are refused
    refine q_asgO (W := W) (r := rT3 (rList rStr) rInt rStr) (xs := [((["line 0 1 2"] : List Str), (0 : Int), ("many" : Str)), (List.replicate 11 ("place 0" : Str), 0, "many")]) (eo_lst (el_cons (ev_t3 (EvO.fz (eo_lst (el_cons ev_str el_nil) (by simp))) ev_int ev_str) (el_cons (ev_t3 (EvO.fz (eo_rep (n := 11) ev_str ev_int (by decide))) ev_int ev_str) el_nil)) (by simp)) fun p W l f1 o1 => ?_
    walk_at "up"
    clear l
    refine q_app (W := W) (x := ((placeRows n.1 (srt n.2.1)).map rowS ++ [("place 1000001" : Str)], (((placeRows n.1 (srt n.2.1)).map rowS).length : Int), ("need" : Str))) rfl o1 (ev_t3 (EvO.fz (eo_catA (xs := (placeRows n.1 (srt n.2.1)).map rowS) (ys := ["place 1000001"]) (ev_var rfl h4) (EvO.fz (eo_lst (el_cons ev_str el_nil) (by simp))) (by rw [List.length_map]; simp; omega))) (ev_lenA (r := rStr) (ev_var rfl h4)) ev_str) (by simp) fun W2 kp o2 => ?_
    replace h1 := Rp.up kp.ex h1
    replace h5 := Rp.up kp.ex h5
    clear o1 kp h2 h3 h4
    obtain ⟨W3, e3, kp, h6⟩ := o2.fz
    replace h1 := Rp.up kp.ex h1
    replace h5 := Rp.up kp.ex h5
    rw [← e3]
    refine q_asgO (W := W3) (r := rT3 (rList rStr) rInt rStr) (eo_catA (ys := [(rs.map rowS ++ [("line 0 0 2" : Str)], ((lns.length : Nat) : Int), ("place" : Str)), (rs.map rowS ++ [("line 0 99 2" : Str)], ((lns.length : Nat) : Int), ("place" : Str))]) (ev_var rfl h6) (EvO.fz (eo_lst (el_cons (ev_t3 (EvO.fz (eo_catA (xs := rs.map rowS) (ys := ["line 0 0 2"]) (ev_var rfl h1) (EvO.fz (eo_lst (el_cons ev_str el_nil) (by simp))) (by rw [List.length_map]; simp; omega))) (ev_lenA (r := rStr) (ev_var rfl h5)) ev_str) (el_cons (ev_t3 (EvO.fz (eo_catA (xs := rs.map rowS) (ys := ["line 0 99 2"]) (ev_var rfl h1) (EvO.fz (eo_lst (el_cons ev_str el_nil) (by simp))) (by rw [List.length_map]; simp; omega))) (ev_lenA (r := rStr) (ev_var rfl h5)) ev_str) el_nil)) (by simp))) (by simp)) fun p2 W l f2 o3 => ?_
    clear l o2 h6
    refine q_app (W := W) (x := ((["place 0", "place 1"] : List Str) ++ List.replicate 11 ("line 0 1 2" : Str), (0 : Int), ("lines" : Str))) rfl o3 (ev_t3 (EvO.fz (eo_catA (xs := (["place 0", "place 1"] : List Str)) (ys := List.replicate (11 : Int).toNat ("line 0 1 2" : Str)) (EvO.fz (eo_lst (el_cons ev_str (el_cons ev_str el_nil)) (by simp))) (EvO.fz (eo_rep (n := 11) ev_str ev_int (by decide))) (by decide))) ev_int ev_str) (by simp) fun W4 kp o4 => ?_
    clear o3 kp
    refine q_app (W := W4) (x := ((["place 0", "place 1", "line 0 1 2", "line 1 0 9999999"] : List Str), (1 : Int), ("limit" : Str))) rfl o4 (ev_t3 (EvO.fz (eo_lst (el_cons ev_str (el_cons ev_str (el_cons ev_str (el_cons ev_str el_nil)))) (by simp))) ev_int ev_str) (by simp) fun W5 kp o5 => ?_
    clear o4 kp
    obtain ⟨W6, e6, kp, h7⟩ := o5.fz
    rw [← e6]
    have nones : ∀ z ∈ ([((["line 0 1 2"] : List Str), (0 : Int), ("many" : Str)), (List.replicate 11 ("place 0" : Str), 0, "many")] ++ [((placeRows n.1 (srt n.2.1)).map rowS ++ [("place 1000001" : Str)], (((placeRows n.1 (srt n.2.1)).map rowS).length : Int), ("need" : Str))] ++ [(rs.map rowS ++ [("line 0 0 2" : Str)], ((lns.length : Nat) : Int), ("place" : Str)), (rs.map rowS ++ [("line 0 99 2" : Str)], ((lns.length : Nat) : Int), ("place" : Str))] ++ [((["place 0", "place 1"] : List Str) ++ List.replicate 11 ("line 0 1 2" : Str), (0 : Int), ("lines" : Str))] ++ [((["place 0", "place 1", "line 0 1 2", "line 1 0 9999999"] : List Str), (1 : Int), ("limit" : Str))] : List NoneD), NoneOk z := fun z hz => by
      simp only [List.cons_append, List.nil_append, List.mem_cons, List.not_mem_nil, or_false] at hz
      rcases hz with e | e | e | e | e | e | e <;> subst e
      · exact none1
      · exact none2
      · exact none3 nk t (by omega)
      · rw [hrs]; exact none4 nk t (by omega) llen
      · rw [hrs]; exact none5 nk t (by omega) llen
      · exact none6
      · exact none7
    have z0 : (((["line 0 1 2"] : List Str), (0 : Int), ("many" : Str)) : NoneD) ∈ ([((["line 0 1 2"] : List Str), (0 : Int), ("many" : Str)), (List.replicate 11 ("place 0" : Str), 0, "many")] ++ [((placeRows n.1 (srt n.2.1)).map rowS ++ [("place 1000001" : Str)], (((placeRows n.1 (srt n.2.1)).map rowS).length : Int), ("need" : Str))] ++ [(rs.map rowS ++ [("line 0 0 2" : Str)], ((lns.length : Nat) : Int), ("place" : Str)), (rs.map rowS ++ [("line 0 99 2" : Str)], ((lns.length : Nat) : Int), ("place" : Str))] ++ [((["place 0", "place 1"] : List Str) ++ List.replicate 11 ("line 0 1 2" : Str), (0 : Int), ("lines" : Str))] ++ [((["place 0", "place 1", "line 0 1 2", "line 1 0 9999999"] : List Str), (1 : Int), ("limit" : Str))] : List NoneD) := by simp
    have zl : (([((["line 0 1 2"] : List Str), (0 : Int), ("many" : Str)), (List.replicate 11 ("place 0" : Str), 0, "many")] ++ [((placeRows n.1 (srt n.2.1)).map rowS ++ [("place 1000001" : Str)], (((placeRows n.1 (srt n.2.1)).map rowS).length : Int), ("need" : Str))] ++ [(rs.map rowS ++ [("line 0 0 2" : Str)], ((lns.length : Nat) : Int), ("place" : Str)), (rs.map rowS ++ [("line 0 99 2" : Str)], ((lns.length : Nat) : Int), ("place" : Str))] ++ [((["place 0", "place 1"] : List Str) ++ List.replicate 11 ("line 0 1 2" : Str), (0 : Int), ("lines" : Str))] ++ [((["place 0", "place 1", "line 0 1 2", "line 1 0 9999999"] : List Str), (1 : Int), ("limit" : Str))] : List NoneD)).length ≤ 100 := (show 7 ≤ 100 by decide)
    generalize ([((["line 0 1 2"] : List Str), (0 : Int), ("many" : Str)), (List.replicate 11 ("place 0" : Str), 0, "many")] ++ [((placeRows n.1 (srt n.2.1)).map rowS ++ [("place 1000001" : Str)], (((placeRows n.1 (srt n.2.1)).map rowS).length : Int), ("need" : Str))] ++ [(rs.map rowS ++ [("line 0 0 2" : Str)], ((lns.length : Nat) : Int), ("place" : Str)), (rs.map rowS ++ [("line 0 99 2" : Str)], ((lns.length : Nat) : Int), ("place" : Str))] ++ [((["place 0", "place 1"] : List Str) ++ List.replicate 11 ("line 0 1 2" : Str), (0 : Int), ("lines" : Str))] ++ [((["place 0", "place 1", "line 0 1 2", "line 1 0 9999999"] : List Str), (1 : Int), ("limit" : Str))] : List NoneD) = zs at h7 nones z0 zl
    refine q_asg3N (W := W6) (r := rList rStr) (s := rInt) (t := rStr) (P := fun z => z ∈ zs) (ev_ixLN (EvR.n (ev_var rfl h7)) (ev_next (m := ((zs.length : Nat) : Int)) rfl hs (ev_lenA (r := rT3 (rList rStr) rInt rStr) (ev_var rfl h7)) (by have := List.length_pos_of_mem z0; omega) (by omega)) fun xs i e hi => by
      obtain ⟨y, hy⟩ : ∃ y, zs[i.toNat]? = some y := ⟨_, List.getElem?_eq_getElem (by omega)⟩
      exact ⟨hi.1, y, by rw [e]; exact hy, List.mem_of_getElem? hy⟩) fun v9 v10 v11 W z l h8 h9 h10 hz => ?_
    cases h9
    cases h10
    exact s_ret (W := W) (r := rBool) (x := true) (ev_refT (EvR.n (ev_var rfl h8)) ev_str (ev_var rfl rfl) (ev_var rfl rfl) fun xs hx => by rw [hx]; exact ref_net (nones z hz)) fun v W e => by rw [show v = .bl true from e]; exact k _
end
end Q

namespace Q
open PySem L2
theorem all_mk {l : PySem.W.OpenLaw} {w : World} {K : PySem.W.Frag} {h : Heap} {mg : Str → Option Value} {fa CNet f0 f1 f2 f3 f4 f5 f6 f7 f8 f9 f10 f11 f12 f13 f14 f15 f16 f17 f18 f19 f20  : Addr} {CBadNet : Addr} {CBadState : Addr} {CBadDeed : Addr} {CNoCut : Addr} {CNoPlan : Addr} {CBadText : Addr} {CLightError : Addr} {nmBadNet qBadNet : Str} {NBadNet : Addr} {bsBadNet bmBadNet : List Value} {snBadNet : List Str} {suBadNet : List Value} {abBadNet : Bool} {coBadNet : Option Bool} {ddBadNet : Option Addr} {x0BadNet x1BadNet x2BadNet x3BadNet x5BadNet : Option Value} {nmBadText qBadText : Str} {NBadText : Addr} {bsBadText bmBadText : List Value} {snBadText : List Str} {suBadText : List Value} {abBadText : Bool} {coBadText : Option Bool} {ddBadText : Option Addr} {x0BadText x1BadText x2BadText x3BadText x5BadText : Option Value} {dNUMBERS : Addr} {esNUMBERS : Array DictEntry} {enNUMBERS : Nat} {tkNUMBERS_0 : Tok} {tkNUMBERS_1 : Tok} {tkNUMBERS_2 : Tok} (X : K.In h) (G : h.Ns mainGlobals mg) (hfa : mg "law" = some (.ref fa))
    {od0 an0 od1 an1 od2 an2 od3 an3 od4 an4 od5 an5 od6 an6 od7 an7 od8 an8 od9 an9 od10 an10 od11 an11 od12 an12 od13 an13 od14 an14 od15 an15 od16 an16 od17 an17 od18 an18 od19 an19 od20 an20 : Option Addr} {sl0 sl1 sl2 sl3 sl4 sl5 sl6 sl7 sl8 sl9 sl10 sl11 sl12 sl13 sl14 sl15 sl16 sl17 sl18 sl19 sl20 : Array (Option Value)} {oc0 kV0 dc0 pm0 cd0 ct0 oc1 kV1 dc1 pm1 cd1 ct1 oc2 kV2 dc2 pm2 cd2 ct2 oc3 kV3 dc3 pm3 cd3 ct3 oc4 kV4 dc4 pm4 cd4 ct4 oc5 kV5 dc5 pm5 cd5 ct5 oc6 kV6 dc6 pm6 cd6 ct6 oc7 kV7 dc7 pm7 cd7 ct7 oc8 kV8 dc8 pm8 cd8 ct8 oc9 kV9 dc9 pm9 cd9 ct9 oc10 kV10 dc10 pm10 cd10 ct10 oc11 kV11 dc11 pm11 cd11 ct11 oc12 kV12 dc12 pm12 cd12 ct12 oc13 kV13 dc13 pm13 cd13 ct13 oc14 kV14 dc14 pm14 cd14 ct14 oc15 kV15 dc15 pm15 cd15 ct15 oc16 kV16 dc16 pm16 cd16 ct16 oc17 kV17 dc17 pm17 cd17 ct17 oc18 kV18 dc18 pm18 cd18 ct18 oc19 kV19 dc19 pm19 cd19 ct19 oc20 kV20 dc20 pm20 cd20 ct20 : Value} {t_MOST_PLACES t_MOST_LINES t_MOST_WORTH t_MOST_FIGURES t_FIGURES : Tok}
    (aCNet : PySem.W.nsIn K mainGlobals "Net" = some (some (.ref CNet)))
    (aBadNet : PySem.W.nsIn K mainGlobals "BadNet" = some (some (.ref CBadNet)))
    (aBadState : PySem.W.nsIn K mainGlobals "BadState" = some (some (.ref CBadState)))
    (aBadDeed : PySem.W.nsIn K mainGlobals "BadDeed" = some (some (.ref CBadDeed)))
    (aNoCut : PySem.W.nsIn K mainGlobals "NoCut" = some (some (.ref CNoCut)))
    (aNoPlan : PySem.W.nsIn K mainGlobals "NoPlan" = some (some (.ref CNoPlan)))
    (aBadText : PySem.W.nsIn K mainGlobals "BadText" = some (some (.ref CBadText)))
    (aLightError : PySem.W.nsIn K mainGlobals "LightError" = some (some (.ref CLightError)))
    (b_BadNet : PySem.W.subIn K (.ref CBadNet) (.type "BaseException") = some true)
    (t_BadNet : PySem.W.typeIn K (.ref CBadNet) = some (.type "type"))
    (hd_BadNet : PySem.W.hasDictIn K CBadNet = true)
    (xL_BadNet : K.lookup CBadNet = some (excClassObj nmBadNet qBadNet CBadNet NBadNet bsBadNet bmBadNet true snBadNet suBadNet abBadNet coBadNet ddBadNet x0BadNet x1BadNet x2BadNet x3BadNet x5BadNet "ValueError.__new__"))
    (rv_BadNet : PySem.HandSPX.refsVE bmBadNet = true)
    (sa_BadNet : PySem.W.findIn K (.ref CBadNet) "__setattr__" = some (some (.builtin "object.__setattr__")))
    (kk_BadNet : PySem.W.keepIn K (.ref CBadNet) = true)
    (ga_BadNet : PySem.W.findIn K (.ref CBadNet) "__getattribute__" = some (some (.builtin "BaseException.__getattribute__")))
    (gg_BadNet : PySem.W.findIn K (.ref CBadNet) "__getattr__" = some none)
    (nf_BadNet_at : PySem.W.findIn K (.ref CBadNet) "at" = some none)
    (nf_BadNet_why : PySem.W.findIn K (.ref CBadNet) "why" = some none)
    (b_LightError : PySem.W.subIn K (.ref CLightError) (.type "BaseException") = some true)
    (t_LightError : PySem.W.typeIn K (.ref CLightError) = some (.type "type"))
    (hd_LightError : PySem.W.hasDictIn K CLightError = true)
    (sb_BadNet_LightError : PySem.W.subIn K (.ref CBadNet) (.ref CLightError) = some true)
    (cl_BadNet : PySem.W.findIn K (.ref CBadNet) "__class__" = some (some (.builtin "object.__class__")))
    (oc_get : PySem.W.specialIn K (.builtin "object.__class__") "__get__" = some (some (.builtin "getset_descriptor.__get__")))
    (oc_tk : PySem.W.takesIn K (.builtin "object.__class__") = some true)
    (mo_BadNet : PySem.W.mroIn K CBadNet (.type "object") = some true)
    (ki_BadNet_BadNet : PySem.W.kitOne K (.ref CBadNet) (.ref CBadNet) = some true)
    (ki_BadNet_BadState : PySem.W.kitOne K (.ref CBadNet) (.ref CBadState) = some false)
    (ki_BadNet_BadDeed : PySem.W.kitOne K (.ref CBadNet) (.ref CBadDeed) = some false)
    (ki_BadNet_NoCut : PySem.W.kitOne K (.ref CBadNet) (.ref CNoCut) = some false)
    (ki_BadNet_NoPlan : PySem.W.kitOne K (.ref CBadNet) (.ref CNoPlan) = some false)
    (ki_BadNet_BadText : PySem.W.kitOne K (.ref CBadNet) (.ref CBadText) = some false)
    (ki_BadNet_VE : PySem.W.kitOne K (.ref CBadNet) (.type "ValueError") = some true)
    (b_BadText : PySem.W.subIn K (.ref CBadText) (.type "BaseException") = some true)
    (t_BadText : PySem.W.typeIn K (.ref CBadText) = some (.type "type"))
    (hd_BadText : PySem.W.hasDictIn K CBadText = true)
    (xL_BadText : K.lookup CBadText = some (excClassObj nmBadText qBadText CBadText NBadText bsBadText bmBadText true snBadText suBadText abBadText coBadText ddBadText x0BadText x1BadText x2BadText x3BadText x5BadText "ValueError.__new__"))
    (rv_BadText : PySem.HandSPX.refsVE bmBadText = true)
    (sa_BadText : PySem.W.findIn K (.ref CBadText) "__setattr__" = some (some (.builtin "object.__setattr__")))
    (kk_BadText : PySem.W.keepIn K (.ref CBadText) = true)
    (ga_BadText : PySem.W.findIn K (.ref CBadText) "__getattribute__" = some (some (.builtin "BaseException.__getattribute__")))
    (gg_BadText : PySem.W.findIn K (.ref CBadText) "__getattr__" = some none)
    (nf_BadText_row : PySem.W.findIn K (.ref CBadText) "row" = some none)
    (sb_BadText_LightError : PySem.W.subIn K (.ref CBadText) (.ref CLightError) = some true)
    (cl_BadText : PySem.W.findIn K (.ref CBadText) "__class__" = some (some (.builtin "object.__class__")))
    (mo_BadText : PySem.W.mroIn K CBadText (.type "object") = some true)
    (ki_BadText_BadNet : PySem.W.kitOne K (.ref CBadText) (.ref CBadNet) = some false)
    (ki_BadText_BadState : PySem.W.kitOne K (.ref CBadText) (.ref CBadState) = some false)
    (ki_BadText_BadDeed : PySem.W.kitOne K (.ref CBadText) (.ref CBadDeed) = some false)
    (ki_BadText_NoCut : PySem.W.kitOne K (.ref CBadText) (.ref CNoCut) = some false)
    (ki_BadText_NoPlan : PySem.W.kitOne K (.ref CBadText) (.ref CNoPlan) = some false)
    (ki_BadText_BadText : PySem.W.kitOne K (.ref CBadText) (.ref CBadText) = some true)
    (ki_BadText_VE : PySem.W.kitOne K (.ref CBadText) (.type "ValueError") = some true)
    (rr_LightError : PySem.W.readsIn K CLightError (.type "type") = true)
    (rg_LightError : PySem.W.specialIn K (.ref CLightError) "__getattribute__" = some (some (.builtin "type.__getattribute__")))
    (at_LightError : PySem.W.findCls K (.ref CLightError) (.type "type") "__init__" = some (.val (.builtin "ValueError.__init__")))
    (a0 : PySem.W.findIn K (.ref CBadNet) "__init__" = some (some (.ref f0)))
    (i0 : PySem.W.isFn K (.ref f0) = true)
    (l0 : K.lookup f0 = some ⟨oc0, od0, .func (PySem.W.fnOf "__init__" "BadNet.__init__" (defArgs s_m_BadNet_init) (defBody s_m_BadNet_init) (defScope s_m_BadNet_init) .none kV0 dc0 pm0 an0 cd0 ct0), sl0⟩)
    (c0 : PySem.W.codeIn K cd0 "BadNet.__init__" = true)
    (k0 : PySem.W.keepIn K (.ref f0) = true)
    (a1 : PySem.W.findIn K (.ref CBadText) "__init__" = some (some (.ref f1)))
    (i1 : PySem.W.isFn K (.ref f1) = true)
    (l1 : K.lookup f1 = some ⟨oc1, od1, .func (PySem.W.fnOf "__init__" "BadText.__init__" (defArgs s_m_BadText_init) (defBody s_m_BadText_init) (defScope s_m_BadText_init) .none kV1 dc1 pm1 an1 cd1 ct1), sl1⟩)
    (c1 : PySem.W.codeIn K cd1 "BadText.__init__" = true)
    (k1 : PySem.W.keepIn K (.ref f1) = true)
    (a2 : PySem.W.findIn K (.ref CNet) "__init__" = some (some (.ref f2)))
    (i2 : PySem.W.isFn K (.ref f2) = true)
    (l2 : K.lookup f2 = some ⟨oc2, od2, .func (PySem.W.fnOf "__init__" "Net.__init__" (defArgs s_m_Net_init) (defBody s_m_Net_init) (defScope s_m_Net_init) .none kV2 dc2 pm2 an2 cd2 ct2), sl2⟩)
    (c2 : PySem.W.codeIn K cd2 "Net.__init__" = true)
    (k2 : PySem.W.keepIn K (.ref f2) = true)
    (a3 : PySem.W.findIn K (.ref CNet) "places" = some (some (.ref f3)))
    (i3 : PySem.W.isFn K (.ref f3) = true)
    (l3 : K.lookup f3 = some ⟨oc3, od3, .func (PySem.W.fnOf "places" "Net.places" (defArgs s_m_Net_places) (defBody s_m_Net_places) (defScope s_m_Net_places) .none kV3 dc3 pm3 an3 cd3 ct3), sl3⟩)
    (c3 : PySem.W.codeIn K cd3 "Net.places" = true)
    (k3 : PySem.W.keepIn K (.ref f3) = true)
    (a4 : PySem.W.findIn K (.ref CNet) "needs" = some (some (.ref f4)))
    (i4 : PySem.W.isFn K (.ref f4) = true)
    (l4 : K.lookup f4 = some ⟨oc4, od4, .func (PySem.W.fnOf "needs" "Net.needs" (defArgs s_m_Net_needs) (defBody s_m_Net_needs) (defScope s_m_Net_needs) .none kV4 dc4 pm4 an4 cd4 ct4), sl4⟩)
    (c4 : PySem.W.codeIn K cd4 "Net.needs" = true)
    (k4 : PySem.W.keepIn K (.ref f4) = true)
    (a5 : PySem.W.findIn K (.ref CNet) "sources" = some (some (.ref f5)))
    (i5 : PySem.W.isFn K (.ref f5) = true)
    (l5 : K.lookup f5 = some ⟨oc5, od5, .func (PySem.W.fnOf "sources" "Net.sources" (defArgs s_m_Net_sources) (defBody s_m_Net_sources) (defScope s_m_Net_sources) .none kV5 dc5 pm5 an5 cd5 ct5), sl5⟩)
    (c5 : PySem.W.codeIn K cd5 "Net.sources" = true)
    (k5 : PySem.W.keepIn K (.ref f5) = true)
    (a6 : PySem.W.findIn K (.ref CNet) "lines" = some (some (.ref f6)))
    (i6 : PySem.W.isFn K (.ref f6) = true)
    (l6 : K.lookup f6 = some ⟨oc6, od6, .func (PySem.W.fnOf "lines" "Net.lines" (defArgs s_m_Net_lines) (defBody s_m_Net_lines) (defScope s_m_Net_lines) .none kV6 dc6 pm6 an6 cd6 ct6), sl6⟩)
    (c6 : PySem.W.codeIn K cd6 "Net.lines" = true)
    (k6 : PySem.W.keepIn K (.ref f6) = true)
    (a7 : PySem.W.nsIn K mainGlobals "check_needs" = some (some (.ref f7)))
    (l7 : K.lookup f7 = some ⟨oc7, od7, .func (PySem.W.fnOf "check_needs" "check_needs" (defArgs s_d_check_needs) (defBody s_d_check_needs) (defScope s_d_check_needs) .none kV7 dc7 pm7 an7 cd7 ct7), sl7⟩)
    (c7 : PySem.W.codeIn K cd7 "check_needs" = true)
    (k7 : PySem.W.keepIn K (.ref f7) = true)
    (a8 : PySem.W.nsIn K mainGlobals "check_sources" = some (some (.ref f8)))
    (l8 : K.lookup f8 = some ⟨oc8, od8, .func (PySem.W.fnOf "check_sources" "check_sources" (defArgs s_d_check_sources) (defBody s_d_check_sources) (defScope s_d_check_sources) .none kV8 dc8 pm8 an8 cd8 ct8), sl8⟩)
    (c8 : PySem.W.codeIn K cd8 "check_sources" = true)
    (k8 : PySem.W.keepIn K (.ref f8) = true)
    (a9 : PySem.W.nsIn K mainGlobals "check_lines" = some (some (.ref f9)))
    (l9 : K.lookup f9 = some ⟨oc9, od9, .func (PySem.W.fnOf "check_lines" "check_lines" (defArgs s_d_check_lines) (defBody s_d_check_lines) (defScope s_d_check_lines) .none kV9 dc9 pm9 an9 cd9 ct9), sl9⟩)
    (c9 : PySem.W.codeIn K cd9 "check_lines" = true)
    (k9 : PySem.W.keepIn K (.ref f9) = true)
    (a10 : PySem.W.nsIn K mainGlobals "read" = some (some (.ref f10)))
    (l10 : K.lookup f10 = some ⟨oc10, od10, .func (PySem.W.fnOf "read" "read" (defArgs s_d_read) (defBody s_d_read) (defScope s_d_read) .none kV10 dc10 pm10 an10 cd10 ct10), sl10⟩)
    (c10 : PySem.W.codeIn K cd10 "read" = true)
    (k10 : PySem.W.keepIn K (.ref f10) = true)
    (a11 : PySem.W.nsIn K mainGlobals "is_row" = some (some (.ref f11)))
    (l11 : K.lookup f11 = some ⟨oc11, od11, .func (PySem.W.fnOf "is_row" "is_row" (defArgs s_d_is_row) (defBody s_d_is_row) (defScope s_d_is_row) .none kV11 dc11 pm11 an11 cd11 ct11), sl11⟩)
    (c11 : PySem.W.codeIn K cd11 "is_row" = true)
    (k11 : PySem.W.keepIn K (.ref f11) = true)
    (a12 : PySem.W.nsIn K mainGlobals "is_number" = some (some (.ref f12)))
    (l12 : K.lookup f12 = some ⟨oc12, od12, .func (PySem.W.fnOf "is_number" "is_number" (defArgs s_d_is_number) (defBody s_d_is_number) (defScope s_d_is_number) .none kV12 dc12 pm12 an12 cd12 ct12), sl12⟩)
    (c12 : PySem.W.codeIn K cd12 "is_number" = true)
    (k12 : PySem.W.keepIn K (.ref f12) = true)
    (a13 : PySem.W.nsIn K mainGlobals "_law_dice" = some (some (.ref f13)))
    (l13 : K.lookup f13 = some ⟨oc13, od13, .func (PySem.W.fnOf "_law_dice" "_law_dice" (defArgs s_d_dice) (defBody s_d_dice) (defScope s_d_dice) .none kV13 dc13 pm13 an13 cd13 ct13), sl13⟩)
    (c13 : PySem.W.codeIn K cd13 "_law_dice" = true)
    (k13 : PySem.W.keepIn K (.ref f13) = true)
    (a14 : PySem.W.nsIn K mainGlobals "_law_next" = some (some (.ref f14)))
    (l14 : K.lookup f14 = some ⟨oc14, od14, .func (PySem.W.fnOf "_law_next" "_law_next" (defArgs s_d_next) (defBody s_d_next) (defScope s_d_next) .none kV14 dc14 pm14 an14 cd14 ct14), sl14⟩)
    (c14 : PySem.W.codeIn K cd14 "_law_next" = true)
    (k14 : PySem.W.keepIn K (.ref f14) = true)
    (a15 : PySem.W.nsIn K mainGlobals "_law_whole" = some (some (.ref f15)))
    (l15 : K.lookup f15 = some ⟨oc15, od15, .func (PySem.W.fnOf "_law_whole" "_law_whole" (defArgs s_d_whole) (defBody s_d_whole) (defScope s_d_whole) .none kV15 dc15 pm15 an15 cd15 ct15), sl15⟩)
    (c15 : PySem.W.codeIn K cd15 "_law_whole" = true)
    (k15 : PySem.W.keepIn K (.ref f15) = true)
    (a16 : PySem.W.nsIn K mainGlobals "_law_net" = some (some (.ref f16)))
    (l16 : K.lookup f16 = some ⟨oc16, od16, .func (PySem.W.fnOf "_law_net" "_law_net" (defArgs s_d_net) (defBody s_d_net) (defScope s_d_net) .none kV16 dc16 pm16 an16 cd16 ct16), sl16⟩)
    (c16 : PySem.W.codeIn K cd16 "_law_net" = true)
    (k16 : PySem.W.keepIn K (.ref f16) = true)
    (a17 : PySem.W.nsIn K mainGlobals "_law_is" = some (some (.ref f17)))
    (l17 : K.lookup f17 = some ⟨oc17, od17, .func (PySem.W.fnOf "_law_is" "_law_is" (defArgs s_d_is) (defBody s_d_is) (defScope s_d_is) .none kV17 dc17 pm17 an17 cd17 ct17), sl17⟩)
    (c17 : PySem.W.codeIn K cd17 "_law_is" = true)
    (k17 : PySem.W.keepIn K (.ref f17) = true)
    (a18 : PySem.W.nsIn K mainGlobals "_law_text" = some (some (.ref f18)))
    (l18 : K.lookup f18 = some ⟨oc18, od18, .func (PySem.W.fnOf "_law_text" "_law_text" (defArgs s_d_text) (defBody s_d_text) (defScope s_d_text) .none kV18 dc18 pm18 an18 cd18 ct18), sl18⟩)
    (c18 : PySem.W.codeIn K cd18 "_law_text" = true)
    (k18 : PySem.W.keepIn K (.ref f18) = true)
    (a19 : PySem.W.nsIn K mainGlobals "_law_refused" = some (some (.ref f19)))
    (l19 : K.lookup f19 = some ⟨oc19, od19, .func (PySem.W.fnOf "_law_refused" "_law_refused" (defArgs s_d_refused) (defBody s_d_refused) (defScope s_d_refused) .none kV19 dc19 pm19 an19 cd19 ct19), sl19⟩)
    (c19 : PySem.W.codeIn K cd19 "_law_refused" = true)
    (k19 : PySem.W.keepIn K (.ref f19) = true)
    (a20 : PySem.W.nsIn K mainGlobals "law" = some (some (.ref f20)))
    (l20 : K.lookup f20 = some ⟨oc20, od20, .func (PySem.W.fnOf "law" "law" (defArgs s_d_law) (defBody s_d_law) (defScope s_d_law) .none kV20 dc20 pm20 an20 cd20 ct20), sl20⟩)
    (c20 : PySem.W.codeIn K cd20 "law" = true)
    (k20 : PySem.W.keepIn K (.ref f20) = true)
    (ti_BadNet : PySem.W.typeIn K (.ref f0) = some (.type "function"))
    (ti_BadText : PySem.W.typeIn K (.ref f1) = some (.type "function"))
    (pgNet : PySem.W.plainGet K CNet Str.empty = true)
    (hdNet : PySem.W.hasDictIn K CNet = true)
    (poNet : PySem.W.plainOver K CNet = true)
    (saNet : PySem.W.findIn K (.ref CNet) "__setattr__" = some (some (.builtin "object.__setattr__")))
    (mkNet : PySem.W.makesIn K CNet = true)
    (kcNet : PySem.W.keepIn K (.ref CNet) = true)
    (na_needs : PySem.W.findIn K (.ref CNet) "_needs" = some none)
    (na_sources : PySem.W.findIn K (.ref CNet) "_sources" = some none)
    (na_lines : PySem.W.findIn K (.ref CNet) "_lines" = some none)
    (cc_MOST_PLACES : PySem.W.nsIn K mainGlobals "MOST_PLACES" = some (some (.int 10 t_MOST_PLACES)))
    (cc_MOST_LINES : PySem.W.nsIn K mainGlobals "MOST_LINES" = some (some (.int 10 t_MOST_LINES)))
    (cc_MOST_WORTH : PySem.W.nsIn K mainGlobals "MOST_WORTH" = some (some (.int 1000000 t_MOST_WORTH)))
    (cc_MOST_FIGURES : PySem.W.nsIn K mainGlobals "MOST_FIGURES" = some (some (.int 7 t_MOST_FIGURES)))
    (cc_FIGURES : PySem.W.nsIn K mainGlobals "FIGURES" = some (some (.str "0123456789" t_FIGURES)))
    (g_NUMBERS : PySem.W.nsIn K mainGlobals "NUMBERS" = some (some (.ref dNUMBERS)))
    (l_NUMBERS : K.lookup dNUMBERS = some ⟨.type "dict", none, .dict esNUMBERS enNUMBERS, #[]⟩)
    (kl_NUMBERS : PySem.W.KeysLit w.params esNUMBERS.toList)
    (lo_NUMBERS : (dNUMBERS == sysModules) = false)
    (kg_NUMBERS_0 : PySem.W.nsIn K dNUMBERS "place" = some (some (.int 1 tkNUMBERS_0)))
    (kg_NUMBERS_1 : PySem.W.nsIn K dNUMBERS "source" = some (some (.int 1 tkNUMBERS_1)))
    (kg_NUMBERS_2 : PySem.W.nsIn K dNUMBERS "line" = some (some (.int 3 tkNUMBERS_2)))
    (kg_NUMBERS_3 : PySem.W.nsIn K dNUMBERS "" = some none)
    (kg_NUMBERS_4 : PySem.W.nsIn K dNUMBERS "Place" = some none)
    (kg_NUMBERS_5 : PySem.W.nsIn K dNUMBERS "lines" = some none)
    (kg_NUMBERS_6 : PySem.W.nsIn K dNUMBERS "roof" = some none)
    (z_len : PySem.W.nsIn K mainGlobals "len" = some none)
    (z_range : PySem.W.nsIn K mainGlobals "range" = some none)
    (z_list : PySem.W.nsIn K mainGlobals "list" = some none)
    (z_int : PySem.W.nsIn K mainGlobals "int" = some none)
    (z_sorted : PySem.W.nsIn K mainGlobals "sorted" = some none)
    (z_enumerate : PySem.W.nsIn K mainGlobals "enumerate" = some none)
    (z_isinstance : PySem.W.nsIn K mainGlobals "isinstance" = some none)
    (z_str : PySem.W.nsIn K mainGlobals "str" = some none)
    (z_bool : PySem.W.nsIn K mainGlobals "bool" = some none)
    (z_tuple : PySem.W.nsIn K mainGlobals "tuple" = some none)
    (z_all : PySem.W.nsIn K mainGlobals "all" = some none)
    (z_ValueError : PySem.W.nsIn K mainGlobals "ValueError" = some none) :
    ∃ fd : FuncData, (∀ (s : Shared) (v : Value), BindsTo s fd ⟨[v], []⟩ [("_law_script", v)]) ∧ ∀ base : Heap, K.In base → base.Ns mainGlobals mg → FnOk l.prog w K mg base CX0 9 fa fd ["_law_script"] (spLaw K) := by
  have e := hfa.symm.trans (PySem.W.mg_of X G a20)
  cases e
  have F0 := fun_mk (st := s_m_BadNet_init) l0 c0 k0
  have b0 := F0.binds (ps := ["self", "at", "why"]) fun _ _ _ _ _ _ us hl => match us, hl with | [_, _, _], _ => rfl
  have F1 := fun_mk (st := s_m_BadText_init) l1 c1 k1
  have b1 := F1.binds (ps := ["self", "row"]) fun _ _ _ _ _ _ us hl => match us, hl with | [_, _], _ => rfl
  have F2 := fun_mk (st := s_m_Net_init) l2 c2 k2
  have b2 := F2.binds (ps := ["self", "needs", "sources", "lines"]) fun _ _ _ _ _ _ us hl => match us, hl with | [_, _, _, _], _ => rfl
  have F3 := fun_mk (st := s_m_Net_places) l3 c3 k3
  have b3 := F3.binds (ps := ["self"]) fun _ _ _ _ _ _ us hl => match us, hl with | [_], _ => rfl
  have F4 := fun_mk (st := s_m_Net_needs) l4 c4 k4
  have b4 := F4.binds (ps := ["self"]) fun _ _ _ _ _ _ us hl => match us, hl with | [_], _ => rfl
  have F5 := fun_mk (st := s_m_Net_sources) l5 c5 k5
  have b5 := F5.binds (ps := ["self"]) fun _ _ _ _ _ _ us hl => match us, hl with | [_], _ => rfl
  have F6 := fun_mk (st := s_m_Net_lines) l6 c6 k6
  have b6 := F6.binds (ps := ["self"]) fun _ _ _ _ _ _ us hl => match us, hl with | [_], _ => rfl
  have F7 := fun_mk (st := s_d_check_needs) l7 c7 k7
  have b7 := F7.binds (ps := ["needs"]) fun _ _ _ _ _ _ us hl => match us, hl with | [_], _ => rfl
  have F8 := fun_mk (st := s_d_check_sources) l8 c8 k8
  have b8 := F8.binds (ps := ["sources", "many"]) fun _ _ _ _ _ _ us hl => match us, hl with | [_, _], _ => rfl
  have F9 := fun_mk (st := s_d_check_lines) l9 c9 k9
  have b9 := F9.binds (ps := ["lines", "many"]) fun _ _ _ _ _ _ us hl => match us, hl with | [_, _], _ => rfl
  have F10 := fun_mk (st := s_d_read) l10 c10 k10
  have b10 := F10.binds (ps := ["text"]) fun _ _ _ _ _ _ us hl => match us, hl with | [_], _ => rfl
  have F11 := fun_mk (st := s_d_is_row) l11 c11 k11
  have b11 := F11.binds (ps := ["word", "numbers"]) fun _ _ _ _ _ _ us hl => match us, hl with | [_, _], _ => rfl
  have F12 := fun_mk (st := s_d_is_number) l12 c12 k12
  have b12 := F12.binds (ps := ["word"]) fun _ _ _ _ _ _ us hl => match us, hl with | [_], _ => rfl
  have F13 := fun_mk (st := s_d_dice) l13 c13 k13
  have b13 := F13.binds (ps := ["_law_script"]) fun _ _ _ _ _ _ us hl => match us, hl with | [_], _ => rfl
  have F14 := fun_mk (st := s_d_next) l14 c14 k14
  have b14 := F14.binds (ps := ["_law_dice_here", "_law_many"]) fun _ _ _ _ _ _ us hl => match us, hl with | [_, _], _ => rfl
  have F15 := fun_mk (st := s_d_whole) l15 c15 k15
  have b15 := F15.binds (ps := ["_law_found"]) fun _ _ _ _ _ _ us hl => match us, hl with | [_], _ => rfl
  have F16 := fun_mk (st := s_d_net) l16 c16 k16
  have b16 := F16.binds (ps := ["_law_d", "_law_places", "_law_lines"]) fun _ _ _ _ _ _ us hl => match us, hl with | [_, _, _], _ => rfl
  have F17 := fun_mk (st := s_d_is) l17 c17 k17
  have b17 := F17.binds (ps := ["_law_e", "_law_word"]) fun _ _ _ _ _ _ us hl => match us, hl with | [_, _], _ => rfl
  have F18 := fun_mk (st := s_d_text) l18 c18 k18
  have b18 := F18.binds (ps := ["_law_net_here"]) fun _ _ _ _ _ _ us hl => match us, hl with | [_], _ => rfl
  have F19 := fun_mk (st := s_d_refused) l19 c19 k19
  have b19 := F19.binds (ps := ["_law_rows", "_law_word", "_law_at", "_law_why"]) fun _ _ _ _ _ _ us hl => match us, hl with | [_, _, _, _], _ => rfl
  have F20 := fun_mk (st := s_d_law) l20 c20 k20
  have b20 := F20.binds (ps := ["_law_script"]) fun _ _ _ _ _ _ us hl => match us, hl with | [_], _ => rfl
  let T : Txt K mg := {
    C_Net := CNet
    l_Net := ⟨pgNet, hdNet, poNet, saNet⟩
    g_Net := PySem.W.mg_of X G aCNet
    C_BadNet := CBadNet
    g_BadNet := PySem.W.mg_of X G aBadNet
    C_BadState := CBadState
    g_BadState := PySem.W.mg_of X G aBadState
    C_BadDeed := CBadDeed
    g_BadDeed := PySem.W.mg_of X G aBadDeed
    C_NoCut := CNoCut
    g_NoCut := PySem.W.mg_of X G aNoCut
    C_NoPlan := CNoPlan
    g_NoPlan := PySem.W.mg_of X G aNoPlan
    C_BadText := CBadText
    g_BadText := PySem.W.mg_of X G aBadText
    C_LightError := CLightError
    g_LightError := PySem.W.mg_of X G aLightError
    o_BadNet := ⟨⟨_, _, _, _, _, _, _, _, _, _, _, _, _, _, _, xL_BadNet, rv_BadNet⟩, sa_BadNet, b_BadNet, t_BadNet, kk_BadNet⟩
    xf_BadNet := ⟨ga_BadNet, gg_BadNet, b_BadNet, hd_BadNet⟩
    nf_BadNet_at := nf_BadNet_at
    nf_BadNet_why := nf_BadNet_why
    ex_BadNet_LightError := PySem.W.exm_ref b_LightError hd_LightError t_LightError sb_BadNet_LightError
    kit_BadNet := ⟨ki_BadNet_BadNet, ki_BadNet_BadState, ki_BadNet_BadDeed, ki_BadNet_NoCut, ki_BadNet_NoPlan, ki_BadNet_BadText, ki_BadNet_VE, ⟨ga_BadNet, gg_BadNet, b_BadNet, hd_BadNet, cl_BadNet, oc_get, oc_tk, mo_BadNet⟩⟩
    o_BadText := ⟨⟨_, _, _, _, _, _, _, _, _, _, _, _, _, _, _, xL_BadText, rv_BadText⟩, sa_BadText, b_BadText, t_BadText, kk_BadText⟩
    xf_BadText := ⟨ga_BadText, gg_BadText, b_BadText, hd_BadText⟩
    nf_BadText_row := nf_BadText_row
    ex_BadText_LightError := PySem.W.exm_ref b_LightError hd_LightError t_LightError sb_BadText_LightError
    kit_BadText := ⟨ki_BadText_BadNet, ki_BadText_BadState, ki_BadText_BadDeed, ki_BadText_NoCut, ki_BadText_NoPlan, ki_BadText_BadText, ki_BadText_VE, ⟨ga_BadText, gg_BadText, b_BadText, hd_BadText, cl_BadText, oc_get, oc_tk, mo_BadText⟩⟩
    rd_LightError := ⟨rr_LightError, rg_LightError⟩
    at_LightError := at_LightError
    m_BadNet_init := ⟨f0, _, F0, ⟨a0, i0, k0⟩, b0⟩
    m_BadText_init := ⟨f1, _, F1, ⟨a1, i1, k1⟩, b1⟩
    m_Net_init := ⟨f2, _, F2, ⟨a2, i2, k2⟩, b2⟩
    m_Net_places := ⟨f3, _, F3, ⟨a3, i3, k3⟩, b3⟩
    m_Net_needs := ⟨f4, _, F4, ⟨a4, i4, k4⟩, b4⟩
    m_Net_sources := ⟨f5, _, F5, ⟨a5, i5, k5⟩, b5⟩
    m_Net_lines := ⟨f6, _, F6, ⟨a6, i6, k6⟩, b6⟩
    d_check_needs := ⟨f7, _, F7, PySem.W.mg_of X G a7, b7⟩
    d_check_sources := ⟨f8, _, F8, PySem.W.mg_of X G a8, b8⟩
    d_check_lines := ⟨f9, _, F9, PySem.W.mg_of X G a9, b9⟩
    d_read := ⟨f10, _, F10, PySem.W.mg_of X G a10, b10⟩
    d_is_row := ⟨f11, _, F11, PySem.W.mg_of X G a11, b11⟩
    d_is_number := ⟨f12, _, F12, PySem.W.mg_of X G a12, b12⟩
    d_dice := ⟨f13, _, F13, PySem.W.mg_of X G a13, b13⟩
    d_next := ⟨f14, _, F14, PySem.W.mg_of X G a14, b14⟩
    d_whole := ⟨f15, _, F15, PySem.W.mg_of X G a15, b15⟩
    d_net := ⟨f16, _, F16, PySem.W.mg_of X G a16, b16⟩
    d_is := ⟨f17, _, F17, PySem.W.mg_of X G a17, b17⟩
    d_text := ⟨f18, _, F18, PySem.W.mg_of X G a18, b18⟩
    d_refused := ⟨f19, _, F19, PySem.W.mg_of X G a19, b19⟩
    d_law := ⟨fa, _, F20, PySem.W.mg_of X G a20, b20⟩
    k_Net := ⟨mkNet, a2, i2, kcNet⟩
    na_needs := na_needs
    na_sources := na_sources
    na_lines := na_lines
    c_MOST_PLACES := ⟨t_MOST_PLACES, PySem.W.mg_of X G cc_MOST_PLACES⟩
    c_MOST_LINES := ⟨t_MOST_LINES, PySem.W.mg_of X G cc_MOST_LINES⟩
    c_MOST_WORTH := ⟨t_MOST_WORTH, PySem.W.mg_of X G cc_MOST_WORTH⟩
    c_MOST_FIGURES := ⟨t_MOST_FIGURES, PySem.W.mg_of X G cc_MOST_FIGURES⟩
    c_FIGURES := ⟨t_FIGURES, PySem.W.mg_of X G cc_FIGURES⟩
    w0 := w
    d_NUMBERS := dNUMBERS
    g_NUMBERS := PySem.W.mg_of X G g_NUMBERS
    kg_NUMBERS_0 := ⟨lo_NUMBERS, _, _, l_NUMBERS, kl_NUMBERS, _, kg_NUMBERS_0, ⟨_, rfl⟩⟩
    kg_NUMBERS_1 := ⟨lo_NUMBERS, _, _, l_NUMBERS, kl_NUMBERS, _, kg_NUMBERS_1, ⟨_, rfl⟩⟩
    kg_NUMBERS_2 := ⟨lo_NUMBERS, _, _, l_NUMBERS, kl_NUMBERS, _, kg_NUMBERS_2, ⟨_, rfl⟩⟩
    kg_NUMBERS_3 := ⟨lo_NUMBERS, _, _, l_NUMBERS, kl_NUMBERS, _, kg_NUMBERS_3, trivial⟩
    kg_NUMBERS_4 := ⟨lo_NUMBERS, _, _, l_NUMBERS, kl_NUMBERS, _, kg_NUMBERS_4, trivial⟩
    kg_NUMBERS_5 := ⟨lo_NUMBERS, _, _, l_NUMBERS, kl_NUMBERS, _, kg_NUMBERS_5, trivial⟩
    kg_NUMBERS_6 := ⟨lo_NUMBERS, _, _, l_NUMBERS, kl_NUMBERS, _, kg_NUMBERS_6, trivial⟩
    z_len := PySem.W.mg_none_of X G z_len
    z_range := PySem.W.mg_none_of X G z_range
    z_list := PySem.W.mg_none_of X G z_list
    z_int := PySem.W.mg_none_of X G z_int
    z_sorted := PySem.W.mg_none_of X G z_sorted
    z_enumerate := PySem.W.mg_none_of X G z_enumerate
    z_isinstance := PySem.W.mg_none_of X G z_isinstance
    z_str := PySem.W.mg_none_of X G z_str
    z_bool := PySem.W.mg_none_of X G z_bool
    z_tuple := PySem.W.mg_none_of X G z_tuple
    z_all := PySem.W.mg_none_of X G z_all
    z_ValueError := PySem.W.mg_none_of X G z_ValueError
    ti_BadNet := ti_BadNet
    ti_BadText := ti_BadText }
  exact ⟨_, fun s v => .of_eq rfl, fun base _ _ => ok_law T⟩
theorem walk {l : PySem.W.OpenLaw} {q : Program} {loose : List Str} {XP : (Str → Option Value) → Heap → Prop} {YP : World → Heap → Prop} {d : DefRec} {K : Params → PySem.W.Frag} (hn : l.most = some 63) (hdf : d.params.defaults = [])
    (hY : ∀ (w : World) (h : Heap), YP w h → (K w.params).In h)
    (F : ∀ (w : World) (mg : Str → Option Value) (fa : Addr) (h : Heap), (K w.params).In h → h.Ns mainGlobals mg → mg d.name = some (.ref fa) →
      ∃ fd : FuncData, (∀ (s : Shared) (u : Value), BindsTo s fd ⟨[u], []⟩ [("_law_script", u)]) ∧ ∀ base : Heap, (K w.params).In base → base.Ns mainGlobals mg → FnOk l.prog w (K w.params) mg base CX0 9 fa fd ["_law_script"] (spLaw (K w.params))) :
    PySem.W.WalkO q loose XP YP l.row.toRowW d [] (fun f vs => PySem.call f vs) :=
  L2.walk_of (n := 63) (k := 9) (x := "_law_script") (CX := fun _ => CX0) (sp := fun w => spLaw (K w.params)) hn (by decide) hdf ⟨rfl, by decide, by decide⟩ hY F (fun _ _ a ns hl _ hS => ⟨a, ns, rfl, hS, hl, fun _ => rfl⟩) fun _ _ _ _ _ z => z
end Q
open PySem PySem.W PyProof.Rows
set_option maxRecDepth 100000 in
set_option maxHeartbeats 0 in
theorem PySem.Challenge.cw_cuelight_k17_texts_refused_holds : PySem.Challenge.rw_cuelight_k17_texts_refused.Holds := by
  w_on; o_law; k_head; (case hw => w_witness2)
  k_fill
  refine Q.walk (l := PySem.Challenge.rw_cuelight_k17_texts_refused) rfl rfl (fun w h Y => PySem.W.kIn_of Y) ?F
  case F =>
    intro w mg fa h KX G hmg
    refine' Q.all_mk KX G hmg ?aCNet ?aBadNet ?aBadState ?aBadDeed ?aNoCut ?aNoPlan ?aBadText ?aLightError ?b_BadNet ?t_BadNet ?hd_BadNet ?xL_BadNet ?rv_BadNet ?sa_BadNet ?kk_BadNet ?ga_BadNet ?gg_BadNet ?nf_BadNet_at ?nf_BadNet_why ?b_LightError ?t_LightError ?hd_LightError ?sb_BadNet_LightError ?cl_BadNet ?oc_get ?oc_tk ?mo_BadNet ?ki_BadNet_BadNet ?ki_BadNet_BadState ?ki_BadNet_BadDeed ?ki_BadNet_NoCut ?ki_BadNet_NoPlan ?ki_BadNet_BadText ?ki_BadNet_VE ?b_BadText ?t_BadText ?hd_BadText ?xL_BadText ?rv_BadText ?sa_BadText ?kk_BadText ?ga_BadText ?gg_BadText ?nf_BadText_row ?sb_BadText_LightError ?cl_BadText ?mo_BadText ?ki_BadText_BadNet ?ki_BadText_BadState ?ki_BadText_BadDeed ?ki_BadText_NoCut ?ki_BadText_NoPlan ?ki_BadText_BadText ?ki_BadText_VE ?rr_LightError ?rg_LightError ?at_LightError ?a0 ?i0 ?l0 ?c0 ?k0 ?a1 ?i1 ?l1 ?c1 ?k1 ?a2 ?i2 ?l2 ?c2 ?k2 ?a3 ?i3 ?l3 ?c3 ?k3 ?a4 ?i4 ?l4 ?c4 ?k4 ?a5 ?i5 ?l5 ?c5 ?k5 ?a6 ?i6 ?l6 ?c6 ?k6 ?a7 ?l7 ?c7 ?k7 ?a8 ?l8 ?c8 ?k8 ?a9 ?l9 ?c9 ?k9 ?a10 ?l10 ?c10 ?k10 ?a11 ?l11 ?c11 ?k11 ?a12 ?l12 ?c12 ?k12 ?a13 ?l13 ?c13 ?k13 ?a14 ?l14 ?c14 ?k14 ?a15 ?l15 ?c15 ?k15 ?a16 ?l16 ?c16 ?k16 ?a17 ?l17 ?c17 ?k17 ?a18 ?l18 ?c18 ?k18 ?a19 ?l19 ?c19 ?k19 ?a20 ?l20 ?c20 ?k20 ?ti_BadNet ?ti_BadText ?pgNet ?hdNet ?poNet ?saNet ?mkNet ?kcNet ?na_needs ?na_sources ?na_lines ?cc_MOST_PLACES ?cc_MOST_LINES ?cc_MOST_WORTH ?cc_MOST_FIGURES ?cc_FIGURES ?g_NUMBERS ?l_NUMBERS ?kl_NUMBERS ?lo_NUMBERS ?kg_NUMBERS_0 ?kg_NUMBERS_1 ?kg_NUMBERS_2 ?kg_NUMBERS_3 ?kg_NUMBERS_4 ?kg_NUMBERS_5 ?kg_NUMBERS_6 ?z_len ?z_range ?z_list ?z_int ?z_sorted ?z_enumerate ?z_isinstance ?z_str ?z_bool ?z_tuple ?z_all ?z_ValueError
    (case aCNet => k_is)
    (case aBadNet => k_is)
    (case aBadState => k_is)
    (case aBadDeed => k_is)
    (case aNoCut => k_is)
    (case aNoPlan => k_is)
    (case aBadText => k_is)
    (case aLightError => k_is)
    (case b_BadNet => k_is)
    (case t_BadNet => k_is)
    (case hd_BadNet => k_is)
    (case xL_BadNet => k_is)
    (case rv_BadNet => first | rfl | decide +kernel)
    (case sa_BadNet => k_is)
    (case kk_BadNet => k_is)
    (case ga_BadNet => k_is)
    (case gg_BadNet => k_is)
    (case nf_BadNet_at => k_is)
    (case nf_BadNet_why => k_is)
    (case b_LightError => k_is)
    (case t_LightError => k_is)
    (case hd_LightError => k_is)
    (case sb_BadNet_LightError => first | rfl | k_is)
    (case cl_BadNet => k_is)
    (case oc_get => k_is)
    (case oc_tk => k_is)
    (case mo_BadNet => k_is)
    (case ki_BadNet_BadNet => first | kit_is | rfl)
    (case ki_BadNet_BadState => first | kit_is | rfl)
    (case ki_BadNet_BadDeed => first | kit_is | rfl)
    (case ki_BadNet_NoCut => first | kit_is | rfl)
    (case ki_BadNet_NoPlan => first | kit_is | rfl)
    (case ki_BadNet_BadText => first | kit_is | rfl)
    (case ki_BadNet_VE => kit_is)
    (case b_BadText => k_is)
    (case t_BadText => k_is)
    (case hd_BadText => k_is)
    (case xL_BadText => k_is)
    (case rv_BadText => first | rfl | decide +kernel)
    (case sa_BadText => k_is)
    (case kk_BadText => k_is)
    (case ga_BadText => k_is)
    (case gg_BadText => k_is)
    (case nf_BadText_row => k_is)
    (case sb_BadText_LightError => first | rfl | k_is)
    (case cl_BadText => k_is)
    (case mo_BadText => k_is)
    (case ki_BadText_BadNet => first | kit_is | rfl)
    (case ki_BadText_BadState => first | kit_is | rfl)
    (case ki_BadText_BadDeed => first | kit_is | rfl)
    (case ki_BadText_NoCut => first | kit_is | rfl)
    (case ki_BadText_NoPlan => first | kit_is | rfl)
    (case ki_BadText_BadText => first | kit_is | rfl)
    (case ki_BadText_VE => kit_is)
    (case rr_LightError => k_is)
    (case rg_LightError => k_is)
    (case at_LightError => k_is)
    (case a0 => k_is)
    (case i0 => k_is)
    (case l0 => k_is)
    (case c0 => k_is)
    (case k0 => k_is)
    (case a1 => k_is)
    (case i1 => k_is)
    (case l1 => k_is)
    (case c1 => k_is)
    (case k1 => k_is)
    (case a2 => k_is)
    (case i2 => k_is)
    (case l2 => k_is)
    (case c2 => k_is)
    (case k2 => k_is)
    (case a3 => k_is)
    (case i3 => k_is)
    (case l3 => k_is)
    (case c3 => k_is)
    (case k3 => k_is)
    (case a4 => k_is)
    (case i4 => k_is)
    (case l4 => k_is)
    (case c4 => k_is)
    (case k4 => k_is)
    (case a5 => k_is)
    (case i5 => k_is)
    (case l5 => k_is)
    (case c5 => k_is)
    (case k5 => k_is)
    (case a6 => k_is)
    (case i6 => k_is)
    (case l6 => k_is)
    (case c6 => k_is)
    (case k6 => k_is)
    (case a7 => k_is)
    (case l7 => k_is)
    (case c7 => k_is)
    (case k7 => k_is)
    (case a8 => k_is)
    (case l8 => k_is)
    (case c8 => k_is)
    (case k8 => k_is)
    (case a9 => k_is)
    (case l9 => k_is)
    (case c9 => k_is)
    (case k9 => k_is)
    (case a10 => k_is)
    (case l10 => k_is)
    (case c10 => k_is)
    (case k10 => k_is)
    (case a11 => k_is)
    (case l11 => k_is)
    (case c11 => k_is)
    (case k11 => k_is)
    (case a12 => k_is)
    (case l12 => k_is)
    (case c12 => k_is)
    (case k12 => k_is)
    (case a13 => k_is)
    (case l13 => k_is)
    (case c13 => k_is)
    (case k13 => k_is)
    (case a14 => k_is)
    (case l14 => k_is)
    (case c14 => k_is)
    (case k14 => k_is)
    (case a15 => k_is)
    (case l15 => k_is)
    (case c15 => k_is)
    (case k15 => k_is)
    (case a16 => k_is)
    (case l16 => k_is)
    (case c16 => k_is)
    (case k16 => k_is)
    (case a17 => k_is)
    (case l17 => k_is)
    (case c17 => k_is)
    (case k17 => k_is)
    (case a18 => k_is)
    (case l18 => k_is)
    (case c18 => k_is)
    (case k18 => k_is)
    (case a19 => k_is)
    (case l19 => k_is)
    (case c19 => k_is)
    (case k19 => k_is)
    (case a20 => k_is)
    (case l20 => k_is)
    (case c20 => k_is)
    (case k20 => k_is)
    (case ti_BadNet => k_is)
    (case ti_BadText => k_is)
    (case pgNet => k_is)
    (case hdNet => k_is)
    (case poNet => k_is)
    (case saNet => k_is)
    (case mkNet => k_is)
    (case kcNet => k_is)
    (case na_needs => k_is)
    (case na_sources => k_is)
    (case na_lines => k_is)
    (case cc_MOST_PLACES => k_is)
    (case cc_MOST_LINES => k_is)
    (case cc_MOST_WORTH => k_is)
    (case cc_MOST_FIGURES => k_is)
    (case cc_FIGURES => k_is)
    (case g_NUMBERS => k_is)
    (case l_NUMBERS => k_is)
    (case kl_NUMBERS => exact Q.keysLit3)
    (case lo_NUMBERS => first | rfl | decide +kernel)
    (case kg_NUMBERS_0 => k_is)
    (case kg_NUMBERS_1 => k_is)
    (case kg_NUMBERS_2 => k_is)
    (case kg_NUMBERS_3 => k_is)
    (case kg_NUMBERS_4 => k_is)
    (case kg_NUMBERS_5 => k_is)
    (case kg_NUMBERS_6 => k_is)
    (case z_len => k_is)
    (case z_range => k_is)
    (case z_list => k_is)
    (case z_int => k_is)
    (case z_sorted => k_is)
    (case z_enumerate => k_is)
    (case z_isinstance => k_is)
    (case z_str => k_is)
    (case z_bool => k_is)
    (case z_tuple => k_is)
    (case z_all => k_is)
    (case z_ValueError => k_is)
