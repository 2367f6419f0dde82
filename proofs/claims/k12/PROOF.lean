import PyProof.Rows.All
import Wide.All
import OpenK.AllK
import Wide.FinOn
import HandS.ForMost
import HandS.DictComp
import HandS.Conv
import HandS.SortInts
import HandS.IsInst
import HandS.Style
import HandS.More
import KE.RegKIsAll
import PySem.Challenge.RW_cuelight_k12_whole_weak_lines_part
set_option Elab.async false
set_option linter.all false
set_option maxRecDepth 100000
set_option maxHeartbeats 4000000
/-! Worlds: a frozen part G under the heap H; what is frozen stays, what is not frozen stays but by one's own hand. -/
namespace Q
open PySem L2

def Ex (H H' : Hp) : Prop := ∀ a o, H a = some o → H' a = some o
theorem Ex.refl (H : Hp) : Ex H H := fun _ _ h => h
theorem Ex.trans {A B C : Hp} (x : Ex A B) (y : Ex B C) : Ex A C := fun a o h => y a o (x a o h)
theorem Ex.back {A B : Hp} (x : Ex A B) {a : Addr} (h : B a = none) : A a = none := by
  cases e : A a with
  | none => rfl
  | some o => rw [x a o e] at h; cases h
theorem Ex.new {A : Hp} {p : Addr} {o : HO} (h : A p = none) : Ex A (upd A p o) := fun a u e => by
  rw [upd_ne (ne_of_none e h)]; exact e

/-- the entry of a def: what was frozen, the heap, what may turn meanwhile and what is always true of it -/
structure Fr where
  G0 : Hp
  H0 : Hp
  M : Addr → Prop
  I : Hp → Prop
  st : ∀ H H' : Hp, (∀ a, M a → H' a = H a) → I H → I H'
  has : ∀ (H : Hp) a, I H → M a → H a ≠ none
  i0 : I H0

structure Wd (F : Fr) where
  G : Hp
  H : Hp
  gh : Ex G H
  gg : Ex F.G0 G
  kp : ∀ a, ¬ F.M a → F.G0 a = none → F.H0 a ≠ none → G a = none ∧ H a = F.H0 a
  mg : ∀ a, F.M a → G a = none
  iv : F.I H

section
variable {F : Fr}
structure Le (W W' : Wd F) : Prop where
  ex : Ex W.G W'.G
  kp : ∀ a, ¬ F.M a → W.G a = none → W.H a ≠ none → W'.G a = none ∧ W'.H a = W.H a
/-- the frozen part alone -/
structure Wk (W W' : Wd F) : Prop where
  ex : Ex W.G W'.G
theorem Le.refl (W : Wd F) : Le W W := ⟨Ex.refl _, fun _ _ h _ => ⟨h, rfl⟩⟩
theorem Le.trans {A B C : Wd F} (x : Le A B) (y : Le B C) : Le A C := ⟨x.ex.trans y.ex, fun a m h n => by
  obtain ⟨h1, h2⟩ := x.kp a m h n
  obtain ⟨h3, h4⟩ := y.kp a m h1 (by rw [h2]; exact n)
  exact ⟨h3, h4.trans h2⟩⟩
theorem Le.wk {A B : Wd F} (x : Le A B) : Wk A B := ⟨x.ex⟩
theorem Wk.refl (W : Wd F) : Wk W W := ⟨Ex.refl _⟩
theorem Wk.trans {A B C : Wd F} (x : Wk A B) (y : Wk B C) : Wk A C := ⟨x.ex.trans y.ex⟩

theorem Wd.nm (W : Wd F) {p : Addr} (h : W.H p = none) : ¬ F.M p := fun m => F.has _ _ W.iv m h
theorem Wd.h0 (W : Wd F) {p : Addr} (h : W.H p = none) : F.H0 p = none := by
  cases e : F.H0 p with
  | none => rfl
  | some o =>
    cases g : F.G0 p with
    | some o' =>
      have := W.gh _ _ (W.gg _ _ g)
      rw [h] at this; cases this
    | none =>
      obtain ⟨_, q⟩ := W.kp p (W.nm h) g (by rw [e]; exact fun z => nomatch z)
      rw [h, e] at q; cases q
theorem Wd.g (W : Wd F) {p : Addr} (h : W.H p = none) : W.G p = none := W.gh.back h

/-- a new frozen object -/
def Wd.add (W : Wd F) (p : Addr) (o : HO) (h : W.H p = none) : Wd F where
  G := upd W.G p o
  H := upd W.H p o
  gh := fun a u e => by
    by_cases ha : a = p
    · subst ha; rw [upd_same] at e ⊢; exact e
    · rw [upd_ne ha] at e ⊢; exact W.gh a u e
  gg := W.gg.trans (Ex.new (W.g h))
  kp := fun a m g n => by
    have ha : a ≠ p := fun z => n (by rw [z]; exact W.h0 h)
    rw [upd_ne ha, upd_ne ha]; exact W.kp a m g n
  mg := fun a m => by
    have ha : a ≠ p := fun z => W.nm h (z ▸ m)
    rw [upd_ne ha]; exact W.mg a m
  iv := F.st _ _ (fun a m => upd_ne fun z => W.nm h (z ▸ m)) W.iv
theorem Wd.add_le (W : Wd F) {p : Addr} {o : HO} (h : W.H p = none) : Le W (W.add p o h) :=
  ⟨Ex.new (W.g h), fun a m g n => by
    have ha : a ≠ p := fun z => n (by rw [z]; exact h)
    exact ⟨(upd_ne ha).trans g, upd_ne ha⟩⟩
theorem Wd.add_at (W : Wd F) {p : Addr} {o : HO} (h : W.H p = none) : (W.add p o h).G p = some o := upd_same

/-- a new object of one's own -/
def Wd.own (W : Wd F) (p : Addr) (o : HO) (h : W.H p = none) : Wd F where
  G := W.G
  H := upd W.H p o
  gh := W.gh.trans (Ex.new h)
  gg := W.gg
  kp := fun a m g n => by
    have ha : a ≠ p := fun z => n (by rw [z]; exact W.h0 h)
    rw [upd_ne ha]; exact W.kp a m g n
  mg := W.mg
  iv := F.st _ _ (fun a m => upd_ne fun z => W.nm h (z ▸ m)) W.iv
theorem Wd.own_le (W : Wd F) {p : Addr} {o : HO} (h : W.H p = none) : Le W (W.own p o h) :=
  ⟨Ex.refl _, fun a m g n => by
    have ha : a ≠ p := fun z => n (by rw [z]; exact h)
    exact ⟨g, upd_ne ha⟩⟩

structure Own (W : Wd F) (p : Addr) (o : HO) : Prop where
  g : W.G p = none
  h : W.H p = some o
  z : F.H0 p = none
theorem Own.nm {W : Wd F} {p : Addr} {o : HO} (x : Own W p o) : ¬ F.M p := fun m => F.has _ _ F.i0 m x.z
theorem Own.up {W W' : Wd F} {p : Addr} {o : HO} (l : Le W W') (x : Own W p o) : Own W' p o := by
  obtain ⟨h1, h2⟩ := l.kp p x.nm x.g (by rw [x.h]; exact fun z => nomatch z)
  exact ⟨h1, h2.trans x.h, x.z⟩
theorem Wd.own_at (W : Wd F) {p : Addr} {o : HO} (h : W.H p = none) : Own (W.own p o h) p o := ⟨W.g h, upd_same, W.h0 h⟩
theorem Own.ne {W : Wd F} {p q : Addr} {o : HO} (x : Own W p o) (h : W.H q = none) : p ≠ q := ne_of_none x.h h

/-- one's own object written -/
def Wd.put (W : Wd F) (p : Addr) (o : HO) (h : F.H0 p = none) (g : W.G p = none) : Wd F where
  G := W.G
  H := upd W.H p o
  gh := fun a u e => by rw [upd_ne (ne_of_none e g)]; exact W.gh a u e
  gg := W.gg
  kp := fun a m q n => by
    have ha : a ≠ p := fun z => n (by rw [z]; exact h)
    rw [upd_ne ha]; exact W.kp a m q n
  mg := W.mg
  iv := F.st _ _ (fun a m => upd_ne fun z => F.has _ _ F.i0 m (z ▸ h)) W.iv
theorem Wd.put_wk (W : Wd F) {p : Addr} {o : HO} (h : F.H0 p = none) (g : W.G p = none) : Wk W (W.put p o h g) := ⟨Ex.refl _⟩
theorem Wd.put_at (W : Wd F) {p : Addr} {o : HO} (h : F.H0 p = none) (g : W.G p = none) : Own (W.put p o h g) p o := ⟨g, upd_same, h⟩
theorem Own.put {W : Wd F} {p q : Addr} {o u : HO} (x : Own W q u) (ne : q ≠ p) (h : F.H0 p = none) (g : W.G p = none) : Own (W.put p o h g) q u :=
  ⟨x.g, (upd_ne ne).trans x.h, x.z⟩

/-- one's own object, frozen from here on -/
def Wd.frz (W : Wd F) (p : Addr) (o : HO) (x : Own W p o) : Wd F where
  G := upd W.G p o
  H := W.H
  gh := fun a u e => by
    by_cases ha : a = p
    · subst ha; rw [upd_same] at e; rw [x.h]; exact e
    · rw [upd_ne ha] at e; exact W.gh a u e
  gg := W.gg.trans (Ex.new x.g)
  kp := fun a m q n => by
    have ha : a ≠ p := fun z => n (by rw [z]; exact x.z)
    rw [upd_ne ha]; exact W.kp a m q n
  mg := fun a m => by
    have ha : a ≠ p := fun z => x.nm (z ▸ m)
    rw [upd_ne ha]; exact W.mg a m
  iv := W.iv
theorem Wd.frz_wk (W : Wd F) {p : Addr} {o : HO} (x : Own W p o) : Wk W (W.frz p o x) := ⟨Ex.new x.g⟩
theorem Wd.frz_at (W : Wd F) {p : Addr} {o : HO} (x : Own W p o) : (W.frz p o x).G p = some o := upd_same
theorem Own.frz {W : Wd F} {p q : Addr} {o u : HO} (y : Own W q u) (ne : q ≠ p) (x : Own W p o) : Own (W.frz p o x) q u := ⟨(upd_ne ne).trans y.g, y.h, y.z⟩
end

/-! ### the entry of a def that turns nothing; the entry of one that turns the dice -/
def pF (G H : Hp) : Fr where
  G0 := G
  H0 := H
  M := fun _ => False
  I := fun _ => True
  st := fun _ _ _ _ => True.intro
  has := fun _ _ _ z => z.elim
  i0 := True.intro
def Wd.in (G H : Hp) (gh : Ex G H) : Wd (pF G H) where
  G := G
  H := H
  gh := gh
  gg := Ex.refl _
  kp := fun a _ g _ => ⟨g, rfl⟩
  mg := fun _ z => False.elim z
  iv := True.intro
section
variable {F : Fr}
/-- behind a call of a def that turns nothing -/
def Wd.back (W : Wd F) (W' : Wd (pF W.G W.H)) : Wd F where
  G := W'.G
  H := W'.H
  gh := W'.gh
  gg := W.gg.trans W'.gg
  kp := fun a m g n => by
    obtain ⟨h1, h2⟩ := W.kp a m g n
    obtain ⟨h3, h4⟩ := W'.kp a (fun z => z) h1 (by rw [show (pF W.G W.H).H0 a = W.H a from rfl, h2]; exact n)
    exact ⟨h3, h4.trans h2⟩
  mg := fun a m => (W'.kp a (fun z => z) (W.mg a m) (F.has _ _ W.iv m)).1
  iv := F.st _ _ (fun a m => (W'.kp a (fun z => z) (W.mg a m) (F.has _ _ W.iv m)).2) W.iv
theorem Wd.back_le (W : Wd F) (W' : Wd (pF W.G W.H)) : Le W (W.back W') := ⟨W'.gg, fun a _ g n => W'.kp a (fun z => z) g n⟩
end

/-! ### representations -/
structure Rp (α : Type) where
  rel : Hp → V → α → Prop
  mono : ∀ {G G' : Hp} {v : V} {x : α}, Ex G G' → rel G v x → rel G' v x
def All2 {α : Type} (R : V → α → Prop) (vs : List V) (xs : List α) : Prop := vs.length = xs.length ∧ ∀ (i : Nat) (x : α), xs[i]? = some x → ∃ v, vs[i]? = some v ∧ R v x
section
variable {α β : Type} {R R' : V → α → Prop} {vs ws : List V} {xs ys : List α}
theorem All2.nil : All2 R [] [] := ⟨rfl, fun i x h => by simp at h⟩
theorem All2.imp (h : All2 R vs xs) (k : ∀ v x, R v x → R' v x) : All2 R' vs xs := ⟨h.1, fun i x e => let ⟨v, h1, h2⟩ := h.2 i x e; ⟨v, h1, k _ _ h2⟩⟩
theorem All2.get (h : All2 R vs xs) {i : Nat} {v : V} {x : α} (e : vs[i]? = some v) (e' : xs[i]? = some x) : R v x := by
  obtain ⟨v', h1, h2⟩ := h.2 i x e'
  rw [e] at h1; cases h1; exact h2
theorem All2.getv (h : All2 R vs xs) {i : Nat} {v : V} (e : vs[i]? = some v) : ∃ x, xs[i]? = some x ∧ R v x := by
  have hi : i < xs.length := by rw [← h.1]; exact (List.getElem?_eq_some_iff.mp e).1
  exact ⟨xs[i], List.getElem?_eq_getElem hi, h.get e (List.getElem?_eq_getElem hi)⟩
theorem All2.append (h : All2 R vs xs) (k : All2 R ws ys) : All2 R (vs ++ ws) (xs ++ ys) := by
  refine ⟨by rw [List.length_append, List.length_append, h.1, k.1], fun i x e => ?_⟩
  by_cases hi : i < xs.length
  · rw [List.getElem?_append_left hi] at e
    obtain ⟨v, h1, h2⟩ := h.2 i x e
    exact ⟨v, by rw [List.getElem?_append_left (by rw [h.1]; exact hi)]; exact h1, h2⟩
  · rw [List.getElem?_append_right (by omega)] at e
    obtain ⟨v, h1, h2⟩ := k.2 _ x e
    exact ⟨v, by rw [List.getElem?_append_right (by rw [h.1]; omega), h.1]; exact h1, h2⟩
theorem All2.one {v : V} {x : α} (h : R v x) : All2 R [v] [x] := ⟨rfl, fun i y e => by
  cases i with
  | zero => cases e; exact ⟨v, rfl, h⟩
  | succ i => simp at e⟩
theorem All2.cons {v : V} {x : α} (h : R v x) (k : All2 R vs xs) : All2 R (v :: vs) (x :: xs) := (All2.one h).append k
theorem All2.snoc {v : V} {x : α} (k : All2 R vs xs) (h : R v x) : All2 R (vs ++ [v]) (xs ++ [x]) := k.append (All2.one h)
theorem All2.take (h : All2 R vs xs) (n : Nat) : All2 R (vs.take n) (xs.take n) := by
  refine ⟨by simp [h.1], fun i x e => ?_⟩
  rw [List.getElem?_take] at e ⊢
  split at e
  · rename_i hi
    rw [if_pos hi]; exact h.2 i x e
  · cases e
theorem All2.drop (h : All2 R vs xs) (n : Nat) : All2 R (vs.drop n) (xs.drop n) := by
  refine ⟨by simp [h.1], fun i x e => ?_⟩
  rw [List.getElem?_drop] at e ⊢
  exact h.2 _ x e
theorem All2.set (h : All2 R vs xs) {v : V} {x : α} (r : R v x) (n : Nat) : All2 R (vs.set n v) (xs.set n x) := by
  refine ⟨by simp [h.1], fun i y e => ?_⟩
  rw [List.getElem?_set] at e ⊢
  rw [h.1]
  split at e
  · rename_i hi
    rw [if_pos hi]
    split at e
    · rename_i hn
      rw [if_pos hn]
      cases e
      exact ⟨v, rfl, r⟩
    · cases e
  · rename_i hi
    rw [if_neg hi]; exact h.2 i y e
theorem All2.reverse (h : All2 R vs xs) : All2 R vs.reverse xs.reverse := by
  refine ⟨by simp [h.1], fun i x e => ?_⟩
  have hi : i < xs.length := by have := (List.getElem?_eq_some_iff.mp e).1; simpa using this
  rw [List.getElem?_reverse hi] at e
  rw [List.getElem?_reverse (by rw [h.1]; exact hi), h.1]
  exact h.2 _ x e
theorem All2.nil_of (h : All2 R [] xs) : xs = [] := by
  have := h.1
  cases xs with
  | nil => rfl
  | cons x xs => simp at this
theorem All2.ints : All2 (fun v (x : Int) => v = V.int x) vs xs' → vs = xs'.map V.int := by
  intro h
  apply List.ext_getElem?
  intro i
  rw [List.getElem?_map]
  cases e : xs'[i]? with
  | none =>
    have : xs'.length ≤ i := List.getElem?_eq_none_iff.mp e
    exact List.getElem?_eq_none (by rw [h.1]; exact this)
  | some x =>
    obtain ⟨v, h1, h2⟩ := h.2 i x e
    rw [h1, h2]; rfl
theorem All2.ofInts (xs : List Int) : All2 (fun v (x : Int) => v = V.int x) (xs.map V.int) xs := ⟨by simp, fun i x e => ⟨.int x, by rw [List.getElem?_map, e]; rfl, rfl⟩⟩
end
def rInt : Rp Int := ⟨fun _ v x => v = .int x, fun _ h => h⟩
def rBool : Rp Bool := ⟨fun _ v x => v = .bl x, fun _ h => h⟩
def rStr : Rp Str := ⟨fun _ v x => v = .str x, fun _ h => h⟩
def rNon : Rp Unit := ⟨fun _ v _ => v = .non, fun _ h => h⟩
def rList {α : Type} (r : Rp α) : Rp (List α) := ⟨fun G v xs => ∃ a vs, v = .ref a ∧ G a = some (.lst vs) ∧ All2 (r.rel G) vs xs, fun e ⟨a, vs, h1, h2, h3⟩ => ⟨a, vs, h1, e _ _ h2, h3.imp fun _ _ => r.mono e⟩⟩
def rTup {α : Type} (r : Rp α) : Rp (List α) := ⟨fun G v xs => ∃ a vs, v = .ref a ∧ G a = some (.tup vs) ∧ All2 (r.rel G) vs xs, fun e ⟨a, vs, h1, h2, h3⟩ => ⟨a, vs, h1, e _ _ h2, h3.imp fun _ _ => r.mono e⟩⟩
def rT2 {α β : Type} (r : Rp α) (s : Rp β) : Rp (α × β) := ⟨fun G v x => ∃ a u w, v = .ref a ∧ G a = some (.tup [u, w]) ∧ r.rel G u x.1 ∧ s.rel G w x.2,
  fun e ⟨a, u, w, h1, h2, h3, h4⟩ => ⟨a, u, w, h1, e _ _ h2, r.mono e h3, s.mono e h4⟩⟩
def rT3 {α β γ : Type} (r : Rp α) (s : Rp β) (t : Rp γ) : Rp (α × β × γ) := ⟨fun G v x => ∃ a u w y, v = .ref a ∧ G a = some (.tup [u, w, y]) ∧ r.rel G u x.1 ∧ s.rel G w x.2.1 ∧ t.rel G y x.2.2,
  fun e ⟨a, u, w, y, h1, h2, h3, h4, h5⟩ => ⟨a, u, w, y, h1, e _ _ h2, r.mono e h3, s.mono e h4, t.mono e h5⟩⟩
def rOpt {α : Type} (r : Rp α) : Rp (Option α) := ⟨fun G v x => match x with | none => v = .non | some y => r.rel G v y, fun {G G' v x} e h => by
  cases x with
  | none => exact h
  | some y => exact r.mono e h⟩
/-- a dict of int keys, its pairs in order -/
def DictR {α : Type} (r : Rp α) (G : Hp) (kvs : List (Key × V)) (xs : List (Int × α)) : Prop :=
  kvs.length = xs.length ∧ ∀ (i : Nat) (x : Int × α), xs[i]? = some x → ∃ v, kvs[i]? = some (Sum.inl x.1, v) ∧ r.rel G v x.2
theorem DictR.mono {α : Type} {r : Rp α} {G G' : Hp} {kvs : List (Key × V)} {xs : List (Int × α)} (e : Ex G G') (h : DictR r G kvs xs) : DictR r G' kvs xs :=
  ⟨h.1, fun i x q => let ⟨v, h1, h2⟩ := h.2 i x q; ⟨v, h1, r.mono e h2⟩⟩
def rDict {α : Type} (r : Rp α) : Rp (List (Int × α)) := ⟨fun G v xs => ∃ a kvs, v = .ref a ∧ G a = some (.dK kvs) ∧ DictR r G kvs xs, fun e ⟨a, kvs, h1, h2, h3⟩ => ⟨a, kvs, h1, e _ _ h2, h3.mono e⟩⟩
theorem Rp.up {α : Type} {r : Rp α} {G G' : Hp} {v : V} {x : α} (e : Ex G G') (h : r.rel G v x) : r.rel G' v x := r.mono e h
end Q

namespace Q
open PySem L2
section
variable {F : Fr} {K : PySem.W.Frag} {σ : L2.St} {W W1 : Wd F} {ta tb te tc tl : TE} {tt tu : TT} {α β γ δ : Type} {r : Rp α} {s : Rp β} {t : Rp γ}

def EvR (te : TE) (σ : L2.St) (W : Wd F) (r : Rp α) (x : α) : Prop := ∀ W1 : Wd F, Le W W1 → ∀ Q : VK, (∀ v (W2 : Wd F), Le W1 W2 → r.rel W2.G v x → Q v W2.H) → te σ W1.H Q
def EvN (te : TE) (σ : L2.St) (W : Wd F) (r : Rp α) (P : α → Prop) : Prop := ∀ W1 : Wd F, Le W W1 → ∀ Q : VK, (∀ v (W2 : Wd F) x, Le W1 W2 → r.rel W2.G v x → P x → Q v W2.H) → te σ W1.H Q
def EvB (tt : TT) (σ : L2.St) (W : Wd F) (b : Bool) : Prop := ∀ W1 : Wd F, Le W W1 → ∀ Q : Bool → Hp → Prop, (∀ W2 : Wd F, Le W1 W2 → Q b W2.H) → tt σ W1.H Q
def EvBN (tt : TT) (σ : L2.St) (W : Wd F) (P : Bool → Prop) : Prop := ∀ W1 : Wd F, Le W W1 → ∀ Q : Bool → Hp → Prop, (∀ (W2 : Wd F) b, Le W1 W2 → P b → Q b W2.H) → tt σ W1.H Q
/-- a new list of one's own -/
def EvO (te : TE) (σ : L2.St) (W : Wd F) (r : Rp α) (xs : List α) : Prop := ∀ W1 : Wd F, Le W W1 → ∀ Q : VK, (∀ p vs (W2 : Wd F), Le W1 W2 → W1.H p = none → Own W2 p (.lst vs) → All2 (r.rel W2.G) vs xs → Q (.ref p) W2.H) → te σ W1.H Q
def EvON (te : TE) (σ : L2.St) (W : Wd F) (r : Rp α) (P : List α → Prop) : Prop := ∀ W1 : Wd F, Le W W1 → ∀ Q : VK, (∀ p vs (W2 : Wd F) xs, Le W1 W2 → W1.H p = none → Own W2 p (.lst vs) → All2 (r.rel W2.G) vs xs → P xs → Q (.ref p) W2.H) → te σ W1.H Q

theorem le_frz {W W1 : Wd F} {p : Addr} {o : HO} (l : Le W W1) (h : W.H p = none) (x : Own W1 p o) : Le W (W1.frz p o x) :=
  ⟨l.ex.trans (Ex.new x.g), fun a m g n => by
    have ha : a ≠ p := fun z => n (by rw [z]; exact h)
    obtain ⟨h1, h2⟩ := l.kp a m g n
    exact ⟨(upd_ne ha).trans h1, h2⟩⟩
theorem le_fresh {W W1 : Wd F} (l : Le W W1) {p : Addr} (h : W1.H p = none) : W.H p = none := by
  cases e : W.H p with
  | none => rfl
  | some o =>
    cases g : W.G p with
    | some o' =>
      have := W1.gh _ _ (l.ex _ _ g)
      rw [h] at this; cases this
    | none =>
      obtain ⟨_, q⟩ := l.kp p (W1.nm h) g (by rw [e]; exact fun z => nomatch z)
      rw [h, e] at q; cases q
theorem EvO.fz {xs : List α} (h : EvO te σ W r xs) : EvR te σ W (rList r) xs := fun W1 l Q q => h W1 l Q fun p vs W2 l2 hp x a => by
  have y := q (.ref p) (W2.frz p _ x) (le_frz l2 hp x) ⟨p, vs, rfl, W2.frz_at x, a.imp fun _ _ => r.mono (W2.frz_wk x).ex⟩
  exact y
theorem EvON.fz {P : List α → Prop} (h : EvON te σ W r P) : EvN te σ W (rList r) P := fun W1 l Q q => h W1 l Q fun p vs W2 xs l2 hp x a hP => by
  have y := q (.ref p) (W2.frz p _ x) xs (le_frz l2 hp x) ⟨p, vs, rfl, W2.frz_at x, a.imp fun _ _ => r.mono (W2.frz_wk x).ex⟩ hP
  exact y
theorem EvO.n {xs : List α} (h : EvO te σ W r xs) : EvON te σ W r (· = xs) := fun W1 l Q q => h W1 l Q fun p vs W2 l2 hp x a => q p vs W2 xs l2 hp x a rfl
theorem EvR.n {x : α} (h : EvR te σ W r x) : EvN te σ W r (· = x) := fun W1 l Q q => h W1 l Q fun v W2 l2 hv => q v W2 x l2 hv rfl
theorem EvN.imp {P P' : α → Prop} (h : EvN te σ W r P) (k : ∀ x, P x → P' x) : EvN te σ W r P' := fun W1 l Q q => h W1 l Q fun v W2 x l2 hv hp => q v W2 x l2 hv (k x hp)
theorem EvB.n {b : Bool} (h : EvB tt σ W b) : EvBN tt σ W (· = b) := fun W1 l Q q => h W1 l Q fun W2 l2 => q W2 b l2 rfl
theorem EvR.up {x : α} (l : Le W W1) (h : EvR te σ W r x) : EvR te σ W1 r x := fun W2 l2 Q q => h W2 (l.trans l2) Q q
theorem EvR.is {x y : α} (h : EvR te σ W r x) (e : x = y) : EvR te σ W r y := e ▸ h
theorem EvB.is {x y : Bool} (h : EvB tt σ W x) (e : x = y) : EvB tt σ W y := e ▸ h
theorem EvO.is {x y : List α} (h : EvO te σ W r x) (e : x = y) : EvO te σ W r y := e ▸ h

/-! ### values -/
theorem ev_var {i : Nat} {v : V} {x : α} (h : σ[i]? = some (some v)) (hr : r.rel W.G v x) : EvR (tVar i) σ W r x := fun W1 l Q q => ⟨v, h, q v W1 (Le.refl _) (r.mono l.ex hr)⟩
theorem ev_int {i : Int} : EvR (tC (.int i)) σ W rInt i := fun W1 l Q q => q _ W1 (Le.refl _) rfl
theorem ev_bl {b : Bool} : EvR (tC (.bl b)) σ W rBool b := fun W1 l Q q => q _ W1 (Le.refl _) rfl
theorem ev_str {b : Str} : EvR (tC (.str b)) σ W rStr b := fun W1 l Q q => q _ W1 (Le.refl _) rfl
theorem ev_non : EvR (tC .non) σ W rNon () := fun W1 l Q q => q _ W1 (Le.refl _) rfl
theorem ev_nonO : EvR (tC .non) σ W (rOpt r) none := fun W1 l Q q => q _ W1 (Le.refl _) rfl
theorem ev_some {x : α} (h : EvR te σ W r x) : EvR te σ W (rOpt r) (some x) := h
/-- two places, by values -/
theorem ev_op {o : R2} {x : α} {y : β} {z : γ} (ha : EvR ta σ W r x) (hb : EvR tb σ W s y)
    (ho : ∀ (W1 : Wd F) v w (Q : VK), Le W W1 → r.rel W1.G v x → s.rel W1.G w y → (∀ u (W2 : Wd F), Le W1 W2 → t.rel W2.G u z → Q u W2.H) → o v w W1.H Q) : EvR (tOp o ta tb) σ W t z := fun W1 l Q q =>
  ha W1 l _ fun v W2 l2 hv => hb W2 (l.trans l2) _ fun w W3 l3 hw => ho W3 v w Q ((l.trans l2).trans l3) (r.mono l3.ex hv) hw fun u W4 l4 hu => q u W4 ((l2.trans l3).trans l4) hu
theorem ev_opN {o : R2} {P : α → Prop} {P' : β → Prop} {R : γ → Prop} (ha : EvN ta σ W r P) (hb : EvN tb σ W s P')
    (ho : ∀ (W1 : Wd F) v w x y (Q : VK), Le W W1 → r.rel W1.G v x → s.rel W1.G w y → P x → P' y → (∀ u (W2 : Wd F) z, Le W1 W2 → t.rel W2.G u z → R z → Q u W2.H) → o v w W1.H Q) : EvN (tOp o ta tb) σ W t R := fun W1 l Q q =>
  ha W1 l _ fun v W2 x l2 hv hx => hb W2 (l.trans l2) _ fun w W3 y l3 hw hy => ho W3 v w x y Q ((l.trans l2).trans l3) (r.mono l3.ex hv) hw hx hy fun u W4 z l4 hu hz => q u W4 z ((l2.trans l3).trans l4) hu hz
theorem ev_I0 {g : Int → Int → V} {f : Int → Int → γ} {x y : Int} (ha : EvR ta σ W rInt x) (hb : EvR tb σ W rInt y) (hg : ∀ G, t.rel G (g x y) (f x y)) : EvR (tOp (rI0 g) ta tb) σ W t (f x y) :=
  ev_op ha hb fun W1 v w Q l hv hw q => ⟨x, y, hv, hw, q _ W1 (Le.refl _) (hg _)⟩
theorem ev_I {C : Int → Int → Prop} {g : Int → Int → V} {f : Int → Int → γ} {x y : Int} (ha : EvR ta σ W rInt x) (hb : EvR tb σ W rInt y) (hc : C x y) (hg : ∀ G, t.rel G (g x y) (f x y)) : EvR (tOp (rI C g) ta tb) σ W t (f x y) :=
  ev_op ha hb fun W1 v w Q l hv hw q => ⟨x, y, hv, hw, hc, q _ W1 (Le.refl _) (hg _)⟩
theorem ev_I0N {g : Int → Int → V} {f : Int → Int → Int} {P P' R : Int → Prop} (ha : EvN ta σ W rInt P) (hb : EvN tb σ W rInt P') (hR : ∀ x y, P x → P' y → R (f x y)) (hg : ∀ x y, g x y = .int (f x y)) : EvN (tOp (rI0 g) ta tb) σ W rInt R :=
  ev_opN ha hb fun W1 v w x y Q l hv hw hx hy q => ⟨x, y, hv, hw, q _ W1 (f x y) (Le.refl _) (hg x y) (hR x y hx hy)⟩
theorem ev_IN {C : Int → Int → Prop} {g : Int → Int → V} {f : Int → Int → Int} {P P' R : Int → Prop} (ha : EvN ta σ W rInt P) (hb : EvN tb σ W rInt P') (hC : ∀ x y, P x → P' y → C x y) (hR : ∀ x y, P x → P' y → R (f x y)) (hg : ∀ x y, g x y = .int (f x y)) : EvN (tOp (rI C g) ta tb) σ W rInt R :=
  ev_opN ha hb fun W1 v w x y Q l hv hw hx hy q => ⟨x, y, hv, hw, hC x y hx hy, q _ W1 (f x y) (Le.refl _) (hg x y) (hR x y hx hy)⟩
abbrev oAdd : R2 := rI0 fun i j => .int (i + j)
abbrev oSub : R2 := rI0 fun i j => .int (i - j)
abbrev oMul : R2 := rI CMul fun i j => .int (i * j)
abbrev oDiv : R2 := rI CDiv fun i j => .int (i / j)
abbrev oMod : R2 := rI (fun _ j => 0 < j) fun i j => .int (i % j)
abbrev oPow : R2 := rI CPow fun i j => .int (i ^ j.toNat)
abbrev oLt : R2 := rI0 fun i j => .bl (decide (i < j))
abbrev oLe : R2 := rI0 fun i j => .bl (decide (i ≤ j))
abbrev oGt : R2 := rI0 fun i j => .bl (decide (j < i))
abbrev oGe : R2 := rI0 fun i j => .bl (decide (j ≤ i))
theorem ev_add {x y : Int} (ha : EvR ta σ W rInt x) (hb : EvR tb σ W rInt y) : EvR (tOp oAdd ta tb) σ W rInt (x + y) := ev_I0 (f := fun i j => i + j) ha hb fun _ => rfl
theorem ev_sub {x y : Int} (ha : EvR ta σ W rInt x) (hb : EvR tb σ W rInt y) : EvR (tOp oSub ta tb) σ W rInt (x - y) := ev_I0 (f := fun i j => i - j) ha hb fun _ => rfl
theorem ev_mul {x y : Int} (ha : EvR ta σ W rInt x) (hb : EvR tb σ W rInt y) (hc : CMul x y) : EvR (tOp oMul ta tb) σ W rInt (x * y) := ev_I (f := fun i j => i * j) ha hb hc fun _ => rfl
theorem ev_div {x y : Int} (ha : EvR ta σ W rInt x) (hb : EvR tb σ W rInt y) (hc : CDiv x y) : EvR (tOp oDiv ta tb) σ W rInt (x / y) := ev_I (f := fun i j => i / j) ha hb hc fun _ => rfl
theorem ev_mod {x y : Int} (ha : EvR ta σ W rInt x) (hb : EvR tb σ W rInt y) (hc : 0 < y) : EvR (tOp oMod ta tb) σ W rInt (x % y) := ev_I (f := fun i j => i % j) ha hb hc fun _ => rfl
theorem ev_pow {x y : Int} (ha : EvR ta σ W rInt x) (hb : EvR tb σ W rInt y) (hc : CPow x y) : EvR (tOp oPow ta tb) σ W rInt (x ^ y.toNat) := ev_I (f := fun i j => i ^ j.toNat) ha hb hc fun _ => rfl
theorem ev_lt {x y : Int} (ha : EvR ta σ W rInt x) (hb : EvR tb σ W rInt y) : EvR (tOp oLt ta tb) σ W rBool (decide (x < y)) := ev_I0 (t := rBool) (f := fun i j => decide (i < j)) ha hb fun _ => rfl
theorem ev_le {x y : Int} (ha : EvR ta σ W rInt x) (hb : EvR tb σ W rInt y) : EvR (tOp oLe ta tb) σ W rBool (decide (x ≤ y)) := ev_I0 (t := rBool) (f := fun i j => decide (i ≤ j)) ha hb fun _ => rfl
theorem ev_gt {x y : Int} (ha : EvR ta σ W rInt x) (hb : EvR tb σ W rInt y) : EvR (tOp oGt ta tb) σ W rBool (decide (y < x)) := ev_I0 (t := rBool) (f := fun i j => decide (j < i)) ha hb fun _ => rfl
theorem ev_ge {x y : Int} (ha : EvR ta σ W rInt x) (hb : EvR tb σ W rInt y) : EvR (tOp oGe ta tb) σ W rBool (decide (y ≤ x)) := ev_I0 (t := rBool) (f := fun i j => decide (j ≤ i)) ha hb fun _ => rfl
/-- == of flat things -/
def Fl (r : Rp α) : Prop := ∀ G G' v w (x y : α), r.rel G v x → r.rel G' w y → scal v w = true ∧ (v = w ↔ x = y)
theorem fl_int : Fl rInt := fun _ _ v w x y h1 h2 => by
  have h1 : v = .int x := h1
  have h2 : w = .int y := h2
  subst h1; subst h2
  exact ⟨rfl, by simp⟩
theorem fl_bool : Fl rBool := fun _ _ v w x y h1 h2 => by
  have h1 : v = .bl x := h1
  have h2 : w = .bl y := h2
  subst h1; subst h2
  exact ⟨rfl, by simp⟩
theorem fl_str : Fl rStr := fun _ _ v w x y h1 h2 => by
  have h1 : v = .str x := h1
  have h2 : w = .str y := h2
  subst h1; subst h2
  exact ⟨rfl, by simp⟩
theorem ev_eq [DecidableEq α] {x y : α} (f : Fl r) (ha : EvR ta σ W r x) (hb : EvR tb σ W r y) : EvR (tOp rEq ta tb) σ W rBool (decide (x = y)) :=
  ev_op ha hb fun W1 v w Q l hv hw q => by
    obtain ⟨h1, h2⟩ := f _ _ _ _ _ _ hv hw
    refine ⟨h1, ?_⟩
    rw [show decide (v = w) = decide (x = y) from decide_eq_decide.mpr h2]
    exact q _ W1 (Le.refl _) rfl
theorem ev_ne [DecidableEq α] {x y : α} (f : Fl r) (ha : EvR ta σ W r x) (hb : EvR tb σ W r y) : EvR (tOp rNe ta tb) σ W rBool (!decide (x = y)) :=
  ev_op ha hb fun W1 v w Q l hv hw q => by
    obtain ⟨h1, h2⟩ := f _ _ _ _ _ _ hv hw
    refine ⟨h1, ?_⟩
    rw [show decide (v = w) = decide (x = y) from decide_eq_decide.mpr h2]
    exact q _ W1 (Le.refl _) rfl

/-! ### lists -/
theorem sqL_of {G H : Hp} {a : Addr} {vs : List V} (e : Ex G H) (h : G a = some (.lst vs)) : SqL K H a vs := Or.inl (Or.inl (e _ _ h))
theorem sqT_of {G H : Hp} {a : Addr} {vs : List V} (e : Ex G H) (h : G a = some (.tup vs)) : SqT K H a vs := Or.inl (Or.inl (e _ _ h))
abbrev oLen (K : PySem.W.Frag) : List V → Hp → VK → Prop := fun xs H Q => ∃ p ys, xs = [.ref p] ∧ (SqL K H p ys ∨ SqT K H p ys) ∧ Q (.int (ys.length : Nat)) H
theorem ev_len {xs : List α} (ha : EvR ta σ W (rList r) xs) : EvR (tCB (oLen K) (tCons ta tNil)) σ W rInt (xs.length : Nat) := fun W1 l Q q => ha W1 l _ fun v W2 l2 hv => by
  obtain ⟨a, vs, rfl, h1, h2⟩ := hv
  exact ⟨a, vs, rfl, .inl (sqL_of W2.gh h1), q _ W2 l2 (by rw [h2.1]; rfl)⟩
/-- an item by its place -/
theorem ev_ixL {xs : List α} {i : Int} {x : α} (ha : EvR ta σ W (rList r) xs) (hb : EvR tb σ W rInt i) (hx : 0 ≤ i ∧ xs[i.toNat]? = some x) : EvR (tOp (rIx K) ta tb) σ W r x :=
  ev_op ha hb fun W1 v w Q l hv hw q => by
    obtain ⟨a, vs, rfl, h1, h2⟩ := hv
    have hw : w = .int i := hw
    subst hw
    obtain ⟨u, h3, h4⟩ := h2.2 _ _ hx.2
    refine .inl ⟨a, vs, i, u, rfl, rfl, sqL_of W1.gh h1, ?_, q u W1 (Le.refl _) h4⟩
    have e : i = ((i.toNat : Nat) : Int) := by omega
    rw [e]; exact atI_nat h3
theorem ev_ix0 {x : α} {y : β} (ha : EvR ta σ W (rT2 r s) (x, y)) : EvR (tOp (rIx K) ta (tC (.int 0))) σ W r x :=
  ev_op ha (ev_int (i := 0)) fun W1 v w Q l hv hw q => by
    obtain ⟨a, u, u', rfl, h1, h2, h3⟩ := hv
    have hw : w = .int 0 := hw
    subst hw
    exact .inr (.inl ⟨a, _, 0, u, rfl, rfl, sqT_of W1.gh h1, rfl, q u W1 (Le.refl _) h2⟩)
theorem ev_ix1 {x : α} {y : β} (ha : EvR ta σ W (rT2 r s) (x, y)) : EvR (tOp (rIx K) ta (tC (.int 1))) σ W s y :=
  ev_op ha (ev_int (i := 1)) fun W1 v w Q l hv hw q => by
    obtain ⟨a, u, u', rfl, h1, h2, h3⟩ := hv
    have hw : w = .int 1 := hw
    subst hw
    exact .inr (.inl ⟨a, _, 1, u', rfl, rfl, sqT_of W1.gh h1, rfl, q u' W1 (Le.refl _) h3⟩)
theorem ev_jx0 {x : α × β × γ} (ha : EvR ta σ W (rT3 r s t) x) : EvR (tOp (rIx K) ta (tC (.int 0))) σ W r x.1 :=
  ev_op ha (ev_int (i := 0)) fun W1 v w Q l hv hw q => by
    obtain ⟨a, u, u', u'', rfl, h1, h2, h3, h4⟩ := hv
    have hw : w = .int 0 := hw
    subst hw
    exact .inr (.inl ⟨a, _, 0, u, rfl, rfl, sqT_of W1.gh h1, rfl, q u W1 (Le.refl _) h2⟩)
theorem ev_jx1 {x : α × β × γ} (ha : EvR ta σ W (rT3 r s t) x) : EvR (tOp (rIx K) ta (tC (.int 1))) σ W s x.2.1 :=
  ev_op ha (ev_int (i := 1)) fun W1 v w Q l hv hw q => by
    obtain ⟨a, u, u', u'', rfl, h1, h2, h3, h4⟩ := hv
    have hw : w = .int 1 := hw
    subst hw
    exact .inr (.inl ⟨a, _, 1, u', rfl, rfl, sqT_of W1.gh h1, rfl, q u' W1 (Le.refl _) h3⟩)
theorem ev_jx2 {x : α × β × γ} (ha : EvR ta σ W (rT3 r s t) x) : EvR (tOp (rIx K) ta (tC (.int 2))) σ W t x.2.2 :=
  ev_op ha (ev_int (i := 2)) fun W1 v w Q l hv hw q => by
    obtain ⟨a, u, u', u'', rfl, h1, h2, h3, h4⟩ := hv
    have hw : w = .int 2 := hw
    subst hw
    exact .inr (.inl ⟨a, _, 2, u'', rfl, rfl, sqT_of W1.gh h1, rfl, q u'' W1 (Le.refl _) h4⟩)
/-- displays -/
theorem ev_t2 {x : α} {y : β} (ha : EvR ta σ W r x) (hb : EvR tb σ W s y) : EvR (tTup (tCons ta (tCons tb tNil))) σ W (rT2 r s) (x, y) := fun W1 l Q q =>
  ha W1 l _ fun v W2 l2 hv => hb W2 (l.trans l2) _ fun w W3 l3 hw => ⟨by show 2 ≤ sizeLine; decide, fun p hp => q (.ref p) (W3.add p _ hp) ((l2.trans l3).trans (W3.add_le hp))
    ⟨p, v, w, rfl, W3.add_at hp, r.mono (l3.ex.trans (W3.add_le hp).ex) hv, s.mono (W3.add_le hp).ex hw⟩⟩
theorem ev_t3 {x : α} {y : β} {z : γ} (ha : EvR ta σ W r x) (hb : EvR tb σ W s y) (hc : EvR tc σ W t z) : EvR (tTup (tCons ta (tCons tb (tCons tc tNil)))) σ W (rT3 r s t) (x, y, z) := fun W1 l Q q =>
  ha W1 l _ fun v W2 l2 hv => hb W2 (l.trans l2) _ fun w W3 l3 hw => hc W3 ((l.trans l2).trans l3) _ fun u W4 l4 hu => ⟨by show 3 ≤ sizeLine; decide, fun p hp => q (.ref p) (W4.add p _ hp) (((l2.trans l3).trans l4).trans (W4.add_le hp))
    ⟨p, v, w, u, rfl, W4.add_at hp, r.mono ((l3.ex.trans l4.ex).trans (W4.add_le hp).ex) hv, s.mono (l4.ex.trans (W4.add_le hp).ex) hw, t.mono (W4.add_le hp).ex hu⟩⟩
/-- the items of a display, or of a call, of one kind -/
def EvL (ta : TA) (σ : L2.St) (W : Wd F) (r : Rp α) (xs : List α) : Prop := ∀ W1 : Wd F, Le W W1 → ∀ Q : List V → Hp → Prop, (∀ vs (W2 : Wd F), Le W1 W2 → All2 (r.rel W2.G) vs xs → Q vs W2.H) → ta σ W1.H Q
theorem el_nil : EvL tNil σ W r [] := fun W1 l Q q => q [] W1 (Le.refl _) All2.nil
theorem el_cons {ts : TA} {x : α} {xs : List α} (h : EvR ta σ W r x) (hs : EvL ts σ W r xs) : EvL (tCons ta ts) σ W r (x :: xs) := fun W1 l Q q =>
  h W1 l _ fun v W2 l2 hv => hs W2 (l.trans l2) _ fun vs W3 l3 hvs => q (v :: vs) W3 (l2.trans l3) ((hvs).cons (r.mono l3.ex hv))
theorem eo_lst {ts : TA} {xs : List α} (h : EvL ts σ W r xs) (hz : xs.length ≤ 100000) : EvO (tLst ts) σ W r xs := fun W1 l Q q =>
  h W1 l _ fun vs W2 l2 a => ⟨by rw [a.1]; exact Nat.le_trans hz (by decide), fun p hp => q p vs (W2.own p _ hp) (l2.trans (W2.own_le hp)) (le_fresh l2 hp) (W2.own_at hp) a⟩
abbrev oList (K : PySem.W.Frag) : List V → Hp → VK → Prop := fun xs H Q => ∃ p ys, xs = [.ref p] ∧ (SqL K H p ys ∨ SqT K H p ys) ∧ ∀ l, H l = none → Q (.ref l) (upd H l (.lst ys))
theorem eo_list {xs : List α} (ha : EvR ta σ W (rList r) xs) : EvO (tCB (oList K) (tCons ta tNil)) σ W r xs := fun W1 l Q q => ha W1 l _ fun v W2 l2 hv => by
  obtain ⟨a, vs, rfl, h1, h2⟩ := hv
  exact ⟨a, vs, rfl, .inl (sqL_of W2.gh h1), fun p hp => q p vs (W2.own p _ hp) (l2.trans (W2.own_le hp)) (le_fresh l2 hp) (W2.own_at hp) h2⟩
theorem eo_listT {xs : List α} (ha : EvR ta σ W (rTup r) xs) : EvO (tCB (oList K) (tCons ta tNil)) σ W r xs := fun W1 l Q q => ha W1 l _ fun v W2 l2 hv => by
  obtain ⟨a, vs, rfl, h1, h2⟩ := hv
  exact ⟨a, vs, rfl, .inr (sqT_of W2.gh h1), fun p hp => q p vs (W2.own p _ hp) (l2.trans (W2.own_le hp)) (le_fresh l2 hp) (W2.own_at hp) h2⟩
/-- range -/
def rg (n : Int) : List Int := (List.range n.toNat).map fun (i : Nat) => (i : Int)
theorem rg_len (n : Int) : (rg n).length = n.toNat := by simp [rg]
theorem rg_get {n : Int} {i : Nat} {x : Int} : (rg n)[i]? = some x ↔ (i < n.toNat ∧ x = i) := by
  unfold rg
  rw [List.getElem?_map]
  by_cases h : i < n.toNat
  · rw [List.getElem?_range h]; simp [h, eq_comm]
  · rw [List.getElem?_eq_none (by simpa using h)]; simp [h]
theorem mem_rg {n x : Int} : x ∈ rg n ↔ 0 ≤ x ∧ x < n := by
  unfold rg
  rw [List.mem_map]
  constructor
  · rintro ⟨i, hi, rfl⟩
    have := List.mem_range.mp hi
    omega
  · rintro ⟨h1, h2⟩
    exact ⟨x.toNat, List.mem_range.mpr (by omega), by omega⟩
theorem eo_rng {n : Int} (ha : EvR ta σ W rInt n) (h : 0 ≤ n ∧ n ≤ 1000000) : EvO (tLstRg (tRg1 ta)) σ W rInt (rg n) := fun W1 l Q q => ha W1 l _ fun v W2 l2 hv =>
  ⟨n, hv, ⟨by decide, by decide, by omega, by omega, by omega⟩, fun p hp => q p _ (W2.own p _ hp) (l2.trans (W2.own_le hp)) (le_fresh l2 hp) (W2.own_at hp) (by
    have e : rgV 0 n = (rg n).map V.int := by
      unfold rgV rg
      rw [List.map_map]
      have z : (n - 0).toNat = n.toNat := by omega
      rw [z]
      apply List.map_congr_left
      intro i _
      show V.int (0 + (i : Int)) = V.int (i : Int)
      rw [Int.zero_add]
    rw [e]; exact All2.ofInts _)⟩
/-- + of two lists that stand in the heap -/
theorem eo_cat {xs ys : List α} (ha : EvR ta σ W (rList r) xs) (hb : EvR tb σ W (rList r) ys) (hz : xs.length + ys.length ≤ 100000) : EvO (tOp rCat ta tb) σ W r (xs ++ ys) := fun W1 l Q q =>
  ha W1 l _ fun v W2 l2 hv => hb W2 (l.trans l2) _ fun w W3 l3 hw => by
    obtain ⟨a, vs, rfl, h1, h2⟩ := hv
    obtain ⟨b, ws, rfl, h3, h4⟩ := hw
    have h2' := h2.imp fun _ _ => r.mono l3.ex
    exact ⟨a, b, vs, ws, rfl, rfl, W3.gh _ _ (l3.ex _ _ h1), W3.gh _ _ h3, by rw [h2.1, h4.1]; exact Nat.le_trans hz (by decide), fun p hp =>
      q p _ (W3.own p _ hp) ((l2.trans l3).trans (W3.own_le hp)) (le_fresh (l2.trans l3) hp) (W3.own_at hp) (h2'.append h4)⟩
/-- in -/
theorem inV_ints {x : Int} {ns : List Int} : inV (.int x) (ns.map V.int) = decide (x ∈ ns) := by
  unfold inV
  induction ns with
  | nil => simp
  | cons n ns ih =>
    have e : eqV (.int n) (.int x) = (n == x) := by simp [eqV]
    rw [List.map_cons, List.any_cons, ih, e]
    by_cases h : n = x
    · subst h; simp
    · have h' : ¬ x = n := fun z => h z.symm
      simp [h, h', List.mem_cons]
theorem flat_ints (ns : List Int) : (ns.map V.int).all flatV = true := by
  rw [List.all_eq_true]
  intro v hv
  obtain ⟨n, _, rfl⟩ := List.mem_map.mp hv
  rfl
theorem ev_in {x : Int} {ns : List Int} (ha : EvR ta σ W rInt x) (hb : EvR tb σ W (rList rInt) ns) : EvR (tOp (rIn K false) ta tb) σ W rBool (decide (x ∈ ns)) :=
  ev_op ha hb fun W1 v w Q l hv hw q => by
    obtain ⟨a, vs, rfl, h1, h2⟩ := hw
    have hv : v = .int x := hv
    subst hv
    have e := All2.ints h2
    subst e
    refine ⟨a, _, rfl, .inl (sqL_of W1.gh h1), rfl, flat_ints ns, ?_⟩
    rw [inV_ints]
    exact q _ W1 (Le.refl _) rfl
theorem ev_nin {x : Int} {ns : List Int} (ha : EvR ta σ W rInt x) (hb : EvR tb σ W (rList rInt) ns) : EvR (tOp (rIn K true) ta tb) σ W rBool (!decide (x ∈ ns)) :=
  ev_op ha hb fun W1 v w Q l hv hw q => by
    obtain ⟨a, vs, rfl, h1, h2⟩ := hw
    have hv : v = .int x := hv
    subst hv
    have e := All2.ints h2
    subst e
    refine ⟨a, _, rfl, .inl (sqL_of W1.gh h1), rfl, flat_ints ns, ?_⟩
    rw [inV_ints]
    exact q _ W1 (Le.refl _) rfl
/-- a slice from the beginning; a whole one backwards -/
theorem eo_sl {xs : List α} {j : Int} {tlo thi : TO} (ha : EvR ta σ W (rList r) xs) (hlo : tlo = tNoPart) (hb : EvR tb σ W rInt j) (hj : 0 ≤ j) (hhi : thi = tPart tb) : EvO (tSl (rSlL K) ta tlo thi) σ W r (xs.take j.toNat) := fun W1 l Q q => by
  subst hlo; subst hhi
  refine ha W1 l _ fun v W2 l2 hv => ?_
  refine hb W2 (l.trans l2) _ fun w W3 l3 hw => ?_
  obtain ⟨a, vs, rfl, h1, h2⟩ := hv
  refine ⟨j, hw, ⟨a, vs, rfl, sqL_of W3.gh (l3.ex _ _ h1), fun p hp => ?_⟩⟩
  have e : cutV vs none (some j) = vs.take j.toNat := by
    unfold cutV HT.sIx
    simp only [if_neg (show ¬ j < 0 by omega), Nat.sub_zero, List.drop_zero]
    rw [Nat.min_def]
    split
    · rfl
    · rename_i hh
      rw [List.take_of_length_le (Nat.le_refl _), List.take_of_length_le (by omega)]
  rw [e]
  exact q p _ (W3.own p _ hp) ((l2.trans l3).trans (W3.own_le hp)) (le_fresh (l2.trans l3) hp) (W3.own_at hp) ((h2.imp fun _ _ => r.mono l3.ex).take _)
theorem eo_rev {xs : List α} {tr : (PySem.W.Frag → TE → TE)} (ha : EvR ta σ W (rList r) xs) (htr : tr K ta = fun σ H Q => ta σ H fun x H1 => ∃ a xs, x = .ref a ∧ SqL K H1 a xs ∧ ∀ p, H1 p = none → Q (.ref p) (upd H1 p (.lst xs.reverse))) : EvO (tr K ta) σ W r xs.reverse := fun W1 l Q q => by
  rw [htr]
  refine ha W1 l _ fun v W2 l2 hv => ?_
  obtain ⟨a, vs, rfl, h1, h2⟩ := hv
  exact ⟨a, vs, rfl, sqL_of W2.gh h1, fun p hp => q p _ (W2.own p _ hp) (l2.trans (W2.own_le hp)) (le_fresh l2 hp) (W2.own_at hp) h2.reverse⟩
theorem eo_sorted {xs : List Int} (ha : EvR ta σ W (rList rInt) xs) : EvON (tCB (rSortedI K) (tCons ta tNil)) σ W rInt (fun ys => ys.Perm xs ∧ ys.Pairwise (· ≤ ·)) := fun W1 l Q q => ha W1 l _ fun v W2 l2 hv => by
  obtain ⟨a, vs, rfl, h1, h2⟩ := hv
  have e := All2.ints h2
  subst e
  exact ⟨a, xs, rfl, sqL_of W2.gh h1, fun ns' p h3 h4 hp => q p _ (W2.own p _ hp) ns' (l2.trans (W2.own_le hp)) (le_fresh l2 hp) (W2.own_at hp) (All2.ofInts _) ⟨h3, h4⟩⟩

/-! ### tests -/
theorem et_r {b : Bool} (h : EvR te σ W rBool b) : EvB (tTest te) σ W b := fun W1 l Q q => h W1 l _ fun v W2 l2 hv => ⟨b, hv, q W2 l2⟩
theorem et_b {b : Bool} (h : EvR te σ W rBool b) : EvB (tB te) σ W b := fun W1 l Q q => h W1 l _ fun v W2 l2 hv => ⟨b, hv, q W2 l2⟩
theorem et_and {a b : Bool} (h1 : EvB tt σ W a) (h2 : a = true → EvB tu σ W b) : EvB (tAnd tt tu) σ W (a && b) := fun W1 l Q q => h1 W1 l _ fun W2 l2 => by
  cases a with
  | true => exact iteT (h2 rfl W2 (l.trans l2) Q fun W3 l3 => q W3 (l2.trans l3))
  | false => exact iteF (q W2 l2)
theorem et_or {a b : Bool} (h1 : EvB tt σ W a) (h2 : a = false → EvB tu σ W b) : EvB (tOr tt tu) σ W (a || b) := fun W1 l Q q => h1 W1 l _ fun W2 l2 => by
  cases a with
  | true => exact iteT (q W2 l2)
  | false => exact iteF (h2 rfl W2 (l.trans l2) Q fun W3 l3 => q W3 (l2.trans l3))
theorem et_not {a : Bool} (h : EvB tt σ W a) : EvB (tNot tt) σ W (!a) := fun W1 l Q q => h W1 l _ fun W2 l2 => q W2 l2
theorem et_yes : EvB tYes σ W true := fun W1 l Q q => q W1 (Le.refl _)
theorem et_if {b : Bool} {x : α} (h : EvB tt σ W b) (h1 : b = true → EvR ta σ W r x) (h2 : b = false → EvR tb σ W r x) : EvR (tIf tt ta tb) σ W r x := fun W1 l Q q => h W1 l _ fun W2 l2 => by
  cases b with
  | true => exact iteT (h1 rfl W2 (l.trans l2) Q fun v W3 l3 => q v W3 (l2.trans l3))
  | false => exact iteF (h2 rfl W2 (l.trans l2) Q fun v W3 l3 => q v W3 (l2.trans l3))
theorem ev_andV {a b : Bool} (h1 : EvR ta σ W rBool a) (h2 : a = true → EvR tb σ W rBool b) : EvR (tAndV ta tb) σ W rBool (a && b) := fun W1 l Q q => h1 W1 l _ fun v W2 l2 hv => ⟨a, hv, by
  cases a with
  | true => exact iteT (h2 rfl W2 (l.trans l2) Q fun v W3 l3 => q v W3 (l2.trans l3))
  | false => exact iteF (q _ W2 l2 rfl)⟩
theorem ev_orV {a b : Bool} (h1 : EvR ta σ W rBool a) (h2 : a = false → EvR tb σ W rBool b) : EvR (tOrV ta tb) σ W rBool (a || b) := fun W1 l Q q => h1 W1 l _ fun v W2 l2 hv => ⟨a, hv, by
  cases a with
  | true => exact iteT (q _ W2 l2 rfl)
  | false => exact iteF (h2 rfl W2 (l.trans l2) Q fun v W3 l3 => q v W3 (l2.trans l3))⟩
theorem ev_notV {a : Bool} (h : EvR ta σ W rBool a) : EvR (tNotV ta) σ W rBool (!a) := fun W1 l Q q => h W1 l _ fun v W2 l2 hv => ⟨a, hv, q _ W2 l2 rfl⟩
/-- a op b op' c -/
theorem ev_chain {o o' : R2} {x y z : Int} {a b : Bool} (h1 : EvR ta σ W rInt x) (h2 : EvR tb σ W rInt y) (h3 : EvR tc σ W rInt z)
    (ho : ∀ H (Q : VK), Q (.bl a) H → o (.int x) (.int y) H Q) (ho' : ∀ H (Q : VK), Q (.bl b) H → o' (.int y) (.int z) H Q) : EvR (tChain o o' ta tb tc) σ W rBool (a && b) := fun W1 l Q q =>
  h1 W1 l _ fun v W2 l2 hv => h2 W2 (l.trans l2) _ fun w W3 l3 hw => by
    have hv : v = .int x := hv
    have hw : w = .int y := hw
    subst hv; subst hw
    refine ho _ _ ⟨a, rfl, ?_⟩
    cases a with
    | true => exact iteT (h3 W3 ((l.trans l2).trans l3) _ fun u W4 l4 hu => by
        have hu : u = .int z := hu
        subst hu
        exact ho' _ _ (q _ W4 ((l2.trans l3).trans l4) rfl))
    | false => exact iteF (q _ W3 (l2.trans l3) rfl)
theorem ev_chain_lelt {x y z : Int} (h1 : EvR ta σ W rInt x) (h2 : EvR tb σ W rInt y) (h3 : EvR tc σ W rInt z) : EvR (tChain oLe oLt ta tb tc) σ W rBool (decide (x ≤ y) && decide (y < z)) :=
  ev_chain h1 h2 h3 (fun H Q q => ⟨x, y, rfl, rfl, q⟩) (fun H Q q => ⟨y, z, rfl, rfl, q⟩)
theorem ev_chain_lele {x y z : Int} (h1 : EvR ta σ W rInt x) (h2 : EvR tb σ W rInt y) (h3 : EvR tc σ W rInt z) : EvR (tChain oLe oLe ta tb tc) σ W rBool (decide (x ≤ y) && decide (y ≤ z)) :=
  ev_chain h1 h2 h3 (fun H Q q => ⟨x, y, rfl, rfl, q⟩) (fun H Q q => ⟨y, z, rfl, rfl, q⟩)
end
end Q

namespace Q
open PySem L2
section
variable {F : Fr} {K : PySem.W.Frag} {σ : L2.St} {W W1 : Wd F} {ta tb te tc tl : TE} {tt tu : TT} {α β γ δ : Type} {r : Rp α} {s : Rp β} {t : Rp γ} {D : Ends} {tz tx ty : TS}
theorem le_put {W W1 : Wd F} {p : Addr} {o : HO} (l : Le W W1) (h : W.H p = none) (h0 : F.H0 p = none) (g : W1.G p = none) : Le W (W1.put p o h0 g) :=
  ⟨l.ex, fun a m q n => by
    have ha : a ≠ p := fun z => n (by rw [z]; exact h)
    obtain ⟨h1, h2⟩ := l.kp a m q n
    exact ⟨h1, (upd_ne ha).trans h2⟩⟩
/-- a list of one's own -/
structure OwnL (W : Wd F) (p : Addr) (r : Rp α) (xs : List α) : Prop where
  ex : ∃ vs, Own W p (.lst vs) ∧ All2 (r.rel W.G) vs xs
/-- all of one's own but p is as it was -/
structure Kp (p : Addr) (W W1 : Wd F) : Prop where
  ex : Ex W.G W1.G
  kp : ∀ q u, q ≠ p → Own W q u → Own W1 q u
theorem OwnL.up {p : Addr} {xs : List α} (l : Le W W1) (h : OwnL W p r xs) : OwnL W1 p r xs := by
  obtain ⟨vs, h1, h2⟩ := h.ex
  exact ⟨vs, h1.up l, h2.imp fun _ _ => r.mono l.ex⟩
theorem OwnL.kp {p q : Addr} {xs : List α} (l : Kp p W W1) (h : OwnL W q r xs) (ne : q ≠ p) : OwnL W1 q r xs := by
  obtain ⟨vs, h1, h2⟩ := h.ex
  exact ⟨vs, l.kp _ _ ne h1, h2.imp fun _ _ => r.mono l.ex⟩
theorem OwnL.z {p : Addr} {xs : List α} (h : OwnL W p r xs) : F.H0 p = none := by obtain ⟨vs, h1, h2⟩ := h.ex; exact h1.z
theorem OwnL.g {p : Addr} {xs : List α} (h : OwnL W p r xs) : W.G p = none := by obtain ⟨vs, h1, h2⟩ := h.ex; exact h1.g
theorem OwnL.ne {p q : Addr} {xs : List α} (h : OwnL W p r xs) (n : W.H q = none) : p ≠ q := by obtain ⟨vs, h1, h2⟩ := h.ex; exact h1.ne n
/-- freeze it -/
theorem OwnL.fz {p : Addr} {xs : List α} (h : OwnL W p r xs) : ∃ W1 : Wd F, W1.H = W.H ∧ Kp p W W1 ∧ (rList r).rel W1.G (.ref p) xs := by
  obtain ⟨vs, h1, h2⟩ := h.ex
  exact ⟨W.frz p _ h1, rfl, ⟨(W.frz_wk h1).ex, fun q u ne x => x.frz ne h1⟩, p, vs, rfl, W.frz_at h1, h2.imp fun _ _ => r.mono (W.frz_wk h1).ex⟩
/-- read one's own list: at that heap it is as good as frozen -/
theorem OwnL.rd {p : Addr} {xs : List α} (h : OwnL W p r xs) {i : Nat} (hi : σ[i]? = some (some (.ref p))) {Q : VK} {o : V → Hp → VK → Prop}
    (k : ∀ vs, W.H p = some (.lst vs) → All2 (r.rel W.G) vs xs → o (.ref p) W.H Q) : tVar i σ W.H fun v H => o v H Q := by
  obtain ⟨vs, h1, h2⟩ := h.ex
  exact ⟨_, hi, k vs h1.h h2⟩

/-! ### statements -/
theorem s_asg {i : Nat} {x : α} (h : EvR te σ W r x) (k : ∀ v (W1 : Wd F), Le W W1 → r.rel W1.G v x → D.nx (σ.set i (some v)) W1.H) : tAsg te (gName i) D σ W.H := h W (Le.refl _) _ fun v W1 l hv => k v W1 l hv
theorem q_asg {i : Nat} {x : α} (h : EvR te σ W r x) (k : ∀ v (W1 : Wd F), Le W W1 → r.rel W1.G v x → tz D (σ.set i (some v)) W1.H) : tSeq (tAsg te (gName i)) tz D σ W.H := s_asg (D := { D with nx := tz D }) h k
theorem s_asgN {i : Nat} {P : α → Prop} (h : EvN te σ W r P) (k : ∀ v (W1 : Wd F) x, Le W W1 → r.rel W1.G v x → P x → D.nx (σ.set i (some v)) W1.H) : tAsg te (gName i) D σ W.H := h W (Le.refl _) _ fun v W1 x l hv hx => k v W1 x l hv hx
theorem q_asgN {i : Nat} {P : α → Prop} (h : EvN te σ W r P) (k : ∀ v (W1 : Wd F) x, Le W W1 → r.rel W1.G v x → P x → tz D (σ.set i (some v)) W1.H) : tSeq (tAsg te (gName i)) tz D σ W.H := s_asgN (D := { D with nx := tz D }) h k
theorem s_asgO {i : Nat} {xs : List α} (h : EvO te σ W r xs) (k : ∀ p (W1 : Wd F), Le W W1 → W.H p = none → OwnL W1 p r xs → D.nx (σ.set i (some (.ref p))) W1.H) : tAsg te (gName i) D σ W.H :=
  h W (Le.refl _) _ fun p vs W1 l hp x a => k p W1 l hp ⟨vs, x, a⟩
theorem q_asgO {i : Nat} {xs : List α} (h : EvO te σ W r xs) (k : ∀ p (W1 : Wd F), Le W W1 → W.H p = none → OwnL W1 p r xs → tz D (σ.set i (some (.ref p))) W1.H) : tSeq (tAsg te (gName i)) tz D σ W.H := s_asgO (D := { D with nx := tz D }) h k
theorem q_asgON {i : Nat} {P : List α → Prop} (h : EvON te σ W r P) (k : ∀ p (W1 : Wd F) xs, Le W W1 → W.H p = none → OwnL W1 p r xs → P xs → tz D (σ.set i (some (.ref p))) W1.H) : tSeq (tAsg te (gName i)) tz D σ W.H :=
  h W (Le.refl _) _ fun p vs W1 xs l hp x a hP => k p W1 xs l hp ⟨vs, x, a⟩ hP
/-- targets that take a tuple apart -/
abbrev gT2 (K : PySem.W.Frag) (i j : Nat) : TG := gTup K 2 (gCons (gName i) (gCons (gName j) gNil))
abbrev gT3 (K : PySem.W.Frag) (i j k : Nat) : TG := gTup K 3 (gCons (gName i) (gCons (gName j) (gCons (gName k) gNil)))
theorem g_t2 {i j : Nat} {v : V} {x : α × β} {R : L2.St → Hp → Prop} (h : (rT2 r s).rel W.G v x) (k : ∀ u w, r.rel W.G u x.1 → s.rel W.G w x.2 → R ((σ.set i (some u)).set j (some w)) W.H) : gT2 K i j v σ W.H R := by
  obtain ⟨a, u, w, rfl, h1, h2, h3⟩ := h
  exact ⟨a, _, rfl, sqT_of W.gh h1, rfl, u, _, rfl, w, _, rfl, rfl, k u w h2 h3⟩
theorem g_t3 {i j l : Nat} {v : V} {x : α × β × γ} {R : L2.St → Hp → Prop} (h : (rT3 r s t).rel W.G v x) (k : ∀ u w y, r.rel W.G u x.1 → s.rel W.G w x.2.1 → t.rel W.G y x.2.2 → R (((σ.set i (some u)).set j (some w)).set l (some y)) W.H) : gT3 K i j l v σ W.H R := by
  obtain ⟨a, u, w, y, rfl, h1, h2, h3, h4⟩ := h
  exact ⟨a, _, rfl, sqT_of W.gh h1, rfl, u, _, rfl, w, _, rfl, y, _, rfl, rfl, k u w y h2 h3 h4⟩
theorem q_asg2 {i j : Nat} {x : α × β} (h : EvR te σ W (rT2 r s) x) (k : ∀ u w (W1 : Wd F), Le W W1 → r.rel W1.G u x.1 → s.rel W1.G w x.2 → tz D ((σ.set i (some u)).set j (some w)) W1.H) : tSeq (tAsg te (gT2 K i j)) tz D σ W.H :=
  h W (Le.refl _) _ fun v W1 l hv => g_t2 hv fun u w h1 h2 => k u w W1 l h1 h2
theorem q_asg3 {i j m : Nat} {x : α × β × γ} (h : EvR te σ W (rT3 r s t) x) (k : ∀ u w y (W1 : Wd F), Le W W1 → r.rel W1.G u x.1 → s.rel W1.G w x.2.1 → t.rel W1.G y x.2.2 → tz D (((σ.set i (some u)).set j (some w)).set m (some y)) W1.H) : tSeq (tAsg te (gT3 K i j m)) tz D σ W.H :=
  h W (Le.refl _) _ fun v W1 l hv => g_t3 hv fun u w y h1 h2 h3 => k u w y W1 l h1 h2 h3
theorem s_ret {x : α} (h : EvR te σ W r x) (k : ∀ v (W1 : Wd F), r.rel W1.G v x → D.rt v W1.H) : tRet te D σ W.H := h W (Le.refl _) _ fun v W1 _ hv => k v W1 hv
theorem s_retN {P : α → Prop} (h : EvN te σ W r P) (k : ∀ v (W1 : Wd F) x, r.rel W1.G v x → P x → D.rt v W1.H) : tRet te D σ W.H := h W (Le.refl _) _ fun v W1 x _ hv hx => k v W1 x hv hx
theorem s_if {b : Bool} (h : EvB tt σ W b) (h1 : b = true → ∀ W1 : Wd F, Le W W1 → tx D σ W1.H) (h2 : b = false → ∀ W1 : Wd F, Le W W1 → ty D σ W1.H) : tIfS tt tx ty D σ W.H := h W (Le.refl _) _ fun W1 l => by
  cases b with
  | true => exact iteT (h1 rfl W1 l)
  | false => exact iteF (h2 rfl W1 l)
theorem q_if {b : Bool} (h : EvB tt σ W b) (h1 : b = true → ∀ W1 : Wd F, Le W W1 → tx { D with nx := tz D } σ W1.H) (h2 : b = false → ∀ W1 : Wd F, Le W W1 → ty { D with nx := tz D } σ W1.H) : tSeq (tIfS tt tx ty) tz D σ W.H := s_if (D := { D with nx := tz D }) h h1 h2
/-- an if without else -/
theorem q_when {b : Bool} (h : EvB tt σ W b) (h1 : b = true → ∀ W1 : Wd F, Le W W1 → tx { D with nx := tz D } σ W1.H) (h2 : b = false → ∀ W1 : Wd F, Le W W1 → tz D σ W1.H) : tSeq (tIfS tt tx tNext) tz D σ W.H := s_if (D := { D with nx := tz D }) h h1 h2
theorem s_when {b : Bool} (h : EvB tt σ W b) (h1 : b = true → ∀ W1 : Wd F, Le W W1 → tx D σ W1.H) (h2 : b = false → ∀ W1 : Wd F, Le W W1 → D.nx σ W1.H) : tIfS tt tx tNext D σ W.H := s_if h h1 h2
theorem q_ifN {P : Bool → Prop} (h : EvBN tt σ W P) (h1 : P true → ∀ W1 : Wd F, Le W W1 → tx { D with nx := tz D } σ W1.H) (h2 : P false → ∀ W1 : Wd F, Le W W1 → ty { D with nx := tz D } σ W1.H) : tSeq (tIfS tt tx ty) tz D σ W.H := h W (Le.refl _) _ fun W1 b l hb => by
  cases b with
  | true => exact iteT (h1 hb W1 l)
  | false => exact iteF (h2 hb W1 l)
theorem q_drop {x : α} (h : EvR te σ W r x) (k : ∀ (W1 : Wd F), Le W W1 → tz D σ W1.H) : tSeq (tDrop te) tz D σ W.H := h W (Le.refl _) _ fun v W1 l hv => k W1 l
theorem s_app {i : Nat} {p : Addr} {xs : List α} {x : α} (hi : σ[i]? = some (some (.ref p))) (o : OwnL W p r xs) (h : EvR te σ W r x) (hz : xs.length < 100000)
    (k : ∀ (W1 : Wd F), Kp p W W1 → OwnL W1 p r (xs ++ [x]) → D.nx σ W1.H) : tDrop (tBM K "list" rAppend (tVar i) (tCons te tNil)) D σ W.H := by
  obtain ⟨vs, h1, h2⟩ := o.ex
  refine ⟨_, hi, .inl ⟨rfl, _, sqL_of (Ex.refl _) h1.h⟩, h W (Le.refl _) _ fun v W1 l hv => ⟨p, vs, v, rfl, rfl, (h1.up l).h, by rw [h2.1]; exact Nat.lt_of_lt_of_le hz (by decide), ?_⟩⟩
  have o1 := h1.up l
  exact k (W1.put p (.lst (vs ++ [v])) o1.z o1.g) ⟨l.ex, fun q u ne x => (x.up l).put ne _ _⟩ ⟨_, W1.put_at o1.z o1.g, (h2.imp fun _ _ => r.mono l.ex).snoc hv⟩
theorem q_app {i : Nat} {p : Addr} {xs : List α} {x : α} (hi : σ[i]? = some (some (.ref p))) (o : OwnL W p r xs) (h : EvR te σ W r x) (hz : xs.length < 100000)
    (k : ∀ (W1 : Wd F), Kp p W W1 → OwnL W1 p r (xs ++ [x]) → tz D σ W1.H) : tSeq (tDrop (tBM K "list" rAppend (tVar i) (tCons te tNil))) tz D σ W.H := s_app (D := { D with nx := tz D }) hi o h hz k
/-- a plain int += -/
theorem q_augI {i : Nat} {f : Int → Int → Int} {a b : Int} (hx : σ[i]? = some (some (.int a))) (h : EvR te σ W rInt b) (k : ∀ W1 : Wd F, Le W W1 → tz D (σ.set i (some (.int (f a b)))) W1.H) : tSeq (tAug i te (ipI f)) tz D σ W.H :=
  ⟨_, hx, h W (Le.refl _) _ fun v W1 l hv => ⟨a, b, rfl, hv, k W1 l⟩⟩
theorem s_augI {i : Nat} {f : Int → Int → Int} {a b : Int} (hx : σ[i]? = some (some (.int a))) (h : EvR te σ W rInt b) (k : ∀ W1 : Wd F, Le W W1 → D.nx (σ.set i (some (.int (f a b)))) W1.H) : tAug i te (ipI f) D σ W.H :=
  ⟨_, hx, h W (Le.refl _) _ fun v W1 l hv => ⟨a, b, rfl, hv, k W1 l⟩⟩

/-! ### loops -/
/-- what a turn must reach: a world later than W -/
def Nx (W : Wd F) (P : L2.St → Wd F → Prop) : L2.St → Hp → Prop := fun σ H => ∃ W1 : Wd F, W1.H = H ∧ Wk W W1 ∧ P σ W1
theorem Nx.mk {P : L2.St → Wd F → Prop} (l : Wk W W1) (h : P σ W1) : Nx W P σ W1.H := ⟨W1, rfl, l, h⟩
/-- the shape of a loop from W on: its word, the turn, the end -/
def LoopL (W : Wd F) (r : Rp α) (xs : List α) (g : TG) (tx : TS) (D : Ends) (nx : L2.St → Hp → Prop) (σ : L2.St) : Prop := ∃ P : Nat → L2.St → Wd F → Prop, P 0 σ W ∧
    (∀ i x v σ' (W1 : Wd F), Wk W W1 → xs[i]? = some x → r.rel W1.G v x → P i σ' W1 → g v σ' W1.H fun σ2 H2 => tx { D with nx := Nx W (P (i + 1)), ct := Nx W (P (i + 1)), bk := nx } σ2 H2) ∧
    (∀ σ' (W1 : Wd F), Wk W W1 → P xs.length σ' W1 → nx σ' W1.H)
theorem s_forL {xs : List α} {g : TG} (h : EvR tl σ W (rList r) xs) (k : ∀ W1 : Wd F, Le W W1 → LoopL W1 r xs g tx D D.nx σ) : tFor (iList K tl) g tx D σ W.H := by
  refine h W (Le.refl _) _ fun v W1 l hv => ?_
  obtain ⟨a, vs, rfl, h1, h2⟩ := hv
  obtain ⟨P, h0, hs, hd⟩ := k W1 l
  refine ⟨a, rfl, ⟨vs, sqL_of W1.gh h1⟩, for_list (K := K) (a := a) (xs := vs) (fun i => Nx W1 (P i)) ⟨W1, rfl, Wk.refl _, h0⟩ ?_ ?_ ?_⟩
  · rintro i σ' _ _ ⟨W2, rfl, l2, _⟩
    exact sqL_of W2.gh (l2.ex _ _ h1)
  · rintro i y σ' _ hi ⟨W2, rfl, l2, p⟩
    obtain ⟨x, hx, hr⟩ := h2.getv hi
    exact hs i x y σ' W2 l2 hx (r.mono l2.ex hr) p
  · rintro σ' _ ⟨W2, rfl, l2, p⟩
    rw [h2.1] at p
    exact hd σ' W2 l2 p
theorem q_forL {xs : List α} {g : TG} (h : EvR tl σ W (rList r) xs) (k : ∀ W1 : Wd F, Le W W1 → LoopL W1 r xs g tx D (tz D) σ) : tSeq (tFor (iList K tl) g tx) tz D σ W.H := s_forL (D := { D with nx := tz D }) h k
theorem s_forT {xs : List α} {g : TG} (h : EvR tl σ W (rTup r) xs) (k : ∀ W1 : Wd F, Le W W1 → LoopL W1 r xs g tx D D.nx σ) : tFor (iTup K tl) g tx D σ W.H := by
  refine h W (Le.refl _) _ fun v W1 l hv => ?_
  obtain ⟨a, vs, rfl, h1, h2⟩ := hv
  obtain ⟨P, h0, hs, hd⟩ := k W1 l
  refine ⟨a, rfl, ⟨vs, sqT_of W1.gh h1⟩, for_tup (K := K) (a := a) (xs := vs) (fun i => Nx W1 (P i)) ⟨W1, rfl, Wk.refl _, h0⟩ ?_ ?_ ?_⟩
  · rintro i σ' _ _ ⟨W2, rfl, l2, _⟩
    exact sqT_of W2.gh (l2.ex _ _ h1)
  · rintro i y σ' _ hi ⟨W2, rfl, l2, p⟩
    obtain ⟨x, hx, hr⟩ := h2.getv hi
    exact hs i x y σ' W2 l2 hx (r.mono l2.ex hr) p
  · rintro σ' _ ⟨W2, rfl, l2, p⟩
    rw [h2.1] at p
    exact hd σ' W2 l2 p
/-- over range(n) -/
def LoopR (W : Wd F) (n : Int) (g : TG) (tx : TS) (D : Ends) (nx : L2.St → Hp → Prop) (σ : L2.St) : Prop := ∃ P : Nat → L2.St → Wd F → Prop, P 0 σ W ∧
    (∀ (i : Nat) σ' (W1 : Wd F), Wk W W1 → (i : Int) < n → P i σ' W1 → g (.int (i : Int)) σ' W1.H fun σ2 H2 => tx { D with nx := Nx W (P (i + 1)), ct := Nx W (P (i + 1)), bk := nx } σ2 H2) ∧
    (∀ σ' (W1 : Wd F), Wk W W1 → P n.toNat σ' W1 → nx σ' W1.H)
theorem s_forRN {g : TG} {B : Int → Prop} (h : EvN ta σ W rInt B) (hb : ∀ n, B n → -1000000 ≤ n ∧ n ≤ 1000000) (k : ∀ (W1 : Wd F) n, Le W W1 → B n → LoopR W1 n g tx D D.nx σ) : tFor (iRng1 (tCons ta tNil)) g tx D σ W.H := by
  refine h W (Le.refl _) _ fun v W1 n l hv hn => ?_
  have hv : v = .int n := hv
  subst hv
  obtain ⟨P, h0, hs, hd⟩ := k W1 n l hn
  have := hb n hn
  refine ⟨n, rfl, by omega, by omega, for_range (lo := 0) (n := n.toNat) (fun i => Nx W1 (P i)) ⟨W1, rfl, Wk.refl _, h0⟩ ?_ ?_⟩
  · rintro i σ' _ hi ⟨W2, rfl, l2, p⟩
    rw [Int.zero_add]
    exact hs i σ' W2 l2 (by omega) p
  · rintro σ' _ ⟨W2, rfl, l2, p⟩
    exact hd σ' W2 l2 p
theorem s_forR {g : TG} {n : Int} (h : EvR ta σ W rInt n) (hb : -1000000 ≤ n ∧ n ≤ 1000000) (k : ∀ W1 : Wd F, Le W W1 → LoopR W1 n g tx D D.nx σ) : tFor (iRng1 (tCons ta tNil)) g tx D σ W.H :=
  s_forRN h.n (fun m e => by subst e; exact hb) fun W1 m l e => by subst e; exact k W1 l
theorem q_forRN {g : TG} {B : Int → Prop} (h : EvN ta σ W rInt B) (hb : ∀ n, B n → -1000000 ≤ n ∧ n ≤ 1000000) (k : ∀ (W1 : Wd F) n, Le W W1 → B n → LoopR W1 n g tx D (tz D) σ) : tSeq (tFor (iRng1 (tCons ta tNil)) g tx) tz D σ W.H := s_forRN (D := { D with nx := tz D }) h hb k
theorem q_forR {g : TG} {n : Int} (h : EvR ta σ W rInt n) (hb : -1000000 ≤ n ∧ n ≤ 1000000) (k : ∀ W1 : Wd F, Le W W1 → LoopR W1 n g tx D (tz D) σ) : tSeq (tFor (iRng1 (tCons ta tNil)) g tx) tz D σ W.H := s_forR (D := { D with nx := tz D }) h hb k
/-- for i, target in enumerate(xs) -/
def LoopE (W : Wd F) (r : Rp α) (xs : List α) (j : Nat) (g : TG) (tx : TS) (D : Ends) (nx : L2.St → Hp → Prop) (σ : L2.St) : Prop := ∃ P : Nat → L2.St → Wd F → Prop, P 0 σ W ∧
    (∀ (m : Nat) x v σ' (W1 W2 : Wd F), Wk W W1 → Le W1 W2 → xs[m]? = some x → r.rel W2.G v x → P m σ' W1 → g v (σ'.set j (some (.int (m : Int)))) W2.H fun σ2 H2 => tx { D with nx := Nx W (P (m + 1)), ct := Nx W (P (m + 1)), bk := nx } σ2 H2) ∧
    (∀ σ' (W1 : Wd F), Wk W W1 → P xs.length σ' W1 → nx σ' W1.H)
theorem s_forE {xs : List α} {j : Nat} {g : TG} (h : EvR ta σ W (rList r) xs) (k : ∀ W1 : Wd F, Le W W1 → LoopE W1 r xs j g tx D D.nx σ) : tFor (iEnum K (tCons ta tNil)) (gTup K 2 (gCons (gName j) (gCons g gNil))) tx D σ W.H := by
  refine h W (Le.refl _) _ fun v W1 l hv => ?_
  obtain ⟨a, vs, rfl, h1, h2⟩ := hv
  obtain ⟨P, h0, hs, hd⟩ := k W1 l
  refine ⟨a, vs, rfl, sqL_of W1.gh h1, fun m c σ' H' => c = vs.length - m ∧ m ≤ vs.length ∧ Nx W1 (P m) σ' H', ⟨_, rfl, Nat.zero_le _, W1, rfl, Wk.refl _, h0⟩, ?_⟩
  rintro m c σ' _ ⟨rfl, hm, W2, rfl, l2, p⟩
  by_cases hlt : m < vs.length
  · obtain ⟨x, hx, hr⟩ := h2.getv (List.getElem?_eq_getElem hlt)
    refine .inr ⟨⟨vs, vs[m], sqL_of W2.gh (l2.ex _ _ h1), by simp [hlt]⟩, Nx W1 (P (m + 1)), fun σ3 H3 p3 => ⟨vs.length - (m + 1), by omega, rfl, hlt, p3⟩, fun y H3 hy => ?_⟩
    obtain ⟨T, y', rfl, hN, rfl, q⟩ := hy
    have e := q vs (sqL_of W2.gh (l2.ex _ _ h1))
    have e2 : y' = vs[m] := by
      rw [List.getElem?_eq_getElem hlt] at e
      exact (Option.some.inj e).symm
    subst e2
    refine ⟨T, _, rfl, sqT_of (W2.add T _ hN).gh (W2.add_at hN), rfl, _, _, rfl, _, _, rfl, ?_⟩
    have z := hs m x _ σ' W2 (W2.add T (.tup [.int ((m : Nat) : Int), vs[m]]) hN) l2 (W2.add_le hN) hx (r.mono (W2.add_le hN).ex (r.mono l2.ex hr)) p
    have gg : ∀ {g : TG} {v : V} {σ : L2.St} {H : Hp} {A B : L2.St → Hp → Prop}, A = B → g v σ H A → g v σ H B := fun e h => e ▸ h
    exact gg (by funext σ2 H2; exact propext ⟨fun y => ⟨rfl, y⟩, fun y => y.2⟩) z
  · have e : m = vs.length := by omega
    subst e
    rw [h2.1] at p
    exact .inl ⟨⟨vs, sqL_of W2.gh (l2.ex _ _ h1), Nat.le_refl _⟩, hd σ' W2 l2 p⟩
theorem q_forE {xs : List α} {j : Nat} {g : TG} (h : EvR ta σ W (rList r) xs) (k : ∀ W1 : Wd F, Le W W1 → LoopE W1 r xs j g tx D (tz D) σ) : tSeq (tFor (iEnum K (tCons ta tNil)) (gTup K 2 (gCons (gName j) (gCons g gNil))) tx) tz D σ W.H := s_forE (D := { D with nx := tz D }) h k
/-- while -/
theorem s_while (P : Nat → L2.St → Wd F → Prop) {m0 : Nat} (h0 : P m0 σ W)
    (hs : ∀ m σ' (W1 : Wd F), Wk W W1 → P m σ' W1 → ∃ b, EvB tt σ' W1 b ∧ (b = true → ∀ W2 : Wd F, Le W1 W2 → tx { D with nx := Nx W (fun σ3 W3 => ∃ m', m' < m ∧ P m' σ3 W3), ct := Nx W (fun σ3 W3 => ∃ m', m' < m ∧ P m' σ3 W3), bk := D.nx } σ' W2.H) ∧ (b = false → ∀ W2 : Wd F, Le W1 W2 → D.nx σ' W2.H)) : tWhile tt tx D σ W.H := by
  refine ⟨fun m => Nx W (P m), ⟨m0, W, rfl, Wk.refl _, h0⟩, ?_⟩
  rintro m σ' _ ⟨W1, rfl, l, p⟩
  obtain ⟨b, hb, h1, h2⟩ := hs m σ' W1 l p
  refine hb W1 (Le.refl _) _ fun W2 l2 => ?_
  cases b with
  | true => exact ⟨_, fun σ3 H3 ⟨W3, e, l3, m', hm, p3⟩ => ⟨m', hm, W3, e, l3, p3⟩, h1 rfl W2 l2⟩
  | false => exact h2 rfl W2 l2
theorem q_while (P : Nat → L2.St → Wd F → Prop) {m0 : Nat} (h0 : P m0 σ W)
    (hs : ∀ m σ' (W1 : Wd F), Wk W W1 → P m σ' W1 → ∃ b, EvB tt σ' W1 b ∧ (b = true → ∀ W2 : Wd F, Le W1 W2 → tx { D with nx := Nx W (fun σ3 W3 => ∃ m', m' < m ∧ P m' σ3 W3), ct := Nx W (fun σ3 W3 => ∃ m', m' < m ∧ P m' σ3 W3), bk := tz D } σ' W2.H) ∧ (b = false → ∀ W2 : Wd F, Le W1 W2 → tz D σ' W2.H)) : tSeq (tWhile tt tx) tz D σ W.H := s_while (D := { D with nx := tz D }) P h0 hs

/-! ### comprehensions -/
/-- one turn: nothing, or an item -/
def EvC (tt : TT) (te : TE) (σ : L2.St) (W : Wd F) (s : Rp β) (R : Option β → Prop) : Prop := ∀ W1 : Wd F, Le W W1 → ∀ Q : Option V → Hp → Prop,
  (∀ v (W2 : Wd F) y, Le W1 W2 → s.rel W2.G v y → R (some y) → Q (some v) W2.H) → (∀ W2 : Wd F, Le W1 W2 → R none → Q none W2.H) → tt σ W1.H fun b H3 => if b = true then te σ H3 fun v H4 => Q (some v) H4 else Q none H3
theorem EvC.mk {b : Bool} {y : β} (h1 : EvB tt σ W b) (h2 : b = true → EvR te σ W s y) : EvC tt te σ W s (· = if b then some y else none) := fun W1 l Q q1 q2 => h1 W1 l _ fun W2 l2 => by
  cases b with
  | true => exact iteT (h2 rfl W2 (l.trans l2) _ fun v W3 l3 hv => q1 v W3 y (l2.trans l3) hv rfl)
  | false => exact iteF (q2 W2 l2 rfl)
theorem EvC.all {P : β → Prop} (h2 : EvN te σ W s P) : EvC tYes te σ W s (fun o => ∃ y, o = some y ∧ P y) := fun W1 l Q q1 q2 => by
  show (if true = true then te σ W1.H (fun v H4 => Q (some v) H4) else Q none W1.H)
  exact iteT (h2 W1 l _ fun v W3 y l3 hv hy => q1 v W3 y l3 hv ⟨y, rfl, hy⟩)
theorem EvC.sel {y : β} {P : Bool → Prop} (h1 : EvBN tt σ W P) (h2 : EvR te σ W s y) : EvC tt te σ W s (fun o => (o = some y ∧ P true) ∨ (o = none ∧ P false)) := fun W1 l Q q1 q2 => h1 W1 l _ fun W2 b l2 hb => by
  cases b with
  | true => exact iteT (h2 W2 (l.trans l2) _ fun v W3 l3 hv => q1 v W3 y (l2.trans l3) hv (.inl ⟨rfl, hb⟩))
  | false => exact iteF (q2 W2 l2 (.inr ⟨rfl, hb⟩))
theorem EvC.imp {R R' : Option β → Prop} (h : EvC tt te σ W s R) (k : ∀ o, R o → R' o) : EvC tt te σ W s R' := fun W1 l Q q1 q2 => h W1 l Q (fun v W2 y l2 hv hy => q1 v W2 y l2 hv (k _ hy)) (fun W2 l2 hy => q2 W2 l2 (k _ hy))
/-- what a comprehension over xs may give -/
def LcR (R : α → Option β → Prop) (xs : List α) (zs : List β) : Prop := ∃ os : List (Option β), os.length = xs.length ∧ (∀ (i : Nat) x o, xs[i]? = some x → os[i]? = some o → R x o) ∧ zs = os.filterMap id
/-- behind i turns -/
def Acc (W : Wd F) (p : Addr) (s : Rp β) (R : α → Option β → Prop) (xs : List α) (i : Nat) (H : Hp) : Prop :=
  ∃ (W1 : Wd F) (zs : List β), W1.H = H ∧ Le W W1 ∧ OwnL W1 p s zs ∧ zs.length ≤ i ∧ LcR R (xs.take i) zs
theorem lcr_len {R : α → Option β → Prop} {xs : List α} {zs : List β} (h : LcR R xs zs) : zs.length ≤ xs.length := by
  obtain ⟨os, h1, _, rfl⟩ := h
  rw [← h1]; exact List.length_filterMap_le _ _
theorem lcr_snoc {R : α → Option β → Prop} {xs : List α} {zs : List β} {i : Nat} {x : α} {o : Option β} (h : LcR R (xs.take i) zs) (hx : xs[i]? = some x) (ho : R x o) : LcR R (xs.take (i + 1)) (zs ++ o.toList) := by
  obtain ⟨os, h1, h2, rfl⟩ := h
  have hi : i < xs.length := (List.getElem?_eq_some_iff.mp hx).1
  have e : xs.take (i + 1) = xs.take i ++ [x] := by rw [List.take_add_one, hx]; rfl
  have l1 : (xs.take i).length = i := by rw [List.length_take]; omega
  refine ⟨os ++ [o], by rw [e, List.length_append, List.length_append, h1]; rfl, fun j y o' hy ho' => ?_, by cases o <;> simp⟩
  rw [e] at hy
  by_cases hj : j < i
  · rw [List.getElem?_append_left (by omega)] at hy
    rw [List.getElem?_append_left (by omega)] at ho'
    exact h2 j y o' hy ho'
  · rw [List.getElem?_append_right (by omega), l1] at hy
    rw [List.getElem?_append_right (by omega), h1, l1] at ho'
    have hz : j - i = 0 := by
      have := (List.getElem?_eq_some_iff.mp hy).1
      simp at this; omega
    rw [hz] at hy ho'
    cases hy; cases ho'
    exact ho
theorem acc_turn {p : Addr} {R : α → Option β → Prop} {xs : List α} {i : Nat} {x : α} {σ2 : L2.St} {W1 : Wd F} {zs : List β} (hf : W.H p = none) (l : Le W W1) (o : OwnL W1 p s zs) (hz : zs.length ≤ i) (hi : i < 50000) (hl : LcR R (xs.take i) zs) (hx : xs[i]? = some x)
    (c : EvC tt te σ2 W s (R x)) : tt σ2 W1.H fun b H3 => if b = true then te σ2 H3 fun y H4 => ∃ acc, H4 p = some (.lst acc) ∧ acc.length < sizeLine ∧ Acc W p s R xs (i + 1) (upd H4 p (.lst (acc ++ [y]))) else Acc W p s R xs (i + 1) H3 := by
  refine c W1 l (fun o H => match o with | some y => ∃ acc, H p = some (.lst acc) ∧ acc.length < sizeLine ∧ Acc W p s R xs (i + 1) (upd H p (.lst (acc ++ [y]))) | none => Acc W p s R xs (i + 1) H) (fun v W2 y l2 hv hR => ?_) (fun W2 l2 hR => ?_)
  · obtain ⟨vs, h1, h2⟩ := (o.up l2).ex
    refine ⟨vs, h1.h, by rw [h2.1]; exact Nat.lt_of_lt_of_le (show zs.length < 100000 by omega) (by decide), W2.put p (.lst (vs ++ [v])) h1.z h1.g, zs ++ [y], rfl, le_put (l.trans l2) hf _ _, ⟨_, W2.put_at h1.z h1.g, h2.snoc hv⟩, by simp; omega, ?_⟩
    exact lcr_snoc hl hx hR
  · refine ⟨W2, zs, rfl, l.trans l2, o.up l2, by omega, ?_⟩
    have z := lcr_snoc hl hx hR
    simpa using z
theorem eon_lcL {xs : List α} {j : Nat} {ws : List Nat} {R : α → Option β → Prop} (h : EvR tl σ W (rList r) xs) (hz : xs.length ≤ 40000) (hw : ∀ x, wipe ((wipe σ ws).set j (some x)) ws = wipe σ ws)
    (c : ∀ (i : Nat) x v (W1 : Wd F), Le W W1 → xs[i]? = some x → r.rel W1.G v x → EvC tt te ((wipe σ ws).set j (some v)) W1 s (R x)) : EvON (tLc (iList K tl) (gName j) tt te ws) σ W s (LcR R xs) := fun W1 l Q q => by
  refine h W1 l _ fun v W2 l2 hv => ?_
  obtain ⟨a, vs, rfl, h1, h2⟩ := hv
  refine ⟨a, rfl, ⟨vs, sqL_of W2.gh h1⟩, fun p hp => lc_list (K := K) (a := a) (xs := vs) (Acc W2 p s R xs) ⟨W2.own p _ hp, [], rfl, W2.own_le hp, ⟨[], W2.own_at hp, All2.nil⟩, Nat.le_refl _, [], by simp, fun i x o hx => by simp at hx, rfl⟩ ?_ ?_ ?_⟩
  · rintro i _ _ ⟨W3, zs, rfl, l3, _⟩
    exact sqL_of W3.gh (l3.ex _ _ h1)
  · rintro i y _ hi ⟨W3, zs, rfl, l3, o, hzs, hl⟩
    obtain ⟨x, hx, hr⟩ := h2.getv hi
    have hi' := (List.getElem?_eq_some_iff.mp hx).1
    exact ⟨hw y, acc_turn hp l3 o hzs (by omega) hl hx (c i x y W2 (l.trans l2) hx hr)⟩
  · rintro _ ⟨W3, zs, rfl, l3, o, hzs, hl⟩
    rw [h2.1, List.take_length] at hl
    obtain ⟨ys, o1, o2⟩ := o.ex
    exact q p ys W3 zs (l2.trans l3) (le_fresh l2 hp) o1 o2 hl
theorem eon_lcR {n : Int} {j : Nat} {ws : List Nat} {R : Int → Option β → Prop} (h : EvR ta σ W rInt n) (hb : n ≤ 40000 ∧ -100000 ≤ n) (hw : ∀ x, wipe ((wipe σ ws).set j (some x)) ws = wipe σ ws)
    (c : ∀ (x : Int) (W1 : Wd F), Le W W1 → 0 ≤ x → x < n → EvC tt te ((wipe σ ws).set j (some (.int x))) W1 s (R x)) : EvON (tLc (iRng1 (tCons ta tNil)) (gName j) tt te ws) σ W s (LcR R (rg n)) := fun W1 l Q q => by
  refine h W1 l _ fun v W2 l2 hv => ?_
  refine ⟨n, by rw [show v = .int n from hv], by omega, by omega, fun p hp => lc_range (lo := 0) (n := n.toNat) (Acc W2 p s R (rg n)) ⟨W2.own p _ hp, [], rfl, W2.own_le hp, ⟨[], W2.own_at hp, All2.nil⟩, Nat.le_refl _, [], by simp, fun i x o hx => by simp at hx, rfl⟩ ?_ ?_⟩
  · rintro i _ hi ⟨W3, zs, rfl, l3, o, hzs, hl⟩
    rw [Int.zero_add]
    exact ⟨hw _, acc_turn hp l3 o hzs (by omega) hl (rg_get.mpr ⟨hi, rfl⟩) (c i W2 (l.trans l2) (by omega) (by omega))⟩
  · rintro _ ⟨W3, zs, rfl, l3, o, hzs, hl⟩
    have e : (rg n).take n.toNat = rg n := by rw [List.take_of_length_le (by rw [rg_len]; exact Nat.le_refl _)]
    rw [e] at hl
    obtain ⟨ys, o1, o2⟩ := o.ex
    exact q p ys W3 zs (l2.trans l3) (le_fresh l2 hp) o1 o2 hl
theorem lcr_fm {f : α → Bool} {g : α → β} {xs : List α} {zs : List β} (h : LcR (fun x o => o = if f x then some (g x) else none) xs zs) : zs = (xs.filter f).map g := by
  obtain ⟨os, h1, h2, rfl⟩ := h
  have e : os = xs.map fun x => if f x then some (g x) else none := by
    apply List.ext_getElem?
    intro i
    rw [List.getElem?_map]
    cases hx : xs[i]? with
    | none =>
      have : xs.length ≤ i := List.getElem?_eq_none_iff.mp hx
      exact List.getElem?_eq_none (by omega)
    | some x =>
      have hi := (List.getElem?_eq_some_iff.mp hx).1
      have hi' : i < os.length := by omega
      have := h2 i x os[i] hx (List.getElem?_eq_getElem hi')
      rw [List.getElem?_eq_getElem hi', this]; rfl
  subst e
  clear h1 h2
  induction xs with
  | nil => rfl
  | cons x xs ih =>
    rw [List.map_cons, List.filterMap_cons, List.filter_cons]
    by_cases hf : f x = true
    · simp [hf] at ih ⊢; exact ih
    · simp [hf] at ih ⊢; exact ih
theorem eo_lcL {xs : List α} {j : Nat} {ws : List Nat} (f : α → Bool) (g : α → β) (h : EvR tl σ W (rList r) xs) (hz : xs.length ≤ 40000) (hw : ∀ x, wipe ((wipe σ ws).set j (some x)) ws = wipe σ ws)
    (c1 : ∀ (i : Nat) x v (W1 : Wd F), Le W W1 → xs[i]? = some x → r.rel W1.G v x → EvB tt ((wipe σ ws).set j (some v)) W1 (f x))
    (c2 : ∀ (i : Nat) x v (W1 : Wd F), Le W W1 → xs[i]? = some x → r.rel W1.G v x → f x = true → EvR te ((wipe σ ws).set j (some v)) W1 s (g x)) : EvO (tLc (iList K tl) (gName j) tt te ws) σ W s ((xs.filter f).map g) := fun W1 l Q q =>
  eon_lcL (R := fun x o => o = if f x then some (g x) else none) h hz hw (fun i x v W1 l hx hr => EvC.mk (c1 i x v W1 l hx hr) (c2 i x v W1 l hx hr)) W1 l Q fun p vs W2 zs l2 hp o a hl => q p vs W2 l2 hp o (lcr_fm hl ▸ a)
theorem eo_lcR {n : Int} {j : Nat} {ws : List Nat} (f : Int → Bool) (g : Int → β) (h : EvR ta σ W rInt n) (hb : n ≤ 40000 ∧ -100000 ≤ n) (hw : ∀ x, wipe ((wipe σ ws).set j (some x)) ws = wipe σ ws)
    (c1 : ∀ (x : Int) (W1 : Wd F), Le W W1 → 0 ≤ x → x < n → EvB tt ((wipe σ ws).set j (some (.int x))) W1 (f x))
    (c2 : ∀ (x : Int) (W1 : Wd F), Le W W1 → 0 ≤ x → x < n → f x = true → EvR te ((wipe σ ws).set j (some (.int x))) W1 s (g x)) : EvO (tLc (iRng1 (tCons ta tNil)) (gName j) tt te ws) σ W s (((rg n).filter f).map g) := fun W1 l Q q =>
  eon_lcR (R := fun x o => o = if f x then some (g x) else none) h hb hw (fun x W1 l h1 h2 => EvC.mk (c1 x W1 l h1 h2) (c2 x W1 l h1 h2)) W1 l Q fun p vs W2 zs l2 hp o a hl => q p vs W2 l2 hp o (lcr_fm hl ▸ a)

/-! ### calls -/
def Fn1 (r : Rp α) (s : Rp β) (pre : α → Prop) (f : α → β) : Sp := fun vs H Q _ => ∃ G v x, vs = [v] ∧ Ex G H ∧ r.rel G v x ∧ pre x ∧ ∀ u (W : Wd (pF G H)), s.rel W.G u (f x) → Q u W.H
def Fn2 (r : Rp α) (s : Rp β) (t : Rp γ) (pre : α → β → Prop) (f : α → β → γ) : Sp := fun vs H Q _ => ∃ G v w x y, vs = [v, w] ∧ Ex G H ∧ r.rel G v x ∧ s.rel G w y ∧ pre x y ∧ ∀ u (W : Wd (pF G H)), t.rel W.G u (f x y) → Q u W.H
def Fn3 (r : Rp α) (s : Rp β) (t : Rp γ) (q : Rp δ) (pre : α → β → γ → Prop) (f : α → β → γ → δ) : Sp := fun vs H Q _ => ∃ G v w y a b c, vs = [v, w, y] ∧ Ex G H ∧ r.rel G v a ∧ s.rel G w b ∧ t.rel G y c ∧ pre a b c ∧ ∀ u (W : Wd (pF G H)), q.rel W.G u (f a b c) → Q u W.H
theorem ev_call1 {pre : α → Prop} {f : α → β} {E : XK} {x : α} (ha : EvR ta σ W r x) (hp : pre x) : EvR (tCall (Fn1 r s pre f) [] E (tCons ta tNil)) σ W s (f x) := fun W1 l Q q =>
  ha W1 l _ fun v W2 l2 hv => ⟨W2.G, v, x, rfl, W2.gh, hv, hp, fun u W3 hu => q u (W2.back W3) (l2.trans (W2.back_le W3)) hu⟩
theorem ev_call2 {pre : α → β → Prop} {f : α → β → γ} {E : XK} {x : α} {y : β} (ha : EvR ta σ W r x) (hb : EvR tb σ W s y) (hp : pre x y) : EvR (tCall (Fn2 r s t pre f) [] E (tCons ta (tCons tb tNil))) σ W t (f x y) := fun W1 l Q q =>
  ha W1 l _ fun v W2 l2 hv => hb W2 (l.trans l2) _ fun w W3 l3 hw => ⟨W3.G, v, w, x, y, rfl, W3.gh, r.mono l3.ex hv, hw, hp, fun u W4 hu => q u (W3.back W4) ((l2.trans l3).trans (W3.back_le W4)) hu⟩
theorem ev_call3 {q : Rp δ} {pre : α → β → γ → Prop} {f : α → β → γ → δ} {E : XK} {x : α} {y : β} {z : γ} (ha : EvR ta σ W r x) (hb : EvR tb σ W s y) (hc : EvR tc σ W t z) (hp : pre x y z) : EvR (tCall (Fn3 r s t q pre f) [] E (tCons ta (tCons tb (tCons tc tNil)))) σ W q (f x y z) := fun W1 l Q k =>
  ha W1 l _ fun v W2 l2 hv => hb W2 (l.trans l2) _ fun w W3 l3 hw => hc W3 ((l.trans l2).trans l3) _ fun u W4 l4 hu => ⟨W4.G, v, w, u, x, y, z, rfl, W4.gh, r.mono (l3.ex.trans l4.ex) hv, s.mono l4.ex hw, hu, hp, fun u W5 h5 => k u (W4.back W5) (((l2.trans l3).trans l4).trans (W4.back_le W5)) h5⟩
end
end Q

namespace Q
open PySem L2
/-! ### operators that look at what they get -/
section
variable {X : Cx}
abbrev oStrs : R2 := fun x y H Q => ∃ i j, x = .str i ∧ y = .str j ∧ i.length + j.length ≤ sizeLine ∧ Q (.str (i ++ j)) H
def oAddA : R2 := fun x y H Q => oAdd x y H Q ∨ (rCat x y H Q ∨ oStrs x y H Q)
theorem op_addA : OpR X (binaryOp .Add) oAddA := op_add.or (op_cat.or op_add_str)
def oMulA : R2 := fun x y H Q => oMul x y H Q ∨ rRep x y H Q
theorem op_mulA : OpR X (binaryOp .Mult) oMulA := op_mul.or op_rep
def oEqA (K : PySem.W.Frag) : R2 := fun x y H Q => rEq x y H Q ∨ rEqD K x y H Q
theorem op_eqA (hu : X.A.units + 64 < cLine) : OpR X (compareOp .Eq) (oEqA X.K) := op_eq.or (op_eqD hu)
def oNeA (K : PySem.W.Frag) : R2 := fun x y H Q => rNe x y H Q ∨ rNeD K x y H Q
theorem op_neA (hu : X.A.units + 64 < cLine) : OpR X (compareOp .NotEq) (oNeA X.K) := op_ne.or (op_neD hu)
def oLenA (K : PySem.W.Frag) : List V → Hp → VK → Prop := fun xs H Q => oLen K xs H Q ∨ ∃ a kvs, xs = [V.ref a] ∧ H a = some (.dK kvs) ∧ Q (.int kvs.length) H
theorem call_lenA : CallR X (.builtin "len") (oLenA X.K) := call_len_seq.or call_lenD
end
section
variable {F : Fr} {K : PySem.W.Frag} {σ : L2.St} {W W1 : Wd F} {ta tb te tc tl : TE} {tt tu : TT} {α β γ δ : Type} {r : Rp α} {s : Rp β} {t : Rp γ} {D : Ends} {tz tx ty : TS}
theorem ev_addA {x y : Int} (ha : EvR ta σ W rInt x) (hb : EvR tb σ W rInt y) : EvR (tOp oAddA ta tb) σ W rInt (x + y) :=
  ev_op ha hb fun W1 v w Q l hv hw q => .inl ⟨x, y, hv, hw, q _ W1 (Le.refl _) rfl⟩
theorem ev_addN {P P' R : Int → Prop} (ha : EvN ta σ W rInt P) (hb : EvN tb σ W rInt P') (hR : ∀ x y, P x → P' y → R (x + y)) : EvN (tOp oAddA ta tb) σ W rInt R :=
  ev_opN ha hb fun W1 v w x y Q l hv hw hx hy q => .inl ⟨x, y, hv, hw, q _ W1 (x + y) (Le.refl _) rfl (hR x y hx hy)⟩
theorem ev_modN {P P' R : Int → Prop} (ha : EvN ta σ W rInt P) (hb : EvN tb σ W rInt P') (hC : ∀ x y, P x → P' y → 0 < y) (hR : ∀ x y, P x → P' y → R (x % y)) : EvN (tOp oMod ta tb) σ W rInt R := ev_IN (f := fun i j => i % j) ha hb hC hR fun _ _ => rfl
theorem ev_mulA {x y : Int} (ha : EvR ta σ W rInt x) (hb : EvR tb σ W rInt y) (hc : CMul x y) : EvR (tOp oMulA ta tb) σ W rInt (x * y) :=
  ev_op ha hb fun W1 v w Q l hv hw q => .inl ⟨x, y, hv, hw, hc, q _ W1 (Le.refl _) rfl⟩
theorem eo_catA {xs ys : List α} (ha : EvR ta σ W (rList r) xs) (hb : EvR tb σ W (rList r) ys) (hz : xs.length + ys.length ≤ 100000) : EvO (tOp oAddA ta tb) σ W r (xs ++ ys) := fun W1 l Q q =>
  ha W1 l _ fun v W2 l2 hv => hb W2 (l.trans l2) _ fun w W3 l3 hw => by
    obtain ⟨a, vs, rfl, h1, h2⟩ := hv
    obtain ⟨b, ws, rfl, h3, h4⟩ := hw
    have h2' := h2.imp fun _ _ => r.mono l3.ex
    exact .inr (.inl ⟨a, b, vs, ws, rfl, rfl, W3.gh _ _ (l3.ex _ _ h1), W3.gh _ _ h3, by rw [h2.1, h4.1]; exact Nat.le_trans hz (by decide), fun p hp =>
      q p _ (W3.own p _ hp) ((l2.trans l3).trans (W3.own_le hp)) (le_fresh (l2.trans l3) hp) (W3.own_at hp) (h2'.append h4)⟩)
theorem eon_catA {P P' : List α → Prop} (ha : EvN ta σ W (rList r) P) (hb : EvN tb σ W (rList r) P') (hz : ∀ xs ys, P xs → P' ys → xs.length + ys.length ≤ 100000) : EvON (tOp oAddA ta tb) σ W r (fun zs => ∃ xs ys, P xs ∧ P' ys ∧ zs = xs ++ ys) := fun W1 l Q q =>
  ha W1 l _ fun v W2 xs l2 hv hx => hb W2 (l.trans l2) _ fun w W3 ys l3 hw hy => by
    obtain ⟨a, vs, rfl, h1, h2⟩ := hv
    obtain ⟨b, ws, rfl, h3, h4⟩ := hw
    have h2' := h2.imp fun _ _ => r.mono l3.ex
    exact .inr (.inl ⟨a, b, vs, ws, rfl, rfl, W3.gh _ _ (l3.ex _ _ h1), W3.gh _ _ h3, by rw [h2.1, h4.1]; exact Nat.le_trans (hz xs ys hx hy) (by decide), fun p hp =>
      q p _ (W3.own p _ hp) (xs ++ ys) ((l2.trans l3).trans (W3.own_le hp)) (le_fresh (l2.trans l3) hp) (W3.own_at hp) (h2'.append h4) ⟨xs, ys, hx, hy, rfl⟩⟩)
theorem ev_eqA [DecidableEq α] {x y : α} (f : Fl r) (ha : EvR ta σ W r x) (hb : EvR tb σ W r y) : EvR (tOp (oEqA K) ta tb) σ W rBool (decide (x = y)) :=
  ev_op ha hb fun W1 v w Q l hv hw q => by
    obtain ⟨h1, h2⟩ := f _ _ _ _ _ _ hv hw
    refine .inl ⟨h1, ?_⟩
    rw [show decide (v = w) = decide (x = y) from decide_eq_decide.mpr h2]
    exact q _ W1 (Le.refl _) rfl
theorem ev_neA [DecidableEq α] {x y : α} (f : Fl r) (ha : EvR ta σ W r x) (hb : EvR tb σ W r y) : EvR (tOp (oNeA K) ta tb) σ W rBool (!decide (x = y)) :=
  ev_op ha hb fun W1 v w Q l hv hw q => by
    obtain ⟨h1, h2⟩ := f _ _ _ _ _ _ hv hw
    refine .inl ⟨h1, ?_⟩
    rw [show decide (v = w) = decide (x = y) from decide_eq_decide.mpr h2]
    exact q _ W1 (Le.refl _) rfl
/-- data, to be compared at any depth -/
structure Dt (r : Rp α) where
  d : α → PyData
  sh : ∀ x, SeqAt.shaped (d x) = true
  dp : ∀ K G H v x, Ex G H → r.rel G v x → Dp K H v (d x)
  eq : ∀ x y, PyData.eqv (d x) (d y) = true ↔ x = y
theorem ev_eqD [DecidableEq α] {x y : α} (f : Dt r) (ha : EvR ta σ W r x) (hb : EvR tb σ W r y) : EvR (tOp (oEqA K) ta tb) σ W rBool (decide (x = y)) :=
  ev_op ha hb fun W1 v w Q l hv hw q => by
    refine .inr ⟨f.d x, f.d y, f.dp K _ _ _ _ W1.gh hv, f.dp K _ _ _ _ W1.gh hw, f.sh _, f.sh _, ?_⟩
    have e : PyData.eqv (f.d x) (f.d y) = decide (x = y) := by
      have := f.eq x y
      by_cases h : x = y
      · simp [h, (f.eq y y).mpr rfl]
      · simp only [h, iff_false, Bool.not_eq_true] at this
        simp [h, this]
    rw [e]
    exact q _ W1 (Le.refl _) rfl
theorem ev_neD [DecidableEq α] {x y : α} (f : Dt r) (ha : EvR ta σ W r x) (hb : EvR tb σ W r y) : EvR (tOp (oNeA K) ta tb) σ W rBool (!decide (x = y)) :=
  ev_op ha hb fun W1 v w Q l hv hw q => by
    refine .inr ⟨f.d x, f.d y, f.dp K _ _ _ _ W1.gh hv, f.dp K _ _ _ _ W1.gh hw, f.sh _, f.sh _, ?_⟩
    have e : PyData.eqv (f.d x) (f.d y) = decide (x = y) := by
      have := f.eq x y
      by_cases h : x = y
      · simp [h, (f.eq y y).mpr rfl]
      · simp only [h, iff_false, Bool.not_eq_true] at this
        simp [h, this]
    rw [e]
    exact q _ W1 (Le.refl _) rfl
theorem dpAll {K : PySem.W.Frag} {H : Hp} {R : V → α → Prop} {d : α → PyData} (h : ∀ v x, R v x → Dp K H v (d x)) : ∀ {vs : List V} {xs : List α}, All2 R vs xs → DpAll K H vs (xs.map d)
  | [], [], _ => .nil
  | v :: vs, x :: xs, a => .cons (h v x (a.get (i := 0) rfl rfl)) (dpAll h (a.drop 1))
  | [], x :: xs, a => by have := a.1; simp at this
  | v :: vs, [], a => by have := a.1; simp at this
theorem ev_lenA {xs : List α} (ha : EvR ta σ W (rList r) xs) : EvR (tCB (oLenA K) (tCons ta tNil)) σ W rInt (xs.length : Nat) := fun W1 l Q q => ha W1 l _ fun v W2 l2 hv => by
  obtain ⟨a, vs, rfl, h1, h2⟩ := hv
  exact .inl ⟨a, vs, rfl, .inl (sqL_of W2.gh h1), q _ W2 l2 (by rw [h2.1]; rfl)⟩
theorem ev_lenD {xs : List (Int × α)} (ha : EvR ta σ W (rDict r) xs) : EvR (tCB (oLenA K) (tCons ta tNil)) σ W rInt (xs.length : Nat) := fun W1 l Q q => ha W1 l _ fun v W2 l2 hv => by
  obtain ⟨a, vs, rfl, h1, h2⟩ := hv
  exact .inr ⟨a, vs, rfl, W2.gh _ _ h1, q _ W2 l2 (by rw [h2.1]; rfl)⟩

/-! ### dicts of int keys -/
def dlook (xs : List (Int × α)) (k : Int) : Option α := (xs.find? fun p => decide (p.1 = k)).map (·.2)
def dput (xs : List (Int × α)) (k : Int) (v : α) : List (Int × α) := if (xs.any fun p => decide (p.1 = k)) = true then xs.map (fun p => if p.1 = k then (p.1, v) else p) else xs ++ [(k, v)]
def ddrop (xs : List (Int × α)) (k : Int) : List (Int × α) := xs.filter fun p => decide (p.1 ≠ k)
theorem DictR.nil {G : Hp} : DictR r G [] [] := ⟨rfl, fun i x h => by simp at h⟩
theorem DictR.cons_iff {G : Hp} {k : Key} {v : V} {kvs : List (Key × V)} {x : Int × α} {xs : List (Int × α)} : DictR r G ((k, v) :: kvs) (x :: xs) ↔ (k = Sum.inl x.1 ∧ r.rel G v x.2 ∧ DictR r G kvs xs) := by
  constructor
  · intro h
    obtain ⟨v', h1, h2⟩ := h.2 0 x rfl
    have h1' : (k, v) = (Sum.inl x.1, v') := Option.some.inj h1
    injection h1' with e1 e2
    subst e2
    refine ⟨e1, h2, by have := h.1; simpa using this, fun i y hy => ?_⟩
    obtain ⟨u, h3, h4⟩ := h.2 (i + 1) y hy
    exact ⟨u, h3, h4⟩
  · rintro ⟨rfl, h2, h3⟩
    refine ⟨by simp [h3.1], fun i y hy => ?_⟩
    cases i with
    | zero => cases hy; exact ⟨v, rfl, h2⟩
    | succ i => exact h3.2 i y hy
theorem DictR.ind {G : Hp} {P : List (Key × V) → List (Int × α) → Prop} (h0 : P [] []) (h1 : ∀ v x kvs xs, r.rel G v x.2 → DictR r G kvs xs → P kvs xs → P ((Sum.inl x.1, v) :: kvs) (x :: xs)) : ∀ {kvs : List (Key × V)} {xs : List (Int × α)}, DictR r G kvs xs → P kvs xs
  | [], [], _ => h0
  | (k, v) :: kvs, x :: xs, h => by
    obtain ⟨rfl, h2, h3⟩ := DictR.cons_iff.mp h
    exact h1 v x kvs xs h2 h3 (DictR.ind h0 h1 h3)
  | [], x :: xs, h => by have := h.1; simp at this
  | p :: kvs, [], h => by have := h.1; simp at this
theorem DictR.look {G : Hp} {kvs : List (Key × V)} {xs : List (Int × α)} {k : Int} (h : DictR r G kvs xs) : (dlook xs k = none ∧ valV kvs (Sum.inl k : Key) = none) ∨ ∃ v x, dlook xs k = some x ∧ valV kvs (Sum.inl k : Key) = some v ∧ r.rel G v x := by
  refine DictR.ind (P := fun kvs xs => (dlook xs k = none ∧ valV kvs (Sum.inl k : Key) = none) ∨ ∃ v x, dlook xs k = some x ∧ valV kvs (Sum.inl k : Key) = some v ∧ r.rel G v x) (.inl ⟨rfl, rfl⟩) (fun v x kvs xs hr _ ih => ?_) h
  by_cases e : x.1 = k
  · refine .inr ⟨v, x.2, ?_, valV_pos (by simp [e]), hr⟩
    simp [dlook, List.find?_cons, e]
  · rw [valV_neg (show ¬ (Sum.inl x.1 : Key) = Sum.inl k from fun z => e (Sum.inl.inj z))]
    have : dlook (x :: xs) k = dlook xs k := by simp [dlook, List.find?_cons, e]
    rw [this]; exact ih
theorem DictR.any {G : Hp} {kvs : List (Key × V)} {xs : List (Int × α)} {k : Int} (h : DictR r G kvs xs) : (kvs.any fun kv => decide (kv.1 = (Sum.inl k : Key))) = xs.any fun p => decide (p.1 = k) := by
  refine DictR.ind (P := fun kvs xs => (kvs.any fun kv => decide (kv.1 = (Sum.inl k : Key))) = xs.any fun p => decide (p.1 = k)) rfl (fun v x kvs xs hr _ ih => ?_) h
  rw [List.any_cons, List.any_cons, ih]
  by_cases e : x.1 = k <;> simp [e]
theorem DictR.append {G : Hp} {kvs kvs' : List (Key × V)} {xs xs' : List (Int × α)} (h : DictR r G kvs xs) (h' : DictR r G kvs' xs') : DictR r G (kvs ++ kvs') (xs ++ xs') :=
  DictR.ind (P := fun kvs xs => DictR r G (kvs ++ kvs') (xs ++ xs')) (by simpa using h') (fun v x kvs xs hr _ ih => DictR.cons_iff.mpr ⟨rfl, hr, ih⟩) h
theorem DictR.put {G : Hp} {kvs : List (Key × V)} {xs : List (Int × α)} {k : Int} {v : V} {x : α} (h : DictR r G kvs xs) (hr : r.rel G v x) : DictR r G (putK kvs (Sum.inl k : Key) v) (dput xs k x) := by
  unfold putK dput
  rw [h.any]
  split
  · refine DictR.ind (P := fun kvs xs => DictR r G (kvs.map fun kv => if kv.1 = (Sum.inl k : Key) then (kv.1, v) else kv) (xs.map fun p => if p.1 = k then (p.1, x) else p)) DictR.nil (fun u y kvs xs hu _ ih => ?_) h
    rw [List.map_cons, List.map_cons]
    by_cases e : y.1 = k
    · rw [if_pos (show (Sum.inl y.1 : Key) = Sum.inl k by rw [e]), if_pos e]
      exact DictR.cons_iff.mpr ⟨rfl, hr, ih⟩
    · rw [if_neg (show ¬ (Sum.inl y.1 : Key) = Sum.inl k from fun z => e (Sum.inl.inj z)), if_neg e]
      exact DictR.cons_iff.mpr ⟨rfl, hu, ih⟩
  · exact h.append (DictR.cons_iff.mpr ⟨rfl, hr, DictR.nil⟩)
theorem DictR.drop {G : Hp} {kvs : List (Key × V)} {xs : List (Int × α)} {k : Int} (h : DictR r G kvs xs) : DictR r G (dropK kvs (Sum.inl k : Key)) (ddrop xs k) := by
  refine DictR.ind (P := fun kvs xs => DictR r G (dropK kvs (Sum.inl k : Key)) (ddrop xs k)) DictR.nil (fun u y kvs xs hu _ ih => ?_) h
  unfold dropK ddrop at *
  rw [List.filter_cons, List.filter_cons]
  by_cases e : y.1 = k
  · simpa [e] using ih
  · have e2 : ¬ (Sum.inl y.1 : Key) = Sum.inl k := fun z => e (Sum.inl.inj z)
    simp only [ne_eq, e, e2, not_false_eq_true, decide_true, if_true]
    exact DictR.cons_iff.mpr ⟨rfl, hu, ih⟩
structure OwnD (W : Wd F) (p : Addr) (r : Rp α) (xs : List (Int × α)) : Prop where
  ex : ∃ kvs, Own W p (.dK kvs) ∧ DictR r W.G kvs xs
theorem OwnD.up {p : Addr} {xs : List (Int × α)} (l : Le W W1) (h : OwnD W p r xs) : OwnD W1 p r xs := by
  obtain ⟨vs, h1, h2⟩ := h.ex
  exact ⟨vs, h1.up l, h2.mono l.ex⟩
theorem OwnD.kp {p q : Addr} {xs : List (Int × α)} (l : Kp p W W1) (h : OwnD W q r xs) (ne : q ≠ p) : OwnD W1 q r xs := by
  obtain ⟨vs, h1, h2⟩ := h.ex
  exact ⟨vs, l.kp _ _ ne h1, h2.mono l.ex⟩
theorem OwnD.ne {p q : Addr} {xs : List (Int × α)} (h : OwnD W p r xs) (n : W.H q = none) : p ≠ q := by obtain ⟨vs, h1, h2⟩ := h.ex; exact h1.ne n
theorem OwnD.fz {p : Addr} {xs : List (Int × α)} (h : OwnD W p r xs) : ∃ W1 : Wd F, W1.H = W.H ∧ Kp p W W1 ∧ (rDict r).rel W1.G (.ref p) xs := by
  obtain ⟨vs, h1, h2⟩ := h.ex
  exact ⟨W.frz p _ h1, rfl, ⟨(W.frz_wk h1).ex, fun q u ne x => x.frz ne h1⟩, p, vs, rfl, W.frz_at h1, h2.mono (W.frz_wk h1).ex⟩
/-- d[k], d frozen -/
theorem ev_dget {xs : List (Int × α)} {k : Int} {x : α} (ha : EvR ta σ W (rDict r) xs) (hb : EvR tb σ W rInt k) (hx : dlook xs k = some x) : EvR (tDGet ta tb) σ W r x := fun W1 l Q q =>
  ha W1 l _ fun v W2 l2 hv => hb W2 (l.trans l2) _ fun w W3 l3 hw => by
    obtain ⟨a, kvs, rfl, h1, h2⟩ := hv
    have hw : w = .int k := hw
    subst hw
    rcases h2.look (k := k) with ⟨e, _⟩ | ⟨u, y, e, e2, hr⟩
    · rw [hx] at e; cases e
    · rw [hx] at e; cases e
      refine ⟨a, u, rfl, ?_, q u W3 (l2.trans l3) (r.mono l3.ex hr)⟩
      have := DGet.k (H := W3.H) (k := (Sum.inl k : Key)) (W3.gh _ _ (l3.ex _ _ h1))
      rw [e2] at this
      exact this
/-- k in d, d frozen; d of one's own, by its name -/
theorem ev_din {xs : List (Int × α)} {k : Int} (hb : EvR tb σ W rInt k) (ha : EvR ta σ W (rDict r) xs) : EvR (tDIn tb ta) σ W rBool (dlook xs k).isSome := fun W1 l Q q =>
  hb W1 l _ fun w W2 l2 hw => ha W2 (l.trans l2) _ fun v W3 l3 hv => by
    obtain ⟨a, kvs, rfl, h1, h2⟩ := hv
    have hw : w = .int k := hw
    subst hw
    refine ⟨a, _, rfl, DGet.k (H := W3.H) (k := (Sum.inl k : Key)) (W3.gh _ _ h1), ?_⟩
    rcases h2.look (k := k) with ⟨e, e2⟩ | ⟨u, y, e, e2, hr⟩
    · rw [e2]; exact q _ W3 (l2.trans l3) (by rw [e]; rfl)
    · rw [e2]; exact q _ W3 (l2.trans l3) (by rw [e]; rfl)
theorem ev_dnin {xs : List (Int × α)} {k : Int} (hb : EvR tb σ W rInt k) (ha : EvR ta σ W (rDict r) xs) : EvR (tDNotIn tb ta) σ W rBool (!(dlook xs k).isSome) := fun W1 l Q q =>
  hb W1 l _ fun w W2 l2 hw => ha W2 (l.trans l2) _ fun v W3 l3 hv => by
    obtain ⟨a, kvs, rfl, h1, h2⟩ := hv
    have hw : w = .int k := hw
    subst hw
    refine ⟨a, _, rfl, DGet.k (H := W3.H) (k := (Sum.inl k : Key)) (W3.gh _ _ h1), ?_⟩
    rcases h2.look (k := k) with ⟨e, e2⟩ | ⟨u, y, e, e2, hr⟩
    · rw [e2]; exact q _ W3 (l2.trans l3) (by rw [e]; rfl)
    · rw [e2]; exact q _ W3 (l2.trans l3) (by rw [e]; rfl)
theorem ev_ndnin {xs : List (Int × α)} {k : Int} {i : Nat} {p : Addr} (hb : EvR tb σ W rInt k) (hi : σ[i]? = some (some (.ref p))) (o : OwnD W p r xs) : EvR (tDNotIn tb (tVar i)) σ W rBool (!(dlook xs k).isSome) := fun W1 l Q q =>
  hb W1 l _ fun w W2 l2 hw => by
    obtain ⟨kvs, h1, h2⟩ := o.ex
    have hw : w = .int k := hw
    subst hw
    refine ⟨_, hi, p, _, rfl, DGet.k (H := W2.H) (k := (Sum.inl k : Key)) ((h1.up l).up l2).h, ?_⟩
    rcases h2.look (k := k) with ⟨e, e2⟩ | ⟨u, y, e, e2, hr⟩
    · rw [e2]; exact q _ W2 l2 (by rw [e]; rfl)
    · rw [e2]; exact q _ W2 l2 (by rw [e]; rfl)
theorem ev_odin {xs : List (Int × α)} {k : Int} {i : Nat} {p : Addr} (hb : EvR tb σ W rInt k) (hi : σ[i]? = some (some (.ref p))) (o : OwnD W p r xs) : EvR (tDIn tb (tVar i)) σ W rBool (dlook xs k).isSome := fun W1 l Q q =>
  hb W1 l _ fun w W2 l2 hw => by
    obtain ⟨kvs, h1, h2⟩ := o.ex
    have hw : w = .int k := hw
    subst hw
    refine ⟨_, hi, p, _, rfl, DGet.k (H := W2.H) (k := (Sum.inl k : Key)) ((h1.up l).up l2).h, ?_⟩
    rcases h2.look (k := k) with ⟨e, e2⟩ | ⟨u, y, e, e2, hr⟩
    · rw [e2]; exact q _ W2 l2 (by rw [e]; rfl)
    · rw [e2]; exact q _ W2 l2 (by rw [e]; rfl)
theorem ev_odget {xs : List (Int × α)} {k : Int} {x : α} {i : Nat} {p : Addr} (hi : σ[i]? = some (some (.ref p))) (o : OwnD W p r xs) (hb : EvR tb σ W rInt k) (hx : dlook xs k = some x) : EvR (tDGet (tVar i) tb) σ W r x := fun W1 l Q q =>
  ⟨_, hi, hb W1 l _ fun w W3 l3 hw => by
    obtain ⟨kvs, h1, h2⟩ := o.ex
    have hw : w = .int k := hw
    subst hw
    rcases h2.look (k := k) with ⟨e, _⟩ | ⟨u, y, e, e2, hr⟩
    · rw [hx] at e; cases e
    · rw [hx] at e; cases e
      refine ⟨p, u, rfl, ?_, q u W3 l3 (r.mono (l.ex.trans l3.ex) hr)⟩
      have := DGet.k (H := W3.H) (k := (Sum.inl k : Key)) ((h1.up l).up l3).h
      rw [e2] at this
      exact this⟩
/-- d[k] = e, d of one's own -/
theorem s_dput {i : Nat} {p : Addr} {xs : List (Int × α)} {k : Int} {x : α} (hi : σ[i]? = some (some (.ref p))) (o : OwnD W p r xs) (hb : EvR tb σ W rInt k) (h : EvR te σ W r x) (hz : xs.length < 100000)
    (c : ∀ W1 : Wd F, Kp p W W1 → OwnD W1 p r (dput xs k x) → D.nx σ W1.H) : sDPut (tVar i) tb te D σ W.H := by
  refine h W (Le.refl _) _ fun v W1 l hv => ⟨_, hi, hb W1 l _ fun w W2 l2 hw => ?_⟩
  obtain ⟨kvs, h1, h2⟩ := o.ex
  have hw : w = .int k := hw
  subst hw
  have o2 := (h1.up l).up l2
  refine ⟨p, _, rfl, DPut.k (k := (Sum.inl k : Key)) o2.h (by rw [h2.1]; exact Nat.lt_of_lt_of_le hz (by decide)), ?_⟩
  exact c (W2.put p _ o2.z o2.g) ⟨l.ex.trans l2.ex, fun q u ne x => ((x.up l).up l2).put ne _ _⟩ ⟨_, W2.put_at o2.z o2.g, (h2.mono (l.ex.trans l2.ex)).put (r.mono l2.ex hv)⟩
theorem q_dput {i : Nat} {p : Addr} {xs : List (Int × α)} {k : Int} {x : α} (hi : σ[i]? = some (some (.ref p))) (o : OwnD W p r xs) (hb : EvR tb σ W rInt k) (h : EvR te σ W r x) (hz : xs.length < 100000)
    (c : ∀ W1 : Wd F, Kp p W W1 → OwnD W1 p r (dput xs k x) → tz D σ W1.H) : tSeq (sDPut (tVar i) tb te) tz D σ W.H := s_dput (D := { D with nx := tz D }) hi o hb h hz c
/-- list(d) -/
theorem eo_keys {xs : List (Int × α)} (ha : EvR ta σ W (rDict r) xs) : EvO (tCB rListD (tCons ta tNil)) σ W rInt (xs.map (·.1)) := fun W1 l Q q => ha W1 l _ fun v W2 l2 hv => by
  obtain ⟨a, kvs, rfl, h1, h2⟩ := hv
  refine ⟨a, kvs, rfl, W2.gh _ _ h1, fun p hp => q p _ (W2.own p _ hp) (l2.trans (W2.own_le hp)) (le_fresh l2 hp) (W2.own_at hp) ?_⟩
  refine DictR.ind (P := fun kvs xs => All2 (rInt.rel W2.G) (kvs.map fun kv => kV kv.1) (xs.map (·.1))) All2.nil (fun v x kvs xs hr _ ih => ?_) h2
  exact ih.cons rfl
end
end Q

namespace Q
open PySem L2
/-! ### the net -/
structure NetD where
  needs : List Int
  sources : List Int
  lines : List (Int × Int × Int)
abbrev rLine : Rp (Int × Int × Int) := rT3 rInt rInt rInt
abbrev rRows : Rp (List Int × List Int × List (Int × Int × Int)) := rT3 (rList rInt) (rList rInt) (rList rLine)
def netFs (p q u : Addr) : List (Str × V) := [("_needs", .ref p), ("_sources", .ref q), ("_lines", .ref u)]
theorem look_put (f g : Str) (y : V) (fs : List (Str × V)) : ((f, y) :: fs).lookup g = if g = f then some y else fs.lookup g := by
  by_cases h : g = f
  · subst h; simp [List.lookup]
  · have e : (g == f) = false := by simpa using h
    rw [if_neg h]; simp [List.lookup, e]
theorem ne1 : ¬ (("_needs" : Str) = "_sources") := by decide +kernel
theorem ne2 : ¬ (("_needs" : Str) = "_lines") := by decide +kernel
theorem ne3 : ¬ (("_sources" : Str) = "_lines") := by decide +kernel
theorem nf_needs (p q u : Addr) : (netFs p q u).lookup ("_needs" : Str) = some (.ref p) := by unfold netFs; rw [look_put, if_pos rfl]
theorem nf_sources (p q u : Addr) : (netFs p q u).lookup ("_sources" : Str) = some (.ref q) := by unfold netFs; rw [look_put, if_neg (fun z => ne1 z.symm), look_put, if_pos rfl]
theorem nf_lines (p q u : Addr) : (netFs p q u).lookup ("_lines" : Str) = some (.ref u) := by unfold netFs; rw [look_put, if_neg (fun z => ne2 z.symm), look_put, if_neg (fun z => ne3 z.symm), look_put, if_pos rfl]
theorem nf_none (p q u : Addr) {m : Str} (h1 : ¬ m = "_needs") (h2 : ¬ m = "_sources") (h3 : ¬ m = "_lines") : (netFs p q u).lookup m = none := by
  unfold netFs; rw [look_put, if_neg h1, look_put, if_neg h2, look_put, if_neg h3]; rfl
def rNet (C : Addr) : Rp NetD := ⟨fun G v n => ∃ a dx p q u, v = .ref a ∧ G a = some (.ins C dx (netFs p q u)) ∧ (rList rInt).rel G (.ref p) n.needs ∧ (rList rInt).rel G (.ref q) n.sources ∧ (rList rLine).rel G (.ref u) n.lines,
  fun e ⟨a, dx, p, q, u, h1, h2, h3, h4, h5⟩ => ⟨a, dx, p, q, u, h1, e _ _ h2, (rList rInt).mono e h3, (rList rInt).mono e h4, (rList rLine).mono e h5⟩⟩
section
variable {F : Fr} {K : PySem.W.Frag} {σ : L2.St} {W W1 : Wd F} {ta tb te tc tl : TE} {tt tu : TT} {α β γ δ : Type} {r : Rp α} {s : Rp β} {t : Rp γ} {D : Ends} {tz tx ty : TS} {C : Addr} {n : NetD}
theorem ev_needs (cl : Cls K C) (na : NoAttr K C "_needs") (h : EvR ta σ W (rNet C) n) : EvR (tFld K ta "_needs") σ W (rList rInt) n.needs := fun W1 l Q q => h W1 l _ fun v W2 l2 hv => by
  obtain ⟨a, dx, p, p2, u, rfl, h2, h3, h4, h5⟩ := hv
  exact ⟨a, C, dx, _, _, rfl, W2.gh _ _ h2, cl, na, nf_needs _ _ _, q _ W2 l2 h3⟩
theorem ev_sources (cl : Cls K C) (na : NoAttr K C "_sources") (h : EvR ta σ W (rNet C) n) : EvR (tFld K ta "_sources") σ W (rList rInt) n.sources := fun W1 l Q q => h W1 l _ fun v W2 l2 hv => by
  obtain ⟨a, dx, p, p2, u, rfl, h2, h3, h4, h5⟩ := hv
  exact ⟨a, C, dx, _, _, rfl, W2.gh _ _ h2, cl, na, nf_sources _ _ _, q _ W2 l2 h4⟩
theorem ev_lines (cl : Cls K C) (na : NoAttr K C "_lines") (h : EvR ta σ W (rNet C) n) : EvR (tFld K ta "_lines") σ W (rList rLine) n.lines := fun W1 l Q q => h W1 l _ fun v W2 l2 hv => by
  obtain ⟨a, dx, p, p2, u, rfl, h2, h3, h4, h5⟩ := hv
  exact ⟨a, C, dx, _, _, rfl, W2.gh _ _ h2, cl, na, nf_lines _ _ _, q _ W2 l2 h5⟩
/-- a method without arguments -/
theorem ev_meth0 {m : Str} {pre : NetD → Prop} {f : NetD → β} {E : XK} (h1 : ¬ m = "_needs") (h2 : ¬ m = "_sources") (h3 : ¬ m = "_lines") (h : EvR ta σ W (rNet C) n) (hp : pre n) : EvR (tMeth C m (Fn1 (rNet C) s pre f) [] E ta tNil) σ W s (f n) := fun W1 l Q q =>
  h W1 l _ fun v W2 l2 hv => by
    obtain ⟨a, dx, p, p2, u, rfl, g2, g3, g4, g5⟩ := id hv
    exact ⟨a, dx, _, rfl, W2.gh _ _ g2, nf_none _ _ _ h1 h2 h3, W2.G, _, n, rfl, W2.gh, hv, hp, fun u W3 hu => q u (W2.back W3) (l2.trans (W2.back_le W3)) hu⟩
end

/-! ### the dice -/
def DiceAt (d s : Addr) (H : Hp) : Prop := ∃ p m c : Int, H d = some (.lst [.ref s, .int p, .int m, .int c]) ∧ 0 ≤ p ∧ 0 ≤ m ∧ m < 2147483647 ∧ 0 ≤ c
def dF (G H : Hp) (d s : Addr) (h : DiceAt d s H) : Fr where
  G0 := G
  H0 := H
  M := fun a => a = d
  I := DiceAt d s
  st := fun A B e z => by
    obtain ⟨p, m, c, h1, h2⟩ := z
    exact ⟨p, m, c, (e d rfl).trans h1, h2⟩
  has := fun A a z e => by
    subst e
    obtain ⟨p, m, c, h1, h2⟩ := z
    rw [h1]; exact fun z => nomatch z
  i0 := h
def Wd.inD (G H : Hp) (d s : Addr) (h : DiceAt d s H) (gh : Ex G H) (gn : G d = none) : Wd (dF G H d s h) where
  G := G
  H := H
  gh := gh
  gg := Ex.refl _
  kp := fun a _ g _ => ⟨g, rfl⟩
  mg := fun a e => by
    have e : a = d := e
    rw [e]; exact gn
  iv := h
section
variable {G0 H0 : Hp} {d sc : Addr} {h0 : DiceAt d sc H0}
def Wd.backD (W : Wd (dF G0 H0 d sc h0)) (W' : Wd (dF W.G W.H d sc W.iv)) : Wd (dF G0 H0 d sc h0) where
  G := W'.G
  H := W'.H
  gh := W'.gh
  gg := W.gg.trans W'.gg
  kp := fun a m g n => by
    obtain ⟨h1, h2⟩ := W.kp a m g n
    obtain ⟨h3, h4⟩ := W'.kp a m h1 (by rw [show (dF W.G W.H d sc W.iv).H0 a = W.H a from rfl, h2]; exact n)
    exact ⟨h3, h4.trans h2⟩
  mg := W'.mg
  iv := W'.iv
theorem Wd.backD_le (W : Wd (dF G0 H0 d sc h0)) (W' : Wd (dF W.G W.H d sc W.iv)) : Le W (W.backD W') := ⟨W'.gg, fun a m g n => W'.kp a m g n⟩
end
/-- a draw: some number from 0 on below the one that is handed in -/
def SpNext (K : PySem.W.Frag) : Sp := fun vs H Q _ => ∃ (G : Hp) (d s : Addr) (ns : List Int) (m : Int) (hd : DiceAt d s H), vs = [.ref d, .int m] ∧ Ex G H ∧ G d = none ∧ SqL K G s (ns.map V.int) ∧ 0 < m ∧ m < 1073741824 ∧
  ∀ (x : Int) (W : Wd (dF G H d s hd)), 0 ≤ x → x < m → Q (.int x) W.H
theorem sqL_mono {K : PySem.W.Frag} {G H : Hp} {a : Addr} {vs : List V} (e : Ex G H) (h : SqL K G a vs) : SqL K H a vs := by
  rcases h with (h | ⟨o, h⟩) | h
  · exact .inl (.inl (e _ _ h))
  · exact .inl (.inr ⟨o, e _ _ h⟩)
  · exact .inr h
section
variable {G0 H0 : Hp} {d sc : Addr} {h0 : DiceAt d sc H0} {K : PySem.W.Frag} {σ : L2.St} {W : Wd (dF G0 H0 d sc h0)} {tb : TE} {ns : List Int} {E : XK}
theorem ev_nextN {i : Nat} {P : Int → Prop} {R : Int → Prop} (hi : σ[i]? = some (some (.ref d))) (hs : SqL K G0 sc (ns.map V.int)) (hb : EvN tb σ W rInt P) (hP : ∀ m, P m → 0 < m ∧ m < 1073741824) (hR : ∀ m x, P m → 0 ≤ x → x < m → R x) : EvN (tCall (SpNext K) [] E (tCons (tVar i) (tCons tb tNil))) σ W rInt R := fun W1 l Q q =>
  ⟨_, hi, hb W1 l _ fun v W2 m l2 hv hm => ⟨W2.G, d, sc, ns, m, W2.iv, by rw [show v = .int m from hv]; rfl, W2.gh, W2.mg d rfl, sqL_mono W2.gg hs, (hP m hm).1, (hP m hm).2, fun x W3 h1 h2 =>
    q (.int x) (W2.backD W3) x (l2.trans (W2.backD_le W3)) rfl (hR m x hm h1 h2)⟩⟩
theorem ev_next {i : Nat} {m : Int} (hi : σ[i]? = some (some (.ref d))) (hs : SqL K G0 sc (ns.map V.int)) (hb : EvR tb σ W rInt m) (h1 : 0 < m) (h2 : m < 1073741824) : EvN (tCall (SpNext K) [] E (tCons (tVar i) (tCons tb tNil))) σ W rInt (fun x => 0 ≤ x ∧ x < m) :=
  ev_nextN hi hs hb.n (fun m' e => by subst e; exact ⟨h1, h2⟩) fun m' x e h3 h4 => by subst e; exact ⟨h3, h4⟩
end
/-- the state of a net's rows that a law draws -/
structure RowsOk (places lines : Int) (n : List Int × List Int × List (Int × Int × Int)) : Prop where
  n1 : 1 ≤ n.1.length ∧ (n.1.length : Int) ≤ places
  n2 : ∀ x ∈ n.1, 0 ≤ x ∧ x ≤ 1000000
  s1 : n.2.1.Nodup
  s2 : ∀ x ∈ n.2.1, 0 ≤ x ∧ x < (n.1.length : Int)
  l1 : (n.2.2.length : Int) ≤ lines
  l2 : ∀ x ∈ n.2.2, (0 ≤ x.1 ∧ x.1 < (n.1.length : Int)) ∧ (0 ≤ x.2.1 ∧ x.2.1 < (n.1.length : Int)) ∧ x.1 ≠ x.2.1 ∧ 0 ≤ x.2.2 ∧ x.2.2 ≤ 1000000
/-- the law's net: rows within the bounds -/
def SpNet (K : PySem.W.Frag) : Sp := fun vs H Q _ => ∃ (G : Hp) (d s : Addr) (ns : List Int) (a b : Int) (hd : DiceAt d s H), vs = [.ref d, .int a, .int b] ∧ Ex G H ∧ G d = none ∧ SqL K G s (ns.map V.int) ∧ 0 < a ∧ a ≤ 10 ∧ 0 ≤ b ∧ b ≤ 10 ∧
  ∀ v (W : Wd (dF G H d s hd)) n, rRows.rel W.G v n → RowsOk a b n → Q v W.H
section
variable {G0 H0 : Hp} {d sc : Addr} {h0 : DiceAt d sc H0} {K : PySem.W.Frag} {σ : L2.St} {W : Wd (dF G0 H0 d sc h0)} {ta tb : TE} {ns : List Int} {E : XK}
theorem ev_net {i : Nat} {a b : Int} (hi : σ[i]? = some (some (.ref d))) (hs : SqL K G0 sc (ns.map V.int)) (ha : EvR ta σ W rInt a) (hb : EvR tb σ W rInt b) (h1 : 0 < a) (h2 : a ≤ 10) (h3 : 0 ≤ b) (h4 : b ≤ 10) : EvN (tCall (SpNet K) [] E (tCons (tVar i) (tCons ta (tCons tb tNil)))) σ W rRows (RowsOk a b) := fun W1 l Q q =>
  ⟨_, hi, ha W1 l _ fun v W2 l2 hv => hb W2 (l.trans l2) _ fun w W3 l3 hw => ⟨W3.G, d, sc, ns, a, b, W3.iv, by rw [show v = .int a from hv, show w = .int b from hw]; rfl, W3.gh, W3.mg d rfl, sqL_mono W3.gg hs, h1, h2, h3, h4, fun u W4 n hu hn =>
    q u (W3.backD W4) n ((l2.trans l3).trans (W3.backD_le W4)) hu hn⟩⟩
end
/-- the dice are made: a list of one's own -/
def SpDice (K : PySem.W.Frag) : Sp := fun vs H Q _ => ∃ (s : Addr) (ns : List Int), vs = [.ref s] ∧ SqL K H s (ns.map V.int) ∧ ns.length ≤ 63 ∧ ∀ (d : Addr) (H' : Hp), H d = none → Ex H H' → DiceAt d s H' → Q (.ref d) H'
end Q
namespace Q
open PySem L2
/-! ### defs and methods of the text, as they stand behind the top -/
structure Df (K : PySem.W.Frag) (mg : Str → Option Value) (x : Str) (st : Stmt) (ps : List Str) where
  f : Addr
  fd : FuncData
  F : Fun K x x st f fd
  m : mg x = some (.ref f)
  b : Binds K fd ps []
structure Dm (K : PySem.W.Frag) (C : Addr) (x qual : Str) (st : Stmt) (ps : List Str) where
  f : Addr
  fd : FuncData
  F : Fun K x qual st f fd
  M : Meth K C x f
  b : Binds K fd ps []
end Q

namespace Q
open PySem L2
section
variable {F : Fr} {K : PySem.W.Frag} {σ : L2.St} {W W1 : Wd F} {ta tb te tc tl ti : TE} {tt tu : TT} {α β γ δ : Type} {r : Rp α} {s : Rp β} {t : Rp γ} {D : Ends} {tz tx ty : TS}
/-! ### one's own list, lent to be read -/
def Flat (r : Rp α) : Prop := ∀ (G G' : Hp) v x, r.rel G v x → r.rel G' v x
theorem flat_int : Flat rInt := fun _ _ _ _ h => h
theorem flat_bool : Flat rBool := fun _ _ _ _ h => h
theorem flat_str : Flat rStr := fun _ _ _ _ h => h
def Wd.thaw (W : Wd F) (p : Addr) (g : F.G0 p = none) : Wd F where
  G := fun a => if a = p then none else W.G a
  H := W.H
  gh := fun a o e => by
    by_cases h : a = p
    · simp [h] at e
    · simp [h] at e; exact W.gh a o e
  gg := fun a o e => by
    have h : a ≠ p := ne_of_none e g
    simp [h]; exact W.gg a o e
  kp := fun a m q n => by
    obtain ⟨h1, h2⟩ := W.kp a m q n
    refine ⟨?_, h2⟩
    by_cases h : a = p <;> simp [h]
    exact h1
  mg := fun a m => by
    by_cases h : a = p <;> simp [h]
    exact W.mg a m
  iv := W.iv
theorem thaw_le {W1 W2 : Wd F} {p : Addr} {o : HO} (x : Own W1 p o) (g : F.G0 p = none) (l : Le (W1.frz p o x) W2) : Le W1 (W2.thaw p g) := by
  refine ⟨fun a u e => ?_, fun a m q n => ?_⟩
  · have h : a ≠ p := ne_of_none e x.g
    show (if a = p then none else W2.G a) = some u
    rw [if_neg h]
    exact l.ex a u ((upd_ne h).trans e)
  · by_cases h : a = p
    · subst h
      refine ⟨if_pos rfl, ?_⟩
      have := W2.gh _ _ (l.ex _ _ (W1.frz_at x))
      exact this.trans x.h.symm
    · obtain ⟨h1, h2⟩ := l.kp a m ((upd_ne h).trans q) n
      exact ⟨(if_neg h).trans h1, h2⟩
theorem own_g0 {p : Addr} {o : HO} (x : Own W p o) : F.G0 p = none := W.gg.back x.g
theorem thaw_own {p q : Addr} {o : HO} {W2 : Wd F} (g : F.G0 p = none) (x : Own W2 q o) : Own (W2.thaw p g) q o := ⟨by
  show (if q = p then none else W2.G q) = none
  by_cases h : q = p <;> simp [h, x.g], x.h, x.z⟩
theorem lentB {p : Addr} {xs : List α} {b : Bool} (o : OwnL W p r xs) (h : ∀ W' : Wd F, Kp p W W' → (rList r).rel W'.G (.ref p) xs → EvB tt σ W' b) : EvB tt σ W b := fun W1 l Q q => by
  obtain ⟨vs, h1, h2⟩ := (o.up l).ex
  have z := h (W1.frz p _ h1) ⟨l.ex.trans (Ex.new h1.g), fun q u ne x => (x.up l).frz ne h1⟩ ⟨p, vs, rfl, W1.frz_at h1, h2.imp fun _ _ => r.mono (Ex.new h1.g)⟩
  exact z (W1.frz p _ h1) (Le.refl _) Q fun W2 l2 => q (W2.thaw p (own_g0 h1)) (thaw_le h1 _ l2)
theorem lentBN {p : Addr} {xs : List α} {P : Bool → Prop} (o : OwnL W p r xs) (h : ∀ W' : Wd F, Kp p W W' → (rList r).rel W'.G (.ref p) xs → EvBN tt σ W' P) : EvBN tt σ W P := fun W1 l Q q => by
  obtain ⟨vs, h1, h2⟩ := (o.up l).ex
  have z := h (W1.frz p _ h1) ⟨l.ex.trans (Ex.new h1.g), fun q u ne x => (x.up l).frz ne h1⟩ ⟨p, vs, rfl, W1.frz_at h1, h2.imp fun _ _ => r.mono (Ex.new h1.g)⟩
  exact z (W1.frz p _ h1) (Le.refl _) Q fun W2 b l2 hb => q (W2.thaw p (own_g0 h1)) b (thaw_le h1 _ l2) hb
theorem lentR {p : Addr} {xs : List α} {x : β} (f : Flat s) (o : OwnL W p r xs) (h : ∀ W' : Wd F, Kp p W W' → (rList r).rel W'.G (.ref p) xs → EvR te σ W' s x) : EvR te σ W s x := fun W1 l Q q => by
  obtain ⟨vs, h1, h2⟩ := (o.up l).ex
  have z := h (W1.frz p _ h1) ⟨l.ex.trans (Ex.new h1.g), fun q u ne x => (x.up l).frz ne h1⟩ ⟨p, vs, rfl, W1.frz_at h1, h2.imp fun _ _ => r.mono (Ex.new h1.g)⟩
  exact z (W1.frz p _ h1) (Le.refl _) Q fun v W2 l2 hv => q v (W2.thaw p (own_g0 h1)) (thaw_le h1 _ l2) (f _ _ _ _ hv)
theorem lentN {p : Addr} {xs : List α} {P : β → Prop} (f : Flat s) (o : OwnL W p r xs) (h : ∀ W' : Wd F, Kp p W W' → (rList r).rel W'.G (.ref p) xs → EvN te σ W' s P) : EvN te σ W s P := fun W1 l Q q => by
  obtain ⟨vs, h1, h2⟩ := (o.up l).ex
  have z := h (W1.frz p _ h1) ⟨l.ex.trans (Ex.new h1.g), fun q u ne x => (x.up l).frz ne h1⟩ ⟨p, vs, rfl, W1.frz_at h1, h2.imp fun _ _ => r.mono (Ex.new h1.g)⟩
  exact z (W1.frz p _ h1) (Le.refl _) Q fun v W2 x l2 hv hx => q v (W2.thaw p (own_g0 h1)) x (thaw_le h1 _ l2) (f _ _ _ _ hv) hx
theorem lentON {p : Addr} {xs : List α} {P : List β → Prop} (f : Flat s) (o : OwnL W p r xs) (h : ∀ W' : Wd F, Kp p W W' → (rList r).rel W'.G (.ref p) xs → EvON te σ W' s P) : EvON te σ W s P := fun W1 l Q q => by
  obtain ⟨vs, h1, h2⟩ := (o.up l).ex
  have z := h (W1.frz p _ h1) ⟨l.ex.trans (Ex.new h1.g), fun q u ne x => (x.up l).frz ne h1⟩ ⟨p, vs, rfl, W1.frz_at h1, h2.imp fun _ _ => r.mono (Ex.new h1.g)⟩
  exact z (W1.frz p _ h1) (Le.refl _) Q fun u ws W2 ys l2 hu x a hP => q u ws (W2.thaw p (own_g0 h1)) ys (thaw_le h1 _ l2) hu (thaw_own _ x) (a.imp fun _ _ => f _ _ _ _) hP
/-! ### draws in tests -/
theorem et_rN {P : Bool → Prop} (h : EvN te σ W rBool P) : EvBN (tTest te) σ W P := fun W1 l Q q => h W1 l _ fun v W2 b l2 hv hb => ⟨b, hv, q W2 b l2 hb⟩
theorem ev_eqN {P P' : Int → Prop} {R : Bool → Prop} (ha : EvN ta σ W rInt P) (hb : EvN tb σ W rInt P') (hR : ∀ x y, P x → P' y → R (decide (x = y))) : EvN (tOp (oEqA K) ta tb) σ W rBool R :=
  ev_opN ha hb fun W1 v w x y Q l hv hw hx hy q => by
    have hv : v = .int x := hv
    have hw : w = .int y := hw
    subst hv; subst hw
    refine .inl ⟨rfl, ?_⟩
    have e : decide (V.int x = V.int y) = decide (x = y) := by simp
    rw [e]
    exact q _ W1 _ (Le.refl _) rfl (hR x y hx hy)
theorem et_andN {a : Bool} {P : Bool → Prop} (h1 : EvB tt σ W a) (h2 : a = true → EvBN tu σ W P) : EvBN (tAnd tt tu) σ W (fun b => (a = true ∧ P b) ∨ (a = false ∧ b = false)) := fun W1 l Q q => h1 W1 l _ fun W2 l2 => by
  cases a with
  | true => exact iteT (h2 rfl W2 (l.trans l2) Q fun W3 b l3 hb => q W3 b (l2.trans l3) (.inl ⟨rfl, hb⟩))
  | false => exact iteF (q W2 false l2 (.inr ⟨rfl, rfl⟩))
theorem EvON.imp {P P' : List α → Prop} (h : EvON te σ W r P) (k : ∀ x, P x → P' x) : EvON te σ W r P' := fun W1 l Q q => h W1 l Q fun p vs W2 xs l2 hp x a hx => q p vs W2 xs l2 hp x a (k xs hx)
theorem EvBN.imp {P P' : Bool → Prop} (h : EvBN tt σ W P) (k : ∀ b, P b → P' b) : EvBN tt σ W P' := fun W1 l Q q => h W1 l Q fun W2 b l2 hb => q W2 b l2 (k b hb)
/-- an if without else whose ways meet -/
theorem q_whenCut {P : Bool → Prop} (Mid : L2.St → Wd F → Prop) (h : EvBN tt σ W P) (h1 : P true → ∀ W1 : Wd F, Le W W1 → (∀ σ' (W' : Wd F), Mid σ' W' → tz D σ' W'.H) → tx { D with nx := tz D } σ W1.H) (h2 : P false → ∀ W1 : Wd F, Le W W1 → Mid σ W1)
    (k : ∀ σ' (W' : Wd F), Mid σ' W' → tz D σ' W'.H) : tSeq (tIfS tt tx tNext) tz D σ W.H := h W (Le.refl _) _ fun W1 b l hb => by
  cases b with
  | true => exact iteT (h1 hb W1 l k)
  | false => exact iteF (k σ W1 (h2 hb W1 l))
/-! ### displays with draws -/
def EvLN (ta : TA) (σ : L2.St) (W : Wd F) (r : Rp α) (P : List α → Prop) : Prop := ∀ W1 : Wd F, Le W W1 → ∀ Q : List V → Hp → Prop, (∀ vs (W2 : Wd F) xs, Le W1 W2 → All2 (r.rel W2.G) vs xs → P xs → Q vs W2.H) → ta σ W1.H Q
theorem el_nilN : EvLN tNil σ W r (· = []) := fun W1 l Q q => q [] W1 [] (Le.refl _) All2.nil rfl
theorem el_consN {ts : TA} {P : α → Prop} {P' : List α → Prop} (h : EvN ta σ W r P) (hs : EvLN ts σ W r P') : EvLN (tCons ta ts) σ W r (fun xs => ∃ y ys, xs = y :: ys ∧ P y ∧ P' ys) := fun W1 l Q q =>
  h W1 l _ fun v W2 x l2 hv hx => hs W2 (l.trans l2) _ fun vs W3 xs l3 hvs hxs => q (v :: vs) W3 (x :: xs) (l2.trans l3) ((hvs).cons (r.mono l3.ex hv)) ⟨x, xs, rfl, hx, hxs⟩
theorem eo_lstN {ts : TA} {P : List α → Prop} (h : EvLN ts σ W r P) (hz : ∀ xs, P xs → xs.length ≤ 100000) : EvON (tLst ts) σ W r P := fun W1 l Q q =>
  h W1 l _ fun vs W2 xs l2 a hx => ⟨by rw [a.1]; exact Nat.le_trans (hz xs hx) (by decide), fun p hp => q p vs (W2.own p _ hp) xs (l2.trans (W2.own_le hp)) (le_fresh l2 hp) (W2.own_at hp) a hx⟩
theorem ev_ixLN {P : List α → Prop} {P' : Int → Prop} {R : α → Prop} (ha : EvN ta σ W (rList r) P) (hb : EvN tb σ W rInt P') (hx : ∀ xs i, P xs → P' i → 0 ≤ i ∧ ∃ x, xs[i.toNat]? = some x ∧ R x) : EvN (tOp (rIx K) ta tb) σ W r R :=
  ev_opN ha hb fun W1 v w xs i Q l hv hw h1 h2 q => by
    obtain ⟨a, vs, rfl, g1, g2⟩ := hv
    have hw : w = .int i := hw
    subst hw
    obtain ⟨h0, x, e1, hr⟩ := hx xs i h1 h2
    obtain ⟨u, h3, h4⟩ := g2.2 _ _ e1
    refine .inl ⟨a, vs, i, u, rfl, rfl, sqL_of W1.gh g1, ?_, q u W1 x (Le.refl _) h4 hr⟩
    have e : i = ((i.toNat : Nat) : Int) := by omega
    rw [e]; exact atI_nat h3
theorem eon_slN {P : List α → Prop} {P' : Int → Prop} (ha : EvN ta σ W (rList r) P) (hb : EvN tb σ W rInt P') (hj : ∀ j, P' j → 0 ≤ j) : EvON (tSl (rSlL K) ta tNoPart (tPart tb)) σ W r (fun zs => ∃ xs j, P xs ∧ P' j ∧ zs = xs.take j.toNat) := fun W1 l Q q => by
  refine ha W1 l _ fun v W2 xs l2 hv hx => ?_
  refine hb W2 (l.trans l2) _ fun w W3 j l3 hw hj' => ?_
  obtain ⟨a, vs, rfl, h1, h2⟩ := hv
  have hj0 := hj j hj'
  refine ⟨j, hw, ⟨a, vs, rfl, sqL_of W3.gh (l3.ex _ _ h1), fun p hp => ?_⟩⟩
  have e : cutV vs none (some j) = vs.take j.toNat := by
    unfold cutV HT.sIx
    simp only [if_neg (show ¬ j < 0 by omega), Nat.sub_zero, List.drop_zero]
    rw [Nat.min_def]
    split
    · rfl
    · rename_i hh
      rw [List.take_of_length_le (Nat.le_refl _), List.take_of_length_le (by omega)]
  rw [e]
  exact q p _ (W3.own p _ hp) (xs.take j.toNat) ((l2.trans l3).trans (W3.own_le hp)) (le_fresh (l2.trans l3) hp) (W3.own_at hp) ((h2.imp fun _ _ => r.mono l3.ex).take _) ⟨xs, j, hx, hj', rfl⟩
theorem eon_revN {P : List α → Prop} (ha : EvN ta σ W (rList r) P) : EvON (tRevL K ta) σ W r (fun zs => ∃ xs, P xs ∧ zs = xs.reverse) := fun W1 l Q q => by
  refine ha W1 l _ fun v W2 xs l2 hv hx => ?_
  obtain ⟨a, vs, rfl, h1, h2⟩ := hv
  exact ⟨a, vs, rfl, sqL_of W2.gh h1, fun p hp => q p _ (W2.own p _ hp) xs.reverse (l2.trans (W2.own_le hp)) (le_fresh l2 hp) (W2.own_at hp) h2.reverse ⟨xs, hx, rfl⟩⟩
theorem ev_t3N {P : α → Prop} {P' : β → Prop} {P'' : γ → Prop} (ha : EvN ta σ W r P) (hb : EvN tb σ W s P') (hc : EvN tc σ W t P'') : EvN (tTup (tCons ta (tCons tb (tCons tc tNil)))) σ W (rT3 r s t) (fun z => P z.1 ∧ P' z.2.1 ∧ P'' z.2.2) := fun W1 l Q q =>
  ha W1 l _ fun v W2 x l2 hv hx => hb W2 (l.trans l2) _ fun w W3 y l3 hw hy => hc W3 ((l.trans l2).trans l3) _ fun u W4 z l4 hu hz => ⟨by show 3 ≤ sizeLine; decide, fun p hp => q (.ref p) (W4.add p _ hp) (x, y, z) (((l2.trans l3).trans l4).trans (W4.add_le hp))
    ⟨p, v, w, u, rfl, W4.add_at hp, r.mono ((l3.ex.trans l4.ex).trans (W4.add_le hp).ex) hv, s.mono (l4.ex.trans (W4.add_le hp).ex) hw, t.mono (W4.add_le hp).ex hu⟩ ⟨hx, hy, hz⟩⟩
theorem s_appN {i : Nat} {p : Addr} {xs : List α} {P : α → Prop} (hi : σ[i]? = some (some (.ref p))) (o : OwnL W p r xs) (h : EvN te σ W r P) (hz : xs.length < 100000)
    (k : ∀ (W1 : Wd F) x, Kp p W W1 → P x → OwnL W1 p r (xs ++ [x]) → D.nx σ W1.H) : tDrop (tBM K "list" rAppend (tVar i) (tCons te tNil)) D σ W.H := by
  obtain ⟨vs, h1, h2⟩ := o.ex
  refine ⟨_, hi, .inl ⟨rfl, _, sqL_of (Ex.refl _) h1.h⟩, h W (Le.refl _) _ fun v W1 x l hv hx => ⟨p, vs, v, rfl, rfl, (h1.up l).h, by rw [h2.1]; exact Nat.lt_of_lt_of_le hz (by decide), ?_⟩⟩
  have o1 := h1.up l
  exact k (W1.put p (.lst (vs ++ [v])) o1.z o1.g) x ⟨l.ex, fun q u ne x => (x.up l).put ne _ _⟩ hx ⟨_, W1.put_at o1.z o1.g, (h2.imp fun _ _ => r.mono l.ex).snoc hv⟩
theorem s_asgON {i : Nat} {P : List α → Prop} (h : EvON te σ W r P) (k : ∀ p (W1 : Wd F) xs, Le W W1 → W.H p = none → OwnL W1 p r xs → P xs → D.nx (σ.set i (some (.ref p))) W1.H) : tAsg te (gName i) D σ W.H :=
  h W (Le.refl _) _ fun p vs W1 xs l hp x a hP => k p W1 xs l hp ⟨vs, x, a⟩ hP
theorem ev_emp : EvR (tLst tNil) σ W (rList r) [] := EvO.fz (eo_lst el_nil (Nat.zero_le _))
abbrev oInt1 : List V → Hp → VK → Prop := fun xs H Q => (∃ i, xs = [.int i] ∧ Q (.int i) H) ∨ ∃ k, xs = [.bl k] ∧ Q (.int (if k then 1 else 0)) H
theorem ev_intB {b : Bool} (h : EvR ta σ W rBool b) : EvR (tCB oInt1 (tCons ta tNil)) σ W rInt (if b then 1 else 0) := fun W1 l Q q => h W1 l _ fun v W2 l2 hv => .inr ⟨b, by rw [show v = .bl b from hv], q _ W2 l2 rfl⟩
theorem ev_intI {x : Int} (h : EvR ta σ W rInt x) : EvR (tCB oInt1 (tCons ta tNil)) σ W rInt x := fun W1 l Q q => h W1 l _ fun v W2 l2 hv => .inl ⟨x, by rw [show v = .int x from hv], q _ W2 l2 rfl⟩
/-- [x, y][int(test)] -/
theorem ev_pick2 {x y : α} {b : Bool} (ha : EvR ta σ W r x) (hb : EvR tb σ W r y) (hc : EvR tc σ W rBool b) : EvR (tOp (rIx K) (tLst (tCons ta (tCons tb tNil))) (tCB oInt1 (tCons tc tNil))) σ W r (if b then y else x) :=
  ev_ixL (EvO.fz (eo_lst (el_cons ha (el_cons hb el_nil)) (by simp))) (ev_intB hc) (by cases b <;> exact ⟨by decide, rfl⟩)
/-- an item by its place, with a default that is never told -/
theorem ev_ixD {xs : List Int} {i : Int} (ha : EvR ta σ W (rList rInt) xs) (hb : EvR tb σ W rInt i) (hi : 0 ≤ i ∧ i < (xs.length : Int)) : EvR (tOp (rIx K) ta tb) σ W rInt (xs.getD i.toNat 0) :=
  ev_ixL ha hb ⟨hi.1, by
    have : i.toNat < xs.length := by omega
    simp [List.getD, List.getElem?_eq_getElem this]⟩
theorem foldl_take {f : β → α → β} {b : β} {xs : List α} {i : Nat} {x : α} (h : xs[i]? = some x) : (xs.take (i + 1)).foldl f b = f ((xs.take i).foldl f b) x := by
  rw [List.take_add_one, h, List.foldl_append]; rfl
/-! ### what comprehensions with draws give -/
theorem lcr_all {P : β → Prop} {xs : List α} {zs : List β} (h : LcR (fun _ o => ∃ y, o = some y ∧ P y) xs zs) : zs.length = xs.length ∧ ∀ z ∈ zs, P z := by
  obtain ⟨os, h1, h2, rfl⟩ := h
  have key : ∀ (os : List (Option β)), (∀ o ∈ os, ∃ y, o = some y ∧ P y) → (os.filterMap id).length = os.length ∧ ∀ z ∈ os.filterMap id, P z := by
    intro os
    induction os with
    | nil => intro _; simp
    | cons o os ih =>
      intro h
      obtain ⟨y, rfl, hy⟩ := h o (by simp)
      obtain ⟨i1, i2⟩ := ih fun o' ho' => h o' (by simp [ho'])
      refine ⟨by simp [i1], fun z hz => ?_⟩
      simp at hz
      rcases hz with rfl | hz
      · exact hy
      · exact i2 z (by simpa using hz)
  rw [← h1]
  refine key os fun o ho => ?_
  obtain ⟨i, hi, e⟩ := List.getElem_of_mem ho
  have hi' : i < xs.length := by omega
  exact h2 i xs[i] o (List.getElem?_eq_getElem hi') (by rw [List.getElem?_eq_getElem hi, e])
theorem lcr_sub {P : α → Prop} {xs zs : List α} (h : LcR (fun x o => o = none ∨ (o = some x ∧ P x)) xs zs) : zs.Sublist xs ∧ ∀ z ∈ zs, P z := by
  obtain ⟨os, h1, h2, rfl⟩ := h
  induction xs generalizing os with
  | nil =>
    cases os with
    | nil => simp
    | cons o os => simp at h1
  | cons x xs ih =>
    cases os with
    | nil => simp at h1
    | cons o os =>
      obtain ⟨i1, i2⟩ := ih os (by simpa using h1) fun i y o' hy ho' => h2 (i + 1) y o' hy ho'
      rcases h2 0 x o rfl rfl with rfl | ⟨rfl, hx⟩
      · rw [List.filterMap_cons]
        exact ⟨i1.cons _, i2⟩
      · rw [List.filterMap_cons]
        exact ⟨i1.cons₂ _, fun z hz => by
          simp at hz
          rcases hz with rfl | hz
          · exact hx
          · exact i2 z (by simpa using hz)⟩
theorem LcR.imp {R R' : α → Option β → Prop} {xs : List α} {zs : List β} (h : LcR R xs zs) (k : ∀ x o, R x o → R' x o) : LcR R' xs zs := let ⟨os, h1, h2, h3⟩ := h; ⟨os, h1, fun i x o e1 e2 => k _ _ (h2 i x o e1 e2), h3⟩
theorem rg_nodup (n : Int) : (rg n).Nodup := by
  unfold rg List.Nodup
  refine List.pairwise_map.mpr ((List.nodup_range (n := n.toNat)).imp ?_)
  intro a b h e
  exact h (by omega)
theorem et_draw {G0 H0 : Hp} {d sc : Addr} {h0 : DiceAt d sc H0} {K : PySem.W.Frag} {σ : L2.St} {W : Wd (dF G0 H0 d sc h0)} {tb : TE} {ns : List Int} {E : XK} {i : Nat} {m c : Int} (hi : σ[i]? = some (some (.ref d))) (hs : SqL K G0 sc (ns.map V.int)) (hb : EvR tb σ W rInt m) (h1 : 0 < m) (h2 : m < 1073741824) :
    EvBN (tTest (tOp (oEqA K) (tCall (SpNext K) [] E (tCons (tVar i) (tCons tb tNil))) (tC (.int c)))) σ W (fun _ => True) := et_rN (ev_eqN (ev_next hi hs hb h1 h2) ev_int.n fun _ _ _ _ => trivial)
/-! ### data to be compared -/
structure Dc (r : Rp α) where
  d : α → PyData
  c : ∀ x, (d x).canLay0 = true
  n : Nat
  b : ∀ x, (d x).depth ≤ n
  dp : ∀ K G H v x, Ex G H → r.rel G v x → Dp K H v (d x)
  eq : ∀ x y, PyData.eqv (d x) (d y) = true ↔ x = y
def Dc.dt (f : Dc r) (h : f.n ≤ 64) : Dt r := ⟨f.d, fun x => by
  unfold SeqAt.shaped
  rw [f.c x, Bool.true_and, decide_eq_true_eq]
  exact Nat.le_trans (f.b x) h, f.dp, f.eq⟩
def dcInt : Dc rInt := ⟨.int, fun x => by simp [PyData.canLay0], 0, fun x => by simp [PyData.depth], fun K G H v x e h => by
  have h : v = .int x := h
  subst h; exact .int _, fun x y => by simp [PyData.eqv]⟩
def dcBool : Dc rBool := ⟨.bool, fun x => by simp [PyData.canLay0], 0, fun x => by simp [PyData.depth], fun K G H v x e h => by
  have h : v = .bl x := h
  subst h; exact .bl _, fun x y => by simp [PyData.eqv]⟩
theorem canAll {d : α → PyData} (h : ∀ x, (d x).canLay0 = true) (xs : List α) : PyData.canLayAll0 (xs.map d) = true := by
  induction xs with
  | nil => simp [PyData.canLayAll0]
  | cons x xs ih => simp [PyData.canLayAll0, h, ih]
theorem depAll {d : α → PyData} {n : Nat} (h : ∀ x, (d x).depth ≤ n) (xs : List α) : PyData.depthAll (xs.map d) ≤ n := by
  induction xs with
  | nil => simp [PyData.depthAll]
  | cons x xs ih => simp only [List.map_cons, PyData.depthAll]; have := h x; omega
theorem eqvAll {d : α → PyData} (h : ∀ x y, PyData.eqv (d x) (d y) = true ↔ x = y) : ∀ (xs ys : List α), PyData.eqvAll (xs.map d) (ys.map d) = true ↔ xs = ys
  | [], [] => by simp [PyData.eqvAll]
  | x :: xs, y :: ys => by simp [PyData.eqvAll, h, eqvAll h xs ys]
  | [], y :: ys => by simp [PyData.eqvAll]
  | x :: xs, [] => by simp [PyData.eqvAll]
def dcList (f : Dc r) : Dc (rList r) := ⟨fun xs => .list (xs.map f.d), fun xs => by simp only [PyData.canLay0]; exact canAll f.c xs, f.n + 1, fun xs => by simp only [PyData.depth]; have := depAll f.b xs; omega,
  fun K G H v xs e h => by
    obtain ⟨a, vs, rfl, h1, h2⟩ := h
    exact .lst (sqL_of e h1) (dpAll (fun v x hv => f.dp K G H v x e hv) h2),
  fun x y => by simp only [PyData.eqv]; exact eqvAll f.eq x y⟩
def dcT2 (f : Dc r) (g : Dc s) : Dc (rT2 r s) := ⟨fun x => .tuple [f.d x.1, g.d x.2], fun x => by simp [PyData.canLay0, PyData.canLayAll0, f.c, g.c], f.n + g.n + 1, fun x => by simp only [PyData.depth, PyData.depthAll]; have := f.b x.1; have := g.b x.2; omega,
  fun K G H v x e h => by
    obtain ⟨a, u, w, rfl, h1, h2, h3⟩ := h
    exact .tup (sqT_of e h1) (.cons (f.dp K G H u _ e h2) (.cons (g.dp K G H w _ e h3) .nil)),
  fun x y => by simp [PyData.eqv, PyData.eqvAll, f.eq, g.eq, Prod.ext_iff]⟩
def dcT3 (f : Dc r) (g : Dc s) (k : Dc t) : Dc (rT3 r s t) := ⟨fun x => .tuple [f.d x.1, g.d x.2.1, k.d x.2.2], fun x => by simp [PyData.canLay0, PyData.canLayAll0, f.c, g.c, k.c], f.n + g.n + k.n + 1, fun x => by simp only [PyData.depth, PyData.depthAll]; have := f.b x.1; have := g.b x.2.1; have := k.b x.2.2; omega,
  fun K G H v x e h => by
    obtain ⟨a, u, w, z, rfl, h1, h2, h3, h4⟩ := h
    exact .tup (sqT_of e h1) (.cons (f.dp K G H u _ e h2) (.cons (g.dp K G H w _ e h3) (.cons (k.dp K G H z _ e h4) .nil))),
  fun x y => by simp [PyData.eqv, PyData.eqvAll, f.eq, g.eq, k.eq, Prod.ext_iff]⟩
def dtInts : Dt (rList rInt) := (dcList dcInt).dt (by decide)
def dtLines : Dt (rList rLine) := (dcList (dcT3 dcInt dcInt dcInt)).dt (by decide)
end
end Q

/-! the rules with the written part named -/
namespace Q
open PySem L2
section
variable {X : Cx} (K : PySem.W.Frag) {a b e o l : Expr} {es : List Expr} {ta tb te to tl : TE} {t : TA} {f : Str} {pos pos' p : Pos}
theorem kEq (hu : X.A.units + 64 < cLine) (hK : X.K = K := by rfl) : OpR X (compareOp .Eq) (oEqA K) := hK ▸ op_eqA hu
theorem kNe (hu : X.A.units + 64 < cLine) (hK : X.K = K := by rfl) : OpR X (compareOp .NotEq) (oNeA K) := hK ▸ op_neA hu
theorem kIx (hK : X.K = K := by rfl) : IxR X (rIx K) := hK ▸ ix_seq
theorem kIn (hK : X.K = K := by rfl) : OpR X (compareOp .In) (rIn K false) := hK ▸ op_in_seq
theorem kNotIn (hK : X.K = K := by rfl) : OpR X (compareOp .NotIn) (rIn K true) := hK ▸ op_notIn_seq
theorem kSl (hK : X.K = K := by rfl) : SlR X (rSlL K) := hK ▸ sl_list
theorem kLen (hK : X.K = K := by rfl) : CallR X (.builtin "len") (oLenA K) := hK ▸ call_lenA
theorem kList (hK : X.K = K := by rfl) : CallR X (.type "list") (oList K) := hK ▸ call_list_of
theorem kSorted (hK : X.K = K := by rfl) : CallR X (.builtin "sorted") (rSortedI K) := hK ▸ cr_sortedI
theorem kSum (hc : X.calm = true) (hK : X.K = K := by rfl) : CallR X (.builtin "sum") (rSum K) := hK ▸ cr_sum hc
theorem kIsi (hK : X.K = K := by rfl) : CallR X (.builtin "isinstance") (rIsi K) := hK ▸ call_isi
theorem kFld (he : PE X e ta) (hb : attributeBase e f X.env (eval e X.env) = eval e X.env) (hK : X.K = K := by rfl) : PE X (.Attribute e f pos) (tFld K ta f) := hK ▸ pe_fld he hb
theorem kSetF (ha : PE X o ta) (hv : PE X e te) (hs : swapsWith e (some (.Attribute o f pos')) pos.line X.env = pure false) (hK : X.K = K := by rfl) : PS X (.Assign [.Attribute o f pos'] e pos) (sFld K ta te f) := hK ▸ ps_fld ha hv hs
theorem kPiList {tg : Expr} (hl : PE X l tl) (hK : X.K = K := by rfl) : PI X tg l (iList K tl) := hK ▸ pi_list hl
theorem kPiTup {tg : Expr} (hl : PE X l tl) (hK : X.K = K := by rfl) : PI X tg l (iTup K tl) := hK ▸ pi_tup hl
theorem kTupT {k : Nat} {g : TGs} {n : Nat} (hc : X.calm = true) (h : PGs X es g) (hn : (assignEach es X.env).length = n := by rfl) (hst : (assignEach es X.env).findIdx? (·.1) = none := by rfl) (hK : X.K = K := by rfl) : PG X (.Tuple es k pos) (gTup K n g) := hK ▸ pg_tup hc h hn hst
theorem kEnum {elts : List Expr} {kk : Nat} {tpos : Pos} (hg : Gl X "enumerate") (hm : X.mg "enumerate" = none) (ha : PA X [e] t) (hs : starEach [e] X.env = [(false, eval e X.env)] := by rfl) (hK : X.K = K := by rfl) :
    PI X (.Tuple elts kk tpos) (.Call (.Name "enumerate" p) [e] [] pos) (iEnum K t) := hK ▸ pi_enum hg hm ha hs
theorem kRev {k : Nat} {p1 p2 p3 : Pos} (he : PE X e te) (hK : X.K = K := by rfl) : PE X (.Subscript e (.Slice none none (some (.UnaryOp .USub (.Constant (.int 1) k p1) p2)) p3) pos) (tRevL K te) := hK ▸ pe_revL he
theorem kBm {name : Str} {apos cpos : Pos} {T id : String} {r : V → List V → Hp → VK → Prop} (pa : PlainAttrs T) (slot : Slot T name id) (hty : typeOf (.builtin id) = pure (.type "method_descriptor")) (hm : MtR X id r) (ho : PE X o to) (ha : PA X (e :: es) t)
    (hbase : attributeBase o name X.env (eval o X.env) = eval o X.env := by rfl)
    (hfew : ((backTo cpos (starEach (e :: es) X.env)).all (fun x => !x.1) && (backToKw cpos (keywordEach [] X.env)).all (fun x => x.1.isSome)
      && decide ((e :: es).length + ([] : List Keyword).length + (if ([] : List Keyword).isEmpty then 0 else 1) < 30)) = true := by rfl)
    (hline : (apos.endLine == cpos.line) = true := by rfl) (hs : starEach (e :: es) X.env = (false, eval e X.env) :: starEach es X.env := by rfl) (hplain : (backTo cpos (starEach es X.env)).any (·.1) = false := by rfl) (hK : X.K = K := by rfl) :
    PE X (.Call (.Attribute o name apos) (e :: es) [] cpos) (tBM K T r to t) := hK ▸ pe_bm pa slot hty hm ho ha hbase hfew hline hs hplain
theorem kBm0 {name : Str} {apos cpos : Pos} {T id : String} {r : V → List V → Hp → VK → Prop} (pa : PlainAttrs T) (slot : Slot T name id) (hty : typeOf (.builtin id) = pure (.type "method_descriptor")) (hm : MtR X id r) (ho : PE X o to)
    (hbase : attributeBase o name X.env (eval o X.env) = eval o X.env := by rfl) (hline : (apos.endLine == cpos.line) = true := by rfl) (hK : X.K = K := by rfl) : PE X (.Call (.Attribute o name apos) [] [] cpos) (tBM0 K T r to) := hK ▸ pe_bm0 pa slot hty hm ho hbase hline
end
end Q

namespace Q
open PySem L2
def topS (i : Nat) : Stmt := PySem.Challenge.pw_cuelight_k12_whole_weak_lines_part.main.body.getD i (.Pass ⟨0, 0, 0, 0⟩)
abbrev s_d_whole_lines : Stmt := (topS 5)
abbrev n_d_whole_lines : List Str := ["net", "broken", "line"]
theorem sc_d_whole_lines : FnScope n_d_whole_lines ["net", "broken"] (defScope s_d_whole_lines) := ⟨rfl, rfl, rfl, by decide +kernel, rfl, by decide +kernel, by decide +kernel⟩

abbrev s_d_steps_over : Stmt := (topS 6)
abbrev n_d_steps_over : List Str := ["net", "numbers", "lines", "steps", "number", "one", "other", "_", "place"]
theorem sc_d_steps_over : FnScope n_d_steps_over ["net", "numbers"] (defScope s_d_steps_over) := ⟨rfl, rfl, rfl, by decide +kernel, rfl, by decide +kernel, by decide +kernel⟩

abbrev s_d_reached : Stmt := (topS 7)
abbrev n_d_reached : List Str := ["steps", "starts", "came", "queue", "at", "before", "line", "place"]
theorem sc_d_reached : FnScope n_d_reached ["steps", "starts"] (defScope s_d_reached) := ⟨rfl, rfl, rfl, by decide +kernel, rfl, by decide +kernel, by decide +kernel⟩

abbrev s_d_way_to : Stmt := (topS 8)
abbrev n_d_way_to : List Str := ["came", "place", "way", "line"]
theorem sc_d_way_to : FnScope n_d_way_to ["came", "place"] (defScope s_d_way_to) := ⟨rfl, rfl, rfl, by decide +kernel, rfl, by decide +kernel, by decide +kernel⟩

abbrev s_d_parted : Stmt := (topS 10)
abbrev n_d_parted : List Str := ["net", "broken", "place", "sources", "whole", "steps", "heads"]
theorem sc_d_parted : FnScope n_d_parted ["net", "broken", "place"] (defScope s_d_parted) := ⟨rfl, rfl, rfl, by decide +kernel, rfl, by decide +kernel, by decide +kernel⟩

abbrev s_d_keeps : Stmt := (topS 11)
abbrev n_d_keeps : List Str := ["net", "broken"]
theorem sc_d_keeps : FnScope n_d_keeps ["net", "broken"] (defScope s_d_keeps) := ⟨rfl, rfl, rfl, by decide +kernel, rfl, by decide +kernel, by decide +kernel⟩

abbrev s_d_weak : Stmt := (topS 12)
abbrev n_d_weak : List Str := ["net", "broken", "many", "line"]
theorem sc_d_weak : FnScope n_d_weak ["net", "broken"] (defScope s_d_weak) := ⟨rfl, rfl, rfl, by decide +kernel, rfl, by decide +kernel, by decide +kernel⟩

abbrev s_d_kept_places : Stmt := (topS 13)
abbrev n_d_kept_places : List Str := ["net", "broken"]
theorem sc_d_kept_places : FnScope n_d_kept_places ["net", "broken"] (defScope s_d_kept_places) := ⟨rfl, rfl, rfl, by decide +kernel, rfl, by decide +kernel, by decide +kernel⟩

abbrev s_d_most_used : Stmt := (topS 14)
abbrev n_d_most_used : List Str := ["steps", "sources", "place", "heads", "came"]
theorem sc_d_most_used : FnScope n_d_most_used ["steps", "sources", "place"] (defScope s_d_most_used) := ⟨rfl, rfl, rfl, by decide +kernel, rfl, by decide +kernel, by decide +kernel⟩

abbrev s_d_spare_steps : Stmt := (topS 15)
abbrev n_d_spare_steps : List Str := ["steps", "heads", "place", "step"]
theorem sc_d_spare_steps : FnScope n_d_spare_steps ["steps", "heads"] (defScope s_d_spare_steps) := ⟨rfl, rfl, rfl, by decide +kernel, rfl, by decide +kernel, by decide +kernel⟩

abbrev s_d_used_steps : Stmt := (topS 16)
abbrev n_d_used_steps : List Str := ["steps", "heads", "place", "step"]
theorem sc_d_used_steps : FnScope n_d_used_steps ["steps", "heads"] (defScope s_d_used_steps) := ⟨rfl, rfl, rfl, by decide +kernel, rfl, by decide +kernel, by decide +kernel⟩

abbrev s_d_use_way : Stmt := (topS 17)
abbrev n_d_use_way : List Str := ["heads", "came", "place", "line", "before"]
theorem sc_d_use_way : FnScope n_d_use_way ["heads", "came", "place"] (defScope s_d_use_way) := ⟨rfl, rfl, rfl, by decide +kernel, rfl, by decide +kernel, by decide +kernel⟩

abbrev s_d_cut_lines : Stmt := (topS 18)
abbrev n_d_cut_lines : List Str := ["net", "whole", "came", "lines", "line"]
theorem sc_d_cut_lines : FnScope n_d_cut_lines ["net", "whole", "came"] (defScope s_d_cut_lines) := ⟨rfl, rfl, rfl, by decide +kernel, rfl, by decide +kernel, by decide +kernel⟩

abbrev s_d_used_ways : Stmt := (topS 19)
abbrev n_d_used_ways : List Str := ["steps", "heads", "sources", "place", "left", "ways", "came", "way", "line"]
theorem sc_d_used_ways : FnScope n_d_used_ways ["steps", "heads", "sources", "place"] (defScope s_d_used_ways) := ⟨rfl, rfl, rfl, by decide +kernel, rfl, by decide +kernel, by decide +kernel⟩

abbrev s_m_Net_init : Stmt := (inClass (topS 24) 0)
abbrev n_m_Net_init : List Str := ["self", "needs", "sources", "lines"]
theorem sc_m_Net_init : FnScope n_m_Net_init ["self", "needs", "sources", "lines"] (defScope s_m_Net_init) := ⟨rfl, rfl, rfl, by decide +kernel, rfl, by decide +kernel, by decide +kernel⟩

abbrev s_m_Net_places : Stmt := (inClass (topS 24) 1)
abbrev n_m_Net_places : List Str := ["self"]
theorem sc_m_Net_places : FnScope n_m_Net_places ["self"] (defScope s_m_Net_places) := ⟨rfl, rfl, rfl, by decide +kernel, rfl, by decide +kernel, by decide +kernel⟩

abbrev s_m_Net_needs : Stmt := (inClass (topS 24) 2)
abbrev n_m_Net_needs : List Str := ["self"]
theorem sc_m_Net_needs : FnScope n_m_Net_needs ["self"] (defScope s_m_Net_needs) := ⟨rfl, rfl, rfl, by decide +kernel, rfl, by decide +kernel, by decide +kernel⟩

abbrev s_m_Net_sources : Stmt := (inClass (topS 24) 3)
abbrev n_m_Net_sources : List Str := ["self"]
theorem sc_m_Net_sources : FnScope n_m_Net_sources ["self"] (defScope s_m_Net_sources) := ⟨rfl, rfl, rfl, by decide +kernel, rfl, by decide +kernel, by decide +kernel⟩

abbrev s_m_Net_lines : Stmt := (inClass (topS 24) 4)
abbrev n_m_Net_lines : List Str := ["self"]
theorem sc_m_Net_lines : FnScope n_m_Net_lines ["self"] (defScope s_m_Net_lines) := ⟨rfl, rfl, rfl, by decide +kernel, rfl, by decide +kernel, by decide +kernel⟩

abbrev s_d_check_needs : Stmt := (topS 25)
abbrev n_d_check_needs : List Str := ["needs", "place", "need"]
theorem sc_d_check_needs : FnScope n_d_check_needs ["needs"] (defScope s_d_check_needs) := ⟨rfl, rfl, rfl, by decide +kernel, rfl, by decide +kernel, by decide +kernel⟩

abbrev s_d_check_sources : Stmt := (topS 26)
abbrev n_d_check_sources : List Str := ["sources", "many", "at", "source"]
theorem sc_d_check_sources : FnScope n_d_check_sources ["sources", "many"] (defScope s_d_check_sources) := ⟨rfl, rfl, rfl, by decide +kernel, rfl, by decide +kernel, by decide +kernel⟩

abbrev s_d_check_lines : Stmt := (topS 27)
abbrev n_d_check_lines : List Str := ["lines", "many", "at", "one", "other", "limit"]
theorem sc_d_check_lines : FnScope n_d_check_lines ["lines", "many"] (defScope s_d_check_lines) := ⟨rfl, rfl, rfl, by decide +kernel, rfl, by decide +kernel, by decide +kernel⟩

abbrev s_d_dice : Stmt := (topS 29)
abbrev n_d_dice : List Str := ["_law_script", "_law_mixed", "_law_cell"]
theorem sc_d_dice : FnScope n_d_dice ["_law_script"] (defScope s_d_dice) := ⟨rfl, rfl, rfl, by decide +kernel, rfl, by decide +kernel, by decide +kernel⟩

abbrev s_d_next : Stmt := (topS 30)
abbrev n_d_next : List Str := ["_law_dice_here", "_law_many", "_law_found", "_law_cell"]
theorem sc_d_next : FnScope n_d_next ["_law_dice_here", "_law_many"] (defScope s_d_next) := ⟨rfl, rfl, rfl, by decide +kernel, rfl, by decide +kernel, by decide +kernel⟩

abbrev s_d_net : Stmt := (topS 31)
abbrev n_d_net : List Str := ["_law_d", "_law_places", "_law_lines", "_law_many", "_law_needs", "_law_sources", "_law_rows", "_law_k", "_law_one", "_law_other", "_law_limit", "_law_place"]
theorem sc_d_net : FnScope n_d_net ["_law_d", "_law_places", "_law_lines"] (defScope s_d_net) := ⟨rfl, rfl, rfl, by decide +kernel, rfl, by decide +kernel, by decide +kernel⟩

abbrev s_d_groups : Stmt := (topS 32)
abbrev n_d_groups : List Str := ["_law_net_here", "_law_some", "_law_group", "_law_line", "_law_one", "_law_other", "_law_limit", "_law_was"]
theorem sc_d_groups : FnScope n_d_groups ["_law_net_here", "_law_some"] (defScope s_d_groups) := ⟨rfl, rfl, rfl, by decide +kernel, rfl, by decide +kernel, by decide +kernel⟩

abbrev s_d_led : Stmt := (topS 33)
abbrev n_d_led : List Str := ["_law_net_here", "_law_some", "_law_begin", "_law_group", "_law_marks", "_law_place"]
theorem sc_d_led : FnScope n_d_led ["_law_net_here", "_law_some", "_law_begin"] (defScope s_d_led) := ⟨rfl, rfl, rfl, by decide +kernel, rfl, by decide +kernel, by decide +kernel⟩

abbrev s_d_law : Stmt := (topS 36)
abbrev n_d_law : List Str := ["_law_script", "_law_d", "_law_rows", "_law_net_here", "_law_broken", "_law_whole", "_law_found", "_law_cuts", "_law_place", "_law_line", "_law_left", "_law_lost", "_law_k"]
theorem sc_d_law : FnScope n_d_law ["_law_script"] (defScope s_d_law) := ⟨rfl, rfl, rfl, by decide +kernel, rfl, by decide +kernel, by decide +kernel⟩

structure Txt (K : PySem.W.Frag) (mg : Str → Option Value) where
  C_Net : Addr
  l_Net : Cls K C_Net
  g_Net : mg "Net" = some (.ref C_Net)
  d_whole_lines : Df K mg "whole_lines" s_d_whole_lines ["net", "broken"]
  d_steps_over : Df K mg "steps_over" s_d_steps_over ["net", "numbers"]
  d_reached : Df K mg "reached" s_d_reached ["steps", "starts"]
  d_way_to : Df K mg "way_to" s_d_way_to ["came", "place"]
  d_parted : Df K mg "parted" s_d_parted ["net", "broken", "place"]
  d_keeps : Df K mg "keeps" s_d_keeps ["net", "broken"]
  d_weak : Df K mg "weak" s_d_weak ["net", "broken"]
  d_kept_places : Df K mg "kept_places" s_d_kept_places ["net", "broken"]
  d_most_used : Df K mg "most_used" s_d_most_used ["steps", "sources", "place"]
  d_spare_steps : Df K mg "spare_steps" s_d_spare_steps ["steps", "heads"]
  d_used_steps : Df K mg "used_steps" s_d_used_steps ["steps", "heads"]
  d_use_way : Df K mg "use_way" s_d_use_way ["heads", "came", "place"]
  d_cut_lines : Df K mg "cut_lines" s_d_cut_lines ["net", "whole", "came"]
  d_used_ways : Df K mg "used_ways" s_d_used_ways ["steps", "heads", "sources", "place"]
  m_Net_init : Dm K C_Net "__init__" "Net.__init__" s_m_Net_init ["self", "needs", "sources", "lines"]
  m_Net_places : Dm K C_Net "places" "Net.places" s_m_Net_places ["self"]
  m_Net_needs : Dm K C_Net "needs" "Net.needs" s_m_Net_needs ["self"]
  m_Net_sources : Dm K C_Net "sources" "Net.sources" s_m_Net_sources ["self"]
  m_Net_lines : Dm K C_Net "lines" "Net.lines" s_m_Net_lines ["self"]
  d_check_needs : Df K mg "check_needs" s_d_check_needs ["needs"]
  d_check_sources : Df K mg "check_sources" s_d_check_sources ["sources", "many"]
  d_check_lines : Df K mg "check_lines" s_d_check_lines ["lines", "many"]
  d_dice : Df K mg "_law_dice" s_d_dice ["_law_script"]
  d_next : Df K mg "_law_next" s_d_next ["_law_dice_here", "_law_many"]
  d_net : Df K mg "_law_net" s_d_net ["_law_d", "_law_places", "_law_lines"]
  d_groups : Df K mg "_law_groups" s_d_groups ["_law_net_here", "_law_some"]
  d_led : Df K mg "_law_led" s_d_led ["_law_net_here", "_law_some", "_law_begin"]
  d_law : Df K mg "law" s_d_law ["_law_script"]
  k_Net : Mk K C_Net m_Net_init.f
  na_needs : NoAttr K C_Net "_needs"
  na_sources : NoAttr K C_Net "_sources"
  na_lines : NoAttr K C_Net "_lines"
  c_MOST_PLACES : (t : Tok) ×' mg "MOST_PLACES" = some (.int 10 t)
  c_MOST_LINES : (t : Tok) ×' mg "MOST_LINES" = some (.int 10 t)
  c_MOST_WORTH : (t : Tok) ×' mg "MOST_WORTH" = some (.int 1000000 t)
  z_len : mg "len" = none
  z_range : mg "range" = none
  z_list : mg "list" = none
  z_int : mg "int" = none
  z_sorted : mg "sorted" = none
  z_enumerate : mg "enumerate" = none
  z_dict : mg "dict" = none
  z_sum : mg "sum" = none
  z_set : mg "set" = none
  z_ValueError : mg "ValueError" = none
end Q

namespace Q
open PySem L2
local macro_rules | `(tactic| walk_at "up") => do
  let l := Lean.mkIdent `l
  let mut ts : Array (Lean.TSyntax `tactic) := #[]
  for i in [1, 2, 3, 4, 5, 6, 7, 8, 9, 10, 11, 12, 13, 14, 15, 16] do
    let h := Lean.mkIdent (Lean.Name.mkSimple s!"h{i}")
    ts := ts.push (← `(tactic| try replace $h:ident := Rp.up (Le.ex $l) $h))
    ts := ts.push (← `(tactic| try replace $h:ident := Rp.up (Wk.ex $l) $h))
    ts := ts.push (← `(tactic| try replace $h:ident := Rp.up (Kp.ex $l) $h))
  for i in [1, 2, 3, 4] do
    let h := Lean.mkIdent (Lean.Name.mkSimple s!"o{i}")
    ts := ts.push (← `(tactic| try replace $h:ident := OwnL.up $l $h))
    ts := ts.push (← `(tactic| try replace $h:ident := OwnD.up $l $h))
  `(tactic| ($[$ts:tactic];*))
local macro_rules | `(tactic| walk_at "cm") => `(tactic| first | exact Or.inl ⟨by omega, by omega⟩ | exact Or.inr ⟨by omega, by omega⟩)
local macro_rules | `(tactic| walk_at "ev") => `(tactic| repeat' first
  | exact ev_var rfl (by first | assumption | rfl)
  | exact ev_int | exact ev_bl | exact ev_str | exact ev_non
  | (refine' ev_addA ?_ ?_) | (refine' ev_sub ?_ ?_)
  | (refine' ev_mulA ?_ ?_ ?_; rotate_left 2; walk_at "cm")
  | (refine' ev_mod ?_ ?_ ?_; rotate_left 2; omega)
  | (refine' ev_lt ?_ ?_) | (refine' ev_le ?_ ?_) | (refine' ev_gt ?_ ?_) | (refine' ev_ge ?_ ?_)
  | (refine' ev_lenA ?_) | (refine' ev_in ?_ ?_) | (refine' ev_nin ?_ ?_)
  | (refine' ev_jx0 ?_) | (refine' ev_jx1 ?_) | (refine' ev_jx2 ?_) | (refine' ev_ix0 ?_) | (refine' ev_ix1 ?_)
  | (refine ev_chain_lelt ?_ ?_ ?_) | (refine ev_chain_lele ?_ ?_ ?_)
  | (refine' et_r ?_) | (refine' et_b ?_) | (refine' et_not ?_) | (refine' et_and ?_ fun _ => ?_) | (refine' et_or ?_ fun _ => ?_)
  | (refine' ev_pow ?_ ?_ ⟨by decide, by decide, by decide⟩)
  | (refine' ev_t2 ?_ ?_) | (refine' ev_t3 ?_ ?_ ?_)
  | exact et_yes)

section
variable {P : Program} {w : World} {K : PySem.W.Frag} {mg : Str → Option Value} {base : Heap}
theorem ok_dice (T : Txt K mg) : FnOk P w K mg base CX0 1 T.d_dice.f T.d_dice.fd ["_law_script"] (SpDice K) := by
  refine T.d_dice.F.ok sc_d_dice (fun vs H Q E h => ?_) (fun cdv A outer s H vs Q E hr h => ?_)
  · obtain ⟨s, ns, rfl, _⟩ := h; rfl
  · obtain ⟨sa, ns, rfl, hs, hl, k⟩ := h
    have hu := hu_of hr
    refine ⟨_, (pss_cons (ps_set (i := 1) sc_d_dice.nd rfl (.inl rfl) pe_int)
      (pss_cons (ps_for PassesOwn.never rfl (kPiList K (pv 0)) (pg_name (i := 2) sc_d_dice.nd rfl (.inl rfl)) (pss_one (ps_set (i := 1) sc_d_dice.nd rfl (.inl rfl) (pe_op op_mod (pe_op op_addA (pe_op op_addA (pe_op op_mulA (pv 1) pe_int) (pe_op op_mulA (pe_op op_mod (pv 2) pe_int) pe_int)) pe_int) pe_int))))
      (pss_one (ps_ret (pe_lst (pa_cons (pv 0) (pa_cons pe_int (pa_cons (pe_op op_mulA (pv 1) (pe_callTy call_int1 (by rfl) T.z_int PyProof.Rows.boot_int (pa_cons (pe_cmpR op_gt (pe_callB (kLen K) (by rfl) T.z_len PySem.boot_len (pa_cons (pv 0) pa_nil)) pe_int (nomark _)) pa_nil))) (pa_cons pe_int pa_nil))))))))), ?_⟩
    have b0 : Ex H (Wd.in H H (Ex.refl H)).H := Ex.refl H
    refine q_asg (W := Wd.in H H (Ex.refl H)) (by walk_at "ev") fun v W l h1 => ?_
    replace b0 := b0.trans l.ex
    cases h1
    refine ⟨_, rfl, sa, rfl, ⟨_, sqL_mono (b0.trans W.gh) hs⟩, for_list (K := K) (a := sa) (xs := ns.map V.int) (fun i => Nx W (fun σ W => ∃ (m : Int) (v : Option V), σ = [some (.ref sa), some (.int m), v] ∧ 0 ≤ m ∧ m < 2147483647))
      ⟨W, rfl, Wk.refl _, 0, none, rfl, by decide, by decide⟩ (fun i σ H2 _ ⟨W2, e, l2, _⟩ => e ▸ sqL_mono ((b0.trans l2.ex).trans W2.gh) hs) ?_ ?_⟩
    · rintro i y σ _ hi ⟨W2, rfl, l2, m, v, rfl, h1, h2⟩
      obtain ⟨z, hz, rfl⟩ : ∃ z, ns[i]? = some z ∧ y = V.int z := by
        rw [List.getElem?_map] at hi
        cases e : ns[i]? with
        | none => rw [e] at hi; cases hi
        | some z => rw [e] at hi; exact ⟨z, rfl, (Option.some.inj hi).symm⟩
      refine s_asg (W := W2) (σ := [some (.ref sa), some (.int m), some (.int z)]) (x := (m * 48271 + z % 2147483647 * 69621 + 11) % 2147483647) (by walk_at "ev") fun v W3 l3 h3 => ?_
      cases h3
      exact ⟨W3, rfl, l2.trans l3.wk, _, _, rfl, by omega, by omega⟩
    · rintro σ _ ⟨W2, rfl, l2, m, v, rfl, h1, h2⟩
      -- return [script, 0, mixed * int(len(script) > 2), 0]
      have hs2 := sqL_mono ((b0.trans l2.ex).trans W2.gh) hs
      refine ⟨_, rfl, _, rfl, _, rfl, .inl ⟨sa, _, rfl, .inl hs2, _, _, rfl, rfl, .inr ⟨_, rfl, .inl ⟨_, _, rfl, rfl, .inl ⟨by omega, by omega⟩, (by show 4 ≤ sizeLine; decide), fun p hp => ?_⟩⟩⟩⟩
      refine k p _ ?_ ((b0.trans l2.ex).trans (W2.gh.trans (Ex.new hp))) ⟨0, _, 0, upd_same, by decide, ?_, ?_, by decide⟩
      · exact (W2.h0 hp)
      · split <;> omega
      · split <;> omega
/-- the draw -/
theorem ok_next (T : Txt K mg) : FnOk P w K mg base CX0 1 T.d_next.f T.d_next.fd ["_law_dice_here", "_law_many"] (SpNext K) := by
  refine T.d_next.F.ok sc_d_next (fun vs H Q E h => ?_) (fun cdv A outer s H vs Q E hr h => ?_)
  · obtain ⟨G, d, s, ns, m, hd, rfl, _⟩ := h; rfl
  · obtain ⟨G, d, s, ns, m, hd, rfl, gh, gn, hs, m0, m1, k⟩ := h
    have hu := hu_of hr
    refine ⟨_, (pss_cons (ps_if (pt_cmpR op_gt (pe_ix (kIx K) (pv 0) pe_int (fun _ _ => rfl)) pe_int (nomark _)) (pss_cons (ps_set (i := 2) sc_d_next.nd rfl (.inl rfl) (pe_op op_mod (pe_ix (kIx K) (pv 0) pe_int (fun _ _ => rfl)) (pv 1)))
      (pss_cons (ps_asg (pe_op op_fdiv (pe_ix (kIx K) (pv 0) pe_int (fun _ _ => rfl)) (pv 1)) (pg_sub (pv 0) pe_int set_list))
      (pss_one (ps_ret (pv 2))))) pss_nil)
      (pss_cons (ps_asg (pe_op op_addA (pe_ix (kIx K) (pv 0) pe_int (fun _ _ => rfl)) pe_int) (pg_sub (pv 0) pe_int set_list))
      (pss_cons (ps_if (pt_cmpR op_le (pe_ix (kIx K) (pv 0) pe_int (fun _ _ => rfl)) (pe_callB (kLen K) (by rfl) T.z_len PySem.boot_len (pa_cons (pe_ix (kIx K) (pv 0) pe_int (fun _ _ => rfl)) pa_nil)) (nomark _)) (pss_cons (ps_set (i := 3) sc_d_next.nd rfl (.inl rfl) (pe_ix (kIx K) (pe_ix (kIx K) (pv 0) pe_int (fun _ _ => rfl)) (pe_op op_sub (pe_ix (kIx K) (pv 0) pe_int (fun _ _ => rfl)) pe_int) (fun _ _ => rfl)))
      (pss_cons (ps_asg (pe_ifExp (pt_cmpR op_ge (pv 3) (pe_op op_pow pe_int pe_int) (nomark _)) (pe_op op_fdiv (pv 3) (pv 1)) pe_int) (pg_sub (pv 0) pe_int set_list))
      (pss_one (ps_ret (pe_op op_mod (pv 3) (pv 1)))))) pss_nil)
      (pss_cons (ps_asg (pe_op op_mod (pe_op op_mulA (pe_ix (kIx K) (pv 0) pe_int (fun _ _ => rfl)) pe_int) pe_int) (pg_sub (pv 0) pe_int set_list))
      (pss_one (ps_ret (pe_op op_mod (pe_op op_fdiv (pe_ix (kIx K) (pv 0) pe_int (fun _ _ => rfl)) pe_int) (pv 1)))))))), ?_⟩
    obtain ⟨p, mx, c, e, p0, x0, x1, c0⟩ := id hd
    -- any heap that differs in the dice alone
    have fin : ∀ (x : Int) (p mx c : Int), 0 ≤ p → 0 ≤ mx → mx < 2147483647 → 0 ≤ c → 0 ≤ x → x < m → Q (.int x) (upd H d (.lst [.ref s, .int p, .int mx, .int c])) := fun x p mx c h1 h2 h3 h4 h5 h6 => by
      have gd : Ex G (upd H d (.lst [.ref s, .int p, .int mx, .int c])) := fun a o q => by rw [upd_ne (ne_of_none q gn)]; exact gh a o q
      exact k x ⟨G, upd H d (.lst [.ref s, .int p, .int mx, .int c]), gd, Ex.refl _, fun a n q _ => ⟨q, upd_ne n⟩, fun a q => by rw [show a = d from q]; exact gn, ⟨p, mx, c, upd_same, h1, h2, h3, h4⟩⟩ h5 h6
    -- if dice_here[3] > 0
    refine ⟨_, rfl, .inl ⟨d, _, 3, _, rfl, rfl, .inl (.inl e), rfl, _, _, rfl, rfl, _, rfl, ?_⟩⟩
    refine ite2 (fun hc => ?_) (fun hc => ?_)
    · refine ⟨_, rfl, .inl ⟨d, _, 3, _, rfl, rfl, .inl (.inl e), rfl, _, rfl, _, _, rfl, rfl, m0, ?_⟩⟩
      refine ⟨_, rfl, .inl ⟨d, _, 3, _, rfl, rfl, .inl (.inl e), rfl, _, rfl, _, _, rfl, rfl, ⟨m0, m1⟩, _, rfl, d, _, 3, 3, rfl, rfl, e, rfl, _, rfl, ?_⟩⟩
      exact fin _ p mx (c / m) p0 x0 x1 (Int.ediv_nonneg c0 (by omega)) (Int.emod_nonneg _ (by omega)) (Int.emod_lt_of_pos _ m0)
    · -- dice_here[1] = dice_here[1] + 1
      refine ⟨_, rfl, .inl ⟨d, _, 1, _, rfl, rfl, .inl (.inl e), rfl, .inl ⟨_, _, rfl, rfl, _, rfl, d, _, 1, 1, rfl, rfl, e, rfl, ?_⟩⟩⟩
      have e1 : (upd H d (.lst [.ref s, .int (p + 1), .int mx, .int c])) d = some (.lst [.ref s, .int (p + 1), .int mx, .int c]) := upd_same
      have g1 : Ex G (upd H d (.lst [.ref s, .int (p + 1), .int mx, .int c])) := fun a o q => by rw [upd_ne (ne_of_none q gn)]; exact gh a o q
      -- if dice_here[1] <= len(dice_here[0])
      refine ⟨_, rfl, .inl ⟨d, _, 1, _, rfl, rfl, .inl (.inl e1), rfl, _, rfl, .inl ⟨d, _, 0, _, rfl, rfl, .inl (.inl e1), rfl, .inl ⟨s, _, rfl, .inl (sqL_mono g1 hs), _, _, rfl, rfl, _, rfl, ?_⟩⟩⟩⟩
      refine ite2 (fun hc => ?_) (fun hc => ?_)
      · have hp : p < (ns.length : Int) := by
          have := of_decide_eq_true hc
          rw [List.length_map] at this; omega
        have hx : p.toNat < ns.length := by omega
        -- cell = dice_here[0][dice_here[1] - 1]
        refine ⟨_, rfl, .inl ⟨d, _, 0, _, rfl, rfl, .inl (.inl e1), rfl, _, rfl, .inl ⟨d, _, 1, _, rfl, rfl, .inl (.inl e1), rfl, _, _, rfl, rfl, .inl ⟨s, _, _, .int ns[p.toNat], rfl, rfl, sqL_mono g1 hs, at_of (show p + 1 - 1 = ((p.toNat : Nat) : Int) by omega) (by simp [hx]), ?_⟩⟩⟩⟩
        -- dice_here[3] = cell // many if cell >= 10 ** 18 else 0
        refine ⟨_, rfl, _, _, rfl, rfl, ⟨by decide, by decide, by decide⟩, _, _, rfl, rfl, _, rfl, ?_⟩
        refine ite2 (fun hg => ?_) (fun hg => ?_)
        · have hg' : (10 : Int) ^ (18 : Int).toNat ≤ ns[p.toNat] := of_decide_eq_true hg
          refine ⟨_, rfl, _, rfl, _, _, rfl, rfl, ⟨m0, m1⟩, _, rfl, d, _, 3, 3, rfl, rfl, e1, rfl, ?_⟩
          rw [upd_upd]
          refine ⟨_, rfl, _, rfl, _, _, rfl, rfl, m0, ?_⟩
          have hn : (0 : Int) ≤ ns[p.toNat] := Int.le_trans (by decide) hg'
          exact fin _ (p + 1) mx (ns[p.toNat] / m) (by omega) x0 x1 (Int.ediv_nonneg hn (by omega)) (Int.emod_nonneg _ (by omega)) (Int.emod_lt_of_pos _ m0)
        · refine ⟨_, rfl, d, _, 3, 3, rfl, rfl, e1, rfl, ?_⟩
          rw [upd_upd]
          refine ⟨_, rfl, _, rfl, _, _, rfl, rfl, m0, ?_⟩
          exact fin _ (p + 1) mx 0 (by omega) x0 x1 (by decide) (Int.emod_nonneg _ (by omega)) (Int.emod_lt_of_pos _ m0)
      · -- dice_here[2] = dice_here[2] * 48271 % 2147483647
        refine ⟨_, rfl, .inl ⟨d, _, 2, _, rfl, rfl, .inl (.inl e1), rfl, .inl ⟨_, _, rfl, rfl, .inl ⟨by omega, by omega⟩, _, _, rfl, rfl, (by decide : (0 : Int) < 2147483647), _, rfl, d, _, 2, 2, rfl, rfl, e1, rfl, ?_⟩⟩⟩
        rw [upd_upd]
        have e2 : (upd H d (.lst [.ref s, .int (p + 1), .int (mx * 48271 % 2147483647), .int c])) d = some (.lst [.ref s, .int (p + 1), .int (mx * 48271 % 2147483647), .int c]) := upd_same
        refine ⟨_, rfl, .inl ⟨d, _, 2, _, rfl, rfl, .inl (.inl e2), rfl, _, _, rfl, rfl, ⟨by decide, by decide⟩, _, rfl, _, _, rfl, rfl, m0, ?_⟩⟩
        exact fin _ (p + 1) _ c (by omega) (by omega) (by omega) c0 (Int.emod_nonneg _ (by omega)) (Int.emod_lt_of_pos _ m0)
end
end Q

namespace Q
open PySem L2
local macro_rules | `(tactic| walk_at "up") => do
  let l := Lean.mkIdent `l
  let mut ts : Array (Lean.TSyntax `tactic) := #[]
  for i in [1, 2, 3, 4, 5, 6, 7, 8, 9, 10, 11, 12, 13, 14, 15, 16] do
    let h := Lean.mkIdent (Lean.Name.mkSimple s!"h{i}")
    ts := ts.push (← `(tactic| try replace $h:ident := Rp.up (Le.ex $l) $h))
    ts := ts.push (← `(tactic| try replace $h:ident := Rp.up (Wk.ex $l) $h))
    ts := ts.push (← `(tactic| try replace $h:ident := Rp.up (Kp.ex $l) $h))
  for i in [1, 2, 3, 4] do
    let h := Lean.mkIdent (Lean.Name.mkSimple s!"o{i}")
    ts := ts.push (← `(tactic| try replace $h:ident := OwnL.up $l $h))
    ts := ts.push (← `(tactic| try replace $h:ident := OwnD.up $l $h))
  `(tactic| ($[$ts:tactic];*))
local macro_rules | `(tactic| walk_at "cm") => `(tactic| first | exact Or.inl ⟨by omega, by omega⟩ | exact Or.inr ⟨by omega, by omega⟩)
local macro_rules | `(tactic| walk_at "ev") => `(tactic| repeat' first
  | exact ev_var rfl (by first | assumption | rfl)
  | exact ev_int | exact ev_bl | exact ev_str | exact ev_non
  | (refine' ev_addA ?_ ?_) | (refine' ev_sub ?_ ?_)
  | (refine' ev_mulA ?_ ?_ ?_; rotate_left 2; walk_at "cm")
  | (refine' ev_mod ?_ ?_ ?_; rotate_left 2; omega)
  | (refine' ev_lt ?_ ?_) | (refine' ev_le ?_ ?_) | (refine' ev_gt ?_ ?_) | (refine' ev_ge ?_ ?_)
  | (refine' ev_lenA ?_) | (refine' ev_in ?_ ?_) | (refine' ev_nin ?_ ?_)
  | (refine' ev_jx0 ?_) | (refine' ev_jx1 ?_) | (refine' ev_jx2 ?_) | (refine' ev_ix0 ?_) | (refine' ev_ix1 ?_)
  | (refine ev_chain_lelt ?_ ?_ ?_) | (refine ev_chain_lele ?_ ?_ ?_)
  | (refine' et_r ?_) | (refine' et_b ?_) | (refine' et_not ?_) | (refine' et_and ?_ fun _ => ?_) | (refine' et_or ?_ fun _ => ?_)
  | (refine' ev_pow ?_ ?_ ⟨by decide, by decide, by decide⟩)
  | (refine' ev_t2 ?_ ?_) | (refine' ev_t3 ?_ ?_ ?_)
  | exact et_yes)

section
variable {P : Program} {w : World} {K : PySem.W.Frag} {mg : Str → Option Value} {base : Heap}
theorem mod_ne {many one r : Int} (hone : 0 ≤ one ∧ one < many) (h1 : 0 ≤ r) (h2 : r < many - 1) : 0 ≤ (one + 1 + r) % many ∧ (one + 1 + r) % many < many ∧ (one + 1 + r) % many ≠ one := by
  refine ⟨Int.emod_nonneg _ (by omega), Int.emod_lt_of_pos _ (by omega), fun e => ?_⟩
  have := Int.emod_add_mul_ediv (one + 1 + r) many
  rw [e] at this
  have h3 : many * ((one + 1 + r) / many) = 1 + r := by omega
  rcases Int.lt_or_le ((one + 1 + r) / many) 1 with h4 | h4
  · have : many * ((one + 1 + r) / many) ≤ 0 := Int.mul_nonpos_of_nonneg_of_nonpos (by omega) (by omega)
    omega
  · have : many * 1 ≤ many * ((one + 1 + r) / many) := Int.mul_le_mul_of_nonneg_left h4 (by omega)
    omega
theorem ok_net (T : Txt K mg) : FnOk P w K mg base CX0 2 T.d_net.f T.d_net.fd ["_law_d", "_law_places", "_law_lines"] (SpNet K) := by
  have G_d_next : FnOk P w K mg base CX0 1 T.d_next.f T.d_next.fd ["_law_dice_here", "_law_many"] (SpNext K) := ok_next T
  refine T.d_net.F.ok sc_d_net (fun vs H Q E h => ?_) (fun cdv A outer s H vs Q E hr h => ?_)
  · obtain ⟨G, d, s, ns, a, b, hd, rfl, _⟩ := h; rfl
  · obtain ⟨G, d, sc, ns, a, b, hd, rfl, gh, gn, hs, a0, a1, b0, b1, k⟩ := h
    have hu := hu_of hr
    refine ⟨_, (pss_cons (ps_set (i := 3) sc_d_net.nd rfl (.inl rfl) (pe_op op_addA pe_int (pe_call G_d_next (hr.mono (by decide)) (by rfl) T.d_next.m T.d_next.F.kp T.d_next.b .nil pass0 (pa_cons (pv 0) (pa_cons (pv 1) pa_nil)))))
      (pss_cons (ps_setLc (i := 4) (own := [("_law_place", 11)]) (g := gName 11) rfl sc_d_net.nd rfl rfl (sw_true rfl rfl rfl (by decide +kernel)) (pi_range1 (by rfl) T.z_range (pa_cons (pv 3) pa_nil)) (blkOk_by (N := n_d_net) (sc := defScope s_d_net) (by decide +kernel)) (fun _ _ _ _ _ => (pg_name (i := 11) sc_d_net.nd rfl (.inl rfl))) (fun _ _ _ _ _ => pts_nil) (fun _ _ _ _ _ => (pe_call G_d_next (hr.mono (by decide)) (by rfl) T.d_next.m T.d_next.F.kp T.d_next.b .nil pass0 (pa_cons (pv 0) (pa_cons pe_int pa_nil)))))
      (pss_cons (ps_if (pt_cmpR (kEq K hr.units) (pe_call G_d_next (hr.mono (by decide)) (by rfl) T.d_next.m T.d_next.F.kp T.d_next.b .nil pass0 (pa_cons (pv 0) (pa_cons pe_int pa_nil))) pe_int (nomark _)) (pss_one (ps_setLc (i := 4) (own := [("_law_place", 11)]) (g := gName 11) rfl sc_d_net.nd rfl rfl (sw_true rfl rfl rfl (by decide +kernel)) (pi_range1 (by rfl) T.z_range (pa_cons (pv 3) pa_nil)) (blkOk_by (N := n_d_net) (sc := defScope s_d_net) (by decide +kernel)) (fun _ _ _ _ _ => (pg_name (i := 11) sc_d_net.nd rfl (.inl rfl))) (fun _ _ _ _ _ => pts_nil) (fun _ _ _ _ _ => (pe_call G_d_next (hr.mono (by decide)) (by rfl) T.d_next.m T.d_next.F.kp T.d_next.b .nil pass0 (pa_cons (pv 0) (pa_cons (pe_op op_addA (pe_op op_pow pe_int pe_int) pe_int) pa_nil)))))) pss_nil)
      (pss_cons (ps_set (i := 5) sc_d_net.nd rfl (.inr rfl) (pe_slice (kSl K) (pe_lst (pa_cons (pe_call G_d_next (hr.mono (by decide)) (by rfl) T.d_next.m T.d_next.F.kp T.d_next.b .nil pass0 (pa_cons (pv 0) (pa_cons (pv 3) pa_nil))) pa_nil)) po_none (po_some (pe_call G_d_next (hr.mono (by decide)) (by rfl) T.d_next.m T.d_next.F.kp T.d_next.b .nil pass0 (pa_cons (pv 0) (pa_cons pe_int pa_nil))))))
      (pss_cons (ps_if (PW.pt (pw_and (pt_cmpR op_gt (pv 3) pe_int (nomark _)) (pw_and (pt_cmpR (kNe K hr.units) (pv 5) (pe_lst pa_nil) (nomark _)) (pw_and1 (pt_cmpR (kEq K hr.units) (pe_call G_d_next (hr.mono (by decide)) (by rfl) T.d_next.m T.d_next.F.kp T.d_next.b .nil pass0 (pa_cons (pv 0) (pa_cons pe_int pa_nil))) pe_int (nomark _)))))) (pss_one (ps_expr (kBm K PySem.F.plainAttrs_list PySem.F.slot_list_append PySem.F.type_list_append mt_append (pv 5) (pa_cons (pe_op op_mod (pe_op op_addA (pe_op op_addA (pe_ix (kIx K) (pv 5) pe_int (fun _ _ => rfl)) pe_int) (pe_call G_d_next (hr.mono (by decide)) (by rfl) T.d_next.m T.d_next.F.kp T.d_next.b .nil pass0 (pa_cons (pv 0) (pa_cons (pe_op op_sub (pv 3) pe_int) pa_nil)))) (pv 3)) pa_nil)))) pss_nil)
      (pss_cons (ps_if (PW.pt (pw_and (pt_cmpR (kNe K hr.units) (pv 5) (pe_lst pa_nil) (nomark _)) (pw_and1 (pt_cmpR (kEq K hr.units) (pe_call G_d_next (hr.mono (by decide)) (by rfl) T.d_next.m T.d_next.F.kp T.d_next.b .nil pass0 (pa_cons (pv 0) (pa_cons pe_int pa_nil))) pe_int (nomark _))))) (pss_one (ps_set (i := 5) sc_d_net.nd rfl (.inr rfl) (pe_op op_addA (pv 5) (pe_lc (own := [("_law_place", 11)]) (g := gName 11) (by rfl) sc_d_net.nd  (pi_range1 (by rfl) T.z_range (pa_cons (pv 3) pa_nil)) (blkOk_by (N := n_d_net) (sc := defScope s_d_net) (by decide +kernel)) (fun _ _ _ _ _ => (pg_name (i := 11) sc_d_net.nd rfl (.inl rfl))) (fun _ _ _ _ _ => (pts_one (PW.pt (pw_and (pt_cmpR (kNotIn K) (pv 11) (pv 5) (by rfl)) (pw_and1 (pt_cmpR (kEq K hr.units) (pe_call G_d_next (hr.mono (by decide)) (by rfl) T.d_next.m T.d_next.F.kp T.d_next.b .nil pass0 (pa_cons (pv 0) (pa_cons pe_int pa_nil))) pe_int (nomark _))))))) (fun _ _ _ _ _ => (pv 11)))))) pss_nil)
      (pss_cons (ps_set (i := 6) sc_d_net.nd rfl (.inl rfl) (pe_lst pa_nil))
      (pss_cons (ps_if (pt_cmpR op_gt (pv 3) pe_int (nomark _)) (pss_one (ps_for PassesOwn.never rfl (pi_range1 (by rfl) T.z_range (pa_cons (pe_call G_d_next (hr.mono (by decide)) (by rfl) T.d_next.m T.d_next.F.kp T.d_next.b .nil pass0 (pa_cons (pv 0) (pa_cons (pe_op op_addA (pv 2) pe_int) pa_nil))) pa_nil)) (pg_name (i := 7) sc_d_net.nd rfl (.inl rfl)) (pss_cons (ps_set (i := 8) sc_d_net.nd rfl (.inl rfl) (pe_call G_d_next (hr.mono (by decide)) (by rfl) T.d_next.m T.d_next.F.kp T.d_next.b .nil pass0 (pa_cons (pv 0) (pa_cons (pv 3) pa_nil))))
      (pss_cons (ps_set (i := 9) sc_d_net.nd rfl (.inl rfl) (pe_op op_mod (pe_op op_addA (pe_op op_addA (pv 8) pe_int) (pe_call G_d_next (hr.mono (by decide)) (by rfl) T.d_next.m T.d_next.F.kp T.d_next.b .nil pass0 (pa_cons (pv 0) (pa_cons (pe_op op_sub (pv 3) pe_int) pa_nil)))) (pv 3)))
      (pss_cons (ps_set (i := 10) sc_d_net.nd rfl (.inl rfl) (pe_ix (kIx K) (pe_lst (pa_cons (pe_op op_addA pe_int (pe_call G_d_next (hr.mono (by decide)) (by rfl) T.d_next.m T.d_next.F.kp T.d_next.b .nil pass0 (pa_cons (pv 0) (pa_cons pe_int pa_nil)))) (pa_cons (pe_call G_d_next (hr.mono (by decide)) (by rfl) T.d_next.m T.d_next.F.kp T.d_next.b .nil pass0 (pa_cons (pv 0) (pa_cons pe_int pa_nil))) (pa_cons (pe_op op_pow pe_int pe_int) pa_nil)))) (pe_call G_d_next (hr.mono (by decide)) (by rfl) T.d_next.m T.d_next.F.kp T.d_next.b .nil pass0 (pa_cons (pv 0) (pa_cons pe_int pa_nil))) (fun _ _ => rfl)))
      (pss_one (ps_expr (kBm K PySem.F.plainAttrs_list PySem.F.slot_list_append PySem.F.type_list_append mt_append (pv 6) (pa_cons (pe_tup (pa_cons (pv 8) (pa_cons (pv 9) (pa_cons (pv 10) pa_nil)))) pa_nil))))))))) pss_nil)
      (pss_one (ps_ret (pe_tup (pa_cons (pv 4) (pa_cons (pv 5) (pa_cons (pv 6) pa_nil)))))))))))))), ?_⟩
    -- many = 1 + next(d, places)
    refine q_asgN (W := Wd.inD G H d sc hd gh gn) (P := fun m => 1 ≤ m ∧ m ≤ a) (ev_addN ev_int.n (ev_next rfl hs (by walk_at "ev") a0 (by omega)) (by omega)) fun v W many l h1 hm => ?_
    cases h1
    -- needs = [next(d, 5) for place in range(many)]
    refine q_asgN (P := fun xs : List Int => (xs.length : Int) = many ∧ ∀ x ∈ xs, 0 ≤ x ∧ x ≤ 1000000) (EvN.imp (EvON.fz (eon_lcR (by walk_at "ev") (by omega) (fun _ => rfl) fun x W l h1 h2 => EvC.all (ev_next rfl hs (by walk_at "ev") (by decide) (by decide)))) fun xs hx => ?_) fun v4 W needs l h4 hn => ?_
    · obtain ⟨h1, h2⟩ := lcr_all hx
      rw [rg_len] at h1
      exact ⟨by omega, fun x hx => by have := h2 x hx; omega⟩
    -- if next(d, 8) == 7: needs = [next(d, 10 ** 6 + 1) for place in range(many)]
    refine q_whenCut (fun σ W => ∃ v needs, σ = [some (.ref d), some (.int a), some (.int b), some (.int many), some v, none, none, none, none, none, none, none] ∧ (rList rInt).rel W.G v needs ∧ (needs.length : Int) = many ∧ ∀ x ∈ needs, 0 ≤ x ∧ x ≤ 1000000)
      (et_draw rfl hs (by walk_at "ev") (by decide) (by decide)) (fun _ W l rest => ?_) (fun _ W l => ⟨v4, needs, rfl, (rList rInt).mono l.ex h4, hn⟩) ?_
    · refine s_asgN (P := fun xs : List Int => (xs.length : Int) = many ∧ ∀ x ∈ xs, 0 ≤ x ∧ x ≤ 1000000) (EvN.imp (EvON.fz (eon_lcR (by walk_at "ev") (by omega) (fun _ => rfl) fun x W l h1 h2 => EvC.all (ev_next (m := 1000001) rfl hs (EvR.is (x := (10 : Int) ^ (6 : Int).toNat + 1) (by walk_at "ev") (by decide)) (by decide) (by decide)))) fun xs hx => ?_) fun v4 W needs l h4 hn => ?_
      · obtain ⟨h1, h2⟩ := lcr_all hx
        rw [rg_len] at h1
        exact ⟨by omega, fun x hx => by have := h2 x hx; omega⟩
      · exact rest _ W ⟨v4, needs, rfl, h4, hn⟩
    clear h4 hn needs v4
    rintro σ W ⟨v4, needs, rfl, h4, hn⟩
    -- sources = [next(d, many)][:next(d, 6)]
    refine q_asgON (P := fun xs : List Int => xs = [] ∨ ∃ x, xs = [x] ∧ 0 ≤ x ∧ x < many) (EvON.imp (eon_slN (EvON.fz (eo_lstN (el_consN (ev_next rfl hs (by walk_at "ev") (by omega) (by omega)) el_nilN) fun xs hx => by obtain ⟨y, ys, rfl, _, rfl⟩ := hx; simp)) (ev_next rfl hs (by walk_at "ev") (by decide) (by decide)) fun j h => h.1) fun xs hx => ?_) fun p W src l0 hp o1 hsrc => ?_
    · obtain ⟨ys, j, ⟨y, zs, rfl, hy, rfl⟩, hj, rfl⟩ := hx
      by_cases h : j.toNat = 0
      · exact .inl (by rw [h]; rfl)
      · refine .inr ⟨y, ?_, hy⟩
        rw [List.take_of_length_le (by simp; omega)]
    -- if many > 1 and sources != [] and next(d, 3) == 2: sources.append(..)
    refine q_whenCut (P := fun b => b = true → 1 < many ∧ src ≠ []) (fun σ W => ∃ src, σ = [some (.ref d), some (.int a), some (.int b), some (.int many), some v4, some (.ref p), none, none, none, none, none, none] ∧ (rList rInt).rel W.G v4 needs ∧ OwnL W p rInt src ∧ src.Nodup ∧ (∀ x ∈ src, 0 ≤ x ∧ x < many) ∧ src.length ≤ 2)
      (lentBN o1 fun W' l h5 => EvBN.imp (et_andN (a := decide (1 < many)) (et_r (by walk_at "ev")) fun _ => et_andN (a := !decide (src = [])) (et_r (ev_neD dtInts (by walk_at "ev") ev_emp)) fun _ => et_draw (m := 3) rfl hs (by walk_at "ev") (by decide) (by decide)) fun b hb e => ?_) (fun hb W l rest => ?_) (fun _ W l => ?_) ?_
    · subst e
      rcases hb with ⟨h1, h2 | h2⟩ | h2
      · exact ⟨of_decide_eq_true h1, by simpa using h2.1⟩
      · simp at h2
      · simp at h2
    · obtain ⟨hm1, hne⟩ := hb rfl
      replace h4 := Rp.up l.ex (Rp.up l0.ex h4)
      replace o1 := OwnL.up l o1
      obtain ⟨x, rfl, hx0, hx1⟩ : ∃ x, src = [x] ∧ 0 ≤ x ∧ x < many := by
        rcases hsrc with h | h
        · exact absurd h hne
        · exact h
      refine s_appN (P := fun y => 0 ≤ y ∧ y < many ∧ y ≠ x) rfl o1 (lentN flat_int o1 fun W' l h5 => ev_modN (P' := fun z => z = many) (P := fun z => ∃ r, 0 ≤ r ∧ r < many - 1 ∧ z = x + 1 + r) (ev_addN (EvR.n (ev_addA (ev_ixL (by walk_at "ev") ev_int ⟨by decide, rfl⟩) ev_int)) (ev_next rfl hs (by walk_at "ev") (by omega) (by omega)) fun u r hu hr => ⟨r, hr.1, hr.2, by omega⟩) (EvR.n (by walk_at "ev")) (fun u z _ hz => by omega) fun u z hu hz => ?_) (by simp) fun W1 y kp hy o2 => ?_
      · obtain ⟨r, h1, h2, rfl⟩ := hu
        subst hz
        exact mod_ne ⟨hx0, hx1⟩ h1 h2
      · refine rest _ W1 ⟨[x] ++ [y], rfl, Rp.up kp.ex h4, o2, ?_, ?_, by simp⟩
        · simp; exact fun e => hy.2.2 e.symm
        · intro z hz
          simp at hz
          rcases hz with rfl | rfl
          · exact ⟨hx0, hx1⟩
          · exact ⟨hy.1, hy.2.1⟩
    · refine ⟨src, rfl, Rp.up l.ex (Rp.up l0.ex h4), o1.up l, ?_⟩
      rcases hsrc with rfl | ⟨x, rfl, hx⟩
      · simp
      · simp; exact hx
    clear o1 hsrc h4 src
    rintro σ W ⟨src, rfl, h4, o1, nd, rs, sl⟩
    -- if sources != [] and next(d, 4) == 3: sources = sources + [..]
    refine q_whenCut (fun σ W => ∃ p src, σ = [some (.ref d), some (.int a), some (.int b), some (.int many), some v4, some (.ref p), none, none, none, none, none, none] ∧ (rList rInt).rel W.G v4 needs ∧ OwnL W p rInt src ∧ src.Nodup ∧ (∀ x ∈ src, 0 ≤ x ∧ x < many))
      (lentBN o1 fun W' l h5 => et_andN (a := !decide (src = [])) (et_r (ev_neD dtInts (by walk_at "ev") ev_emp)) fun _ => et_draw (m := 4) rfl hs (by walk_at "ev") (by decide) (by decide)) (fun hb W l rest => (have o2 := o1.up l; have h4 := Rp.up l.ex h4; ?_)) (fun _ W l => ⟨p, src, rfl, Rp.up l.ex h4, o1.up l, nd, rs⟩) ?_
    · refine s_asgON (P := fun zs => ∃ ys, zs = src ++ ys ∧ ys.Sublist (rg many) ∧ ∀ y ∈ ys, y ∉ src) (EvON.imp (lentON flat_int o2 fun W' l h5 => eon_catA (EvR.n (x := src) (by walk_at "ev")) (EvON.fz (eon_lcR (n := many) (R := fun x o => o = none ∨ (o = some x ∧ x ∉ src)) (by walk_at "ev") (by omega) (fun _ => rfl) fun x W l hx0 hx1 =>
          EvC.imp (EvC.sel (y := x) (et_andN (a := !decide (x ∈ src)) (et_r (ev_nin (by walk_at "ev") (ev_var (v := .ref p) rfl (Rp.up l.ex h5)))) fun _ => et_draw (m := 2) rfl hs (by walk_at "ev") (by decide) (by decide)) (by walk_at "ev")) fun o ho => ?_)) fun xs ys hx hy => ?_) fun zs hz => ?_) fun q W zs l hq o2 hz => ?_
      · rcases ho with ⟨rfl, ⟨h1, _⟩ | ⟨_, h1⟩⟩ | ⟨rfl, _⟩
        · exact .inr ⟨rfl, by simpa using h1⟩
        · cases h1
        · exact .inl rfl
      · subst hx
        have := lcr_len hy
        rw [rg_len] at this
        omega
      · obtain ⟨xs, ys, rfl, hy, rfl⟩ := hz
        exact ⟨ys, rfl, lcr_sub hy⟩
      · obtain ⟨ys, rfl, h1, h2⟩ := hz
        refine rest _ W ⟨q, src ++ ys, rfl, Rp.up l.ex h4, o2, ?_, fun z hz => ?_⟩
        · refine List.nodup_append.mpr ⟨nd, h1.nodup (rg_nodup _), fun x hx y hy e => h2 y hy (e ▸ hx)⟩
        · rcases List.mem_append.mp hz with hz | hz
          · exact rs z hz
          · exact mem_rg.mp (h1.subset hz)
    clear o1 nd rs sl h4 src p hp
    rintro σ W ⟨p, src, rfl, h4, o1, nd, rs⟩
    obtain ⟨W', e, kp, h5⟩ := o1.fz
    rw [← e]
    replace h4 := Rp.up kp.ex h4
    clear e kp o1
    -- rows = []
    refine q_asgO (r := rLine) (eo_lst el_nil (Nat.zero_le _)) fun q W l hq o2 => ?_
    walk_at "up"
    clear l hq
    -- if many > 1: for k in range(next(d, lines + 1)): ..
    refine q_whenCut (P := fun b => b = true → 1 < many) (fun σ W => ∃ k7 k8 k9 k10 rows, σ = [some (.ref d), some (.int a), some (.int b), some (.int many), some v4, some (.ref p), some (.ref q), k7, k8, k9, k10, none] ∧ (rList rInt).rel W.G v4 needs ∧ (rList rInt).rel W.G (.ref p) src ∧ OwnL W q rLine rows ∧ (rows.length : Int) ≤ b ∧
        ∀ x ∈ rows, (0 ≤ x.1 ∧ x.1 < many) ∧ (0 ≤ x.2.1 ∧ x.2.1 < many) ∧ x.1 ≠ x.2.1 ∧ 0 ≤ x.2.2 ∧ x.2.2 ≤ 1000000)
      (EvBN.imp (EvB.n (b := decide (1 < many)) (et_r (by walk_at "ev"))) fun b hb e => of_decide_eq_true (hb.symm.trans e)) (fun hb W l rest => ?_) (fun _ W l => ?_) ?_
    · have hm1 := hb rfl
      walk_at "up"
      refine s_forRN (B := fun n => 0 ≤ n ∧ n < b + 1) (ev_next rfl hs (by walk_at "ev") (by omega) (by omega)) (fun n hn => by omega) fun W n l hn => ?_
      walk_at "up"
      refine ⟨fun i σ W => ∃ k7 k8 k9 k10 rows, σ = [some (.ref d), some (.int a), some (.int b), some (.int many), some v4, some (.ref p), some (.ref q), k7, k8, k9, k10, none] ∧ OwnL W q rLine rows ∧ rows.length = i ∧
        ∀ x ∈ rows, (0 ≤ x.1 ∧ x.1 < many) ∧ (0 ≤ x.2.1 ∧ x.2.1 < many) ∧ x.1 ≠ x.2.1 ∧ 0 ≤ x.2.2 ∧ x.2.2 ≤ 1000000, ⟨none, none, none, none, [], rfl, o2, rfl, by simp⟩, ?_, ?_⟩
      · rintro i σ W1 l hi ⟨k7, k8, k9, k10, rows, rfl, o2, hl, hr⟩
        -- one = next(d, many)
        refine q_asgN (P := fun x => 0 ≤ x ∧ x < many) (ev_next rfl hs (by walk_at "ev") (by omega) (by omega)) fun v W2 one l2 e hone => ?_
        cases e
        replace o2 := o2.up l2
        -- other = (one + 1 + next(d, many - 1)) % many
        refine q_asgN (P := fun y => 0 ≤ y ∧ y < many ∧ y ≠ one) (ev_modN (P' := fun z => z = many) (P := fun z => ∃ r, 0 ≤ r ∧ r < many - 1 ∧ z = one + 1 + r) (ev_addN (EvR.n (x := one + 1) (by walk_at "ev")) (ev_next (m := many - 1) rfl hs (by walk_at "ev") (by omega) (by omega)) fun u r hu hr => ⟨r, hr.1, hr.2, by omega⟩) (EvR.n (by walk_at "ev")) (fun u z _ hz => by omega) fun u z hu hz => ?_) fun v W3 other l3 e hother => ?_
        · obtain ⟨r, h1, h2, rfl⟩ := hu
          subst hz
          exact mod_ne hone h1 h2
        cases e
        replace o2 := o2.up l3
        -- limit
        refine q_asgN (P := fun y => 0 ≤ y ∧ y ≤ 1000000) (ev_ixLN (EvON.fz (eo_lstN (el_consN (P := fun x => 0 ≤ x ∧ x ≤ 1000000) (ev_addN (EvR.n (x := 10) (by walk_at "ev")) (ev_next (m := 20) rfl hs (by walk_at "ev") (by decide) (by decide)) fun x y hx hy => by omega) (el_consN (P := fun x => 0 ≤ x ∧ x ≤ 1000000) (EvN.imp (ev_next (m := 9) rfl hs (by walk_at "ev") (by decide) (by decide)) fun x hx => by omega)
            (el_consN (P := fun x => 0 ≤ x ∧ x ≤ 1000000) (EvN.imp (EvR.n (x := (10 : Int) ^ (6 : Int).toNat) (by walk_at "ev")) fun x hx => by subst hx; decide) el_nilN))) fun xs hx => ?_)) (ev_next (m := 3) rfl hs (by walk_at "ev") (by decide) (by decide)) fun xs i hx hi => ?_) fun v W4 limit l4 e hlim => ?_
        · obtain ⟨_, _, rfl, _, _, _, rfl, _, _, _, rfl, _, rfl⟩ := hx; simp
        · obtain ⟨x, _, rfl, hx, y, _, rfl, hy, z, _, rfl, hz, rfl⟩ := hx
          refine ⟨hi.1, ?_⟩
          have : i.toNat = 0 ∨ i.toNat = 1 ∨ i.toNat = 2 := by omega
          rcases this with e | e | e <;> rw [e]
          · exact ⟨x, rfl, hx⟩
          · exact ⟨y, rfl, hy⟩
          · exact ⟨z, rfl, hz⟩
        cases e
        replace o2 := o2.up l4
        -- rows.append((one, other, limit))
        refine s_app (x := (one, other, limit)) rfl o2 (by walk_at "ev") (by omega) fun W5 kp o3 => ?_
        refine ⟨W5, rfl, ⟨((l.ex.trans l2.ex).trans (l3.ex.trans l4.ex)).trans kp.ex⟩, _, _, _, _, _, rfl, o3, by simp [hl], fun x hx => ?_⟩
        rcases List.mem_append.mp hx with hx | hx
        · exact hr x hx
        · simp at hx
          subst hx
          exact ⟨hone, ⟨hother.1, hother.2.1⟩, fun e => hother.2.2 e.symm, hlim⟩
      · rintro σ W1 l ⟨k7, k8, k9, k10, rows, rfl, o2, hl, hr⟩
        exact rest _ W1 ⟨_, _, _, _, rows, rfl, Rp.up l.ex h4, Rp.up l.ex h5, o2, by omega, hr⟩
    · walk_at "up"
      exact ⟨none, none, none, none, [], rfl, h4, h5, o2, by simpa using b0, by simp⟩
    rintro σ W ⟨k7, k8, k9, k10, rows, rfl, h4, h5, o2, hl, hr⟩
    obtain ⟨W', e, kp, h6⟩ := o2.fz
    rw [← e]
    replace h4 := Rp.up kp.ex h4
    replace h5 := Rp.up kp.ex h5
    refine s_ret (x := (needs, src, rows)) (by walk_at "ev") fun v W h => k v W _ h ⟨by simp only; omega, hn.2, nd, fun x hx => by have := rs x hx; simp only; omega, hl, fun x hx => ?_⟩
    have := hr x hx
    refine ⟨?_, ?_, this.2.2⟩
    · simp only; omega
    · simp only; omega
end
end Q

namespace Q
/-- lines (one, other, limit); the law's groups -/
abbrev Ln := Int × Int × Int
abbrev Rows := List Int × List Int × List Ln
def mergeG (g : List Int) (a b : Int) : List Int := g.map fun x => if decide (x = g.getD b.toNat 0) then g.getD a.toNat 0 else x
def lineAt (ls : List Ln) (l : Int) : Ln := ls.getD l.toNat (0, 0, 0)
def groupsM (n : Nat) (ls : List Ln) (some : List Int) : List Int := some.foldl (fun g l => mergeG g (lineAt ls l).1 (lineAt ls l).2.1) (rg n)
def ledM (n : Nat) (ls : List Ln) (some begin_ : List Int) : List Int := (rg n).filter fun p => decide ((groupsM n ls some).getD p.toNat 0 ∈ begin_.map fun b => (groupsM n ls some).getD b.toNat 0)
theorem mergeG_len (g : List Int) (a b : Int) : (mergeG g a b).length = g.length := by simp [mergeG]
theorem foldl_len {f : List Int → Int → List Int} (hf : ∀ g l, (f g l).length = g.length) : ∀ (ls : List Int) (g : List Int), (ls.foldl f g).length = g.length
  | [], _ => rfl
  | l :: ls, g => by rw [List.foldl_cons, foldl_len hf ls, hf]
theorem groupsM_len (n : Nat) (ls : List Ln) (some : List Int) : (groupsM n ls some).length = n := by
  unfold groupsM
  rw [foldl_len (fun g l => mergeG_len _ _ _), rg_len]; simp
/-- bounds that the defs need -/
structure LinesOk (n : Nat) (ls : List Ln) : Prop where
  n1 : 1 ≤ n
  n2 : n ≤ 10
  l1 : ls.length ≤ 10
  l2 : ∀ x ∈ ls, (0 ≤ x.1 ∧ x.1 < (n : Int)) ∧ (0 ≤ x.2.1 ∧ x.2.1 < (n : Int)) ∧ x.1 ≠ x.2.1
def Nums (k : Nat) (xs : List Int) : Prop := ∀ x ∈ xs, 0 ≤ x ∧ x < (k : Int)
theorem lineAt_get {ls : List Ln} {l : Int} (h : 0 ≤ l ∧ l < (ls.length : Int)) : ls[l.toNat]? = some (lineAt ls l) := by
  have : l.toNat < ls.length := by omega
  simp [lineAt, List.getD, List.getElem?_eq_getElem this]
theorem lineAt_mem {ls : List Ln} {l : Int} (h : 0 ≤ l ∧ l < (ls.length : Int)) : lineAt ls l ∈ ls := List.mem_of_getElem? (lineAt_get h)
end Q
namespace Q
theorem nodup_sub : ∀ (xs ys : List Int), xs.Nodup → (∀ x ∈ xs, x ∈ ys) → xs.length ≤ ys.length
  | [], ys, _, _ => Nat.zero_le _
  | x :: xs, ys, nd, h => by
    have hx := h x (by simp)
    have nd' := List.nodup_cons.mp nd
    have ih := nodup_sub xs (ys.erase x) nd'.2 fun y hy => (List.mem_erase_of_ne (fun (e : y = x) => nd'.1 (e ▸ hy))).mpr (h y (by simp [hy]))
    rw [List.length_erase_of_mem hx] at ih
    have : 0 < ys.length := List.length_pos_of_mem hx
    rw [List.length_cons]; omega
theorem nodup_len {xs : List Int} {n : Nat} (nd : xs.Nodup) (h : ∀ x ∈ xs, 0 ≤ x ∧ x < (n : Int)) : xs.length ≤ n := by
  have := nodup_sub xs (rg n) nd fun x hx => mem_rg.mpr (h x hx)
  rw [rg_len] at this
  omega
end Q

namespace Q
open PySem L2
local macro_rules | `(tactic| walk_at "up") => do
  let l := Lean.mkIdent `l
  let mut ts : Array (Lean.TSyntax `tactic) := #[]
  for i in [1, 2, 3, 4, 5, 6, 7, 8, 9, 10, 11, 12, 13, 14, 15, 16] do
    let h := Lean.mkIdent (Lean.Name.mkSimple s!"h{i}")
    ts := ts.push (← `(tactic| try replace $h:ident := Rp.up (Le.ex $l) $h))
    ts := ts.push (← `(tactic| try replace $h:ident := Rp.up (Wk.ex $l) $h))
    ts := ts.push (← `(tactic| try replace $h:ident := Rp.up (Kp.ex $l) $h))
  for i in [1, 2, 3, 4] do
    let h := Lean.mkIdent (Lean.Name.mkSimple s!"o{i}")
    ts := ts.push (← `(tactic| try replace $h:ident := OwnL.up $l $h))
    ts := ts.push (← `(tactic| try replace $h:ident := OwnD.up $l $h))
  `(tactic| ($[$ts:tactic];*))
local macro_rules | `(tactic| walk_at "cm") => `(tactic| first | exact Or.inl ⟨by omega, by omega⟩ | exact Or.inr ⟨by omega, by omega⟩)
local macro_rules | `(tactic| walk_at "ev") => `(tactic| repeat' first
  | exact ev_var rfl (by first | assumption | rfl)
  | exact ev_int | exact ev_bl | exact ev_str | exact ev_non
  | (refine' ev_addA ?_ ?_) | (refine' ev_sub ?_ ?_)
  | (refine' ev_mulA ?_ ?_ ?_; rotate_left 2; walk_at "cm")
  | (refine' ev_mod ?_ ?_ ?_; rotate_left 2; omega)
  | (refine' ev_lt ?_ ?_) | (refine' ev_le ?_ ?_) | (refine' ev_gt ?_ ?_) | (refine' ev_ge ?_ ?_)
  | (refine' ev_lenA ?_) | (refine' ev_in ?_ ?_) | (refine' ev_nin ?_ ?_)
  | (refine' ev_jx0 ?_) | (refine' ev_jx1 ?_) | (refine' ev_jx2 ?_) | (refine' ev_ix0 ?_) | (refine' ev_ix1 ?_)
  | (refine ev_chain_lelt ?_ ?_ ?_) | (refine ev_chain_lele ?_ ?_ ?_)
  | (refine' et_r ?_) | (refine' et_b ?_) | (refine' et_not ?_) | (refine' et_and ?_ fun _ => ?_) | (refine' et_or ?_ fun _ => ?_)
  | (refine' ev_pow ?_ ?_ ⟨by decide, by decide, by decide⟩)
  | (refine' ev_t2 ?_ ?_) | (refine' ev_t3 ?_ ?_ ?_)
  | exact et_yes)

section
variable {P : Program} {w : World} {K : PySem.W.Frag} {mg : Str → Option Value} {base : Heap}
abbrev SpGroups : Sp := Fn2 rRows (rList rInt) (rList rInt) (fun n some => LinesOk n.1.length n.2.2 ∧ Nums n.2.2.length some) (fun n some => groupsM n.1.length n.2.2 some)
theorem ok_groups (T : Txt K mg) : FnOk P w K mg base CX0 1 T.d_groups.f T.d_groups.fd ["_law_net_here", "_law_some"] SpGroups := by
  refine T.d_groups.F.ok sc_d_groups (fun vs H Q E h => ?_) (fun cdv A outer s H vs Q E hr h => ?_)
  · obtain ⟨G, v, w, n, some, rfl, _⟩ := h; rfl
  · obtain ⟨G, vn, vs, n, ss, rfl, gh, h1, h2, ⟨ok, nums⟩, k⟩ := h
    have hu := hu_of hr
    refine ⟨_, (pss_cons (ps_set (i := 2) sc_d_groups.nd rfl (.inr rfl) (pe_listRg rfl (by rfl) T.z_list (prg_1 (by rfl) T.z_range (pe_callB (kLen K) (by rfl) T.z_len PySem.boot_len (pa_cons (pe_ix (kIx K) (pv 0) pe_int (fun _ _ => rfl)) pa_nil)))))
      (pss_cons (ps_for PassesOwn.never rfl (kPiList K (pv 1)) (pg_name (i := 3) sc_d_groups.nd rfl (.inl rfl)) (pss_cons (ps_asg (pe_ix (kIx K) (pe_ix (kIx K) (pv 0) pe_int (fun _ _ => rfl)) (pv 3) (fun _ _ => rfl)) (kTupT K rfl (pgs_cons (pg_name (i := 4) sc_d_groups.nd rfl (.inr rfl)) (pgs_cons (pg_name (i := 5) sc_d_groups.nd rfl (.inr rfl)) (pgs_cons (pg_name (i := 6) sc_d_groups.nd rfl (.inl rfl)) pgs_nil)))))
      (pss_one (ps_set (i := 2) sc_d_groups.nd rfl (.inr rfl) (pe_lc (own := [("_law_was", 7)]) (g := gName 7) (by rfl) sc_d_groups.nd  (kPiList K (pv 2)) (blkOk_by (N := n_d_groups) (sc := defScope s_d_groups) (by decide +kernel)) (fun _ _ _ _ _ => (pg_name (i := 7) sc_d_groups.nd rfl (.inl rfl))) (fun _ _ _ _ _ => pts_nil) (fun _ _ _ _ _ => (pe_ix (kIx K) (pe_lst (pa_cons (pv 7) (pa_cons (pe_ix (kIx K) (pv 2) (pv 4) (fun _ _ => rfl)) pa_nil))) (pe_callTy call_int1 (by rfl) T.z_int PyProof.Rows.boot_int (pa_cons (pe_cmpR (kEq K hr.units) (pv 7) (pe_ix (kIx K) (pv 2) (pv 5) (fun _ _ => rfl)) (nomark _)) pa_nil)) (fun _ _ => rfl))))))))
      (pss_one (ps_ret (pv 2))))), ?_⟩
    have n2 := ok.n2
    -- group = list(range(len(net_here[0])))
    refine q_asg (W := Wd.in G H gh) (x := rg n.1.length) (EvO.fz (eo_rng (by walk_at "ev") (by omega))) fun v2 W l h3 => ?_
    walk_at "up"
    refine q_forL (r := rInt) (xs := ss) (by walk_at "ev") fun W l => ?_
    walk_at "up"
    refine ⟨fun i σ W => ∃ v2 k3 k4 k5 k6, σ = [some vn, some vs, some v2, k3, k4, k5, k6, none] ∧ (rList rInt).rel W.G v2 (groupsM n.1.length n.2.2 (ss.take i)), ⟨v2, none, none, none, none, rfl, h3⟩, ?_, ?_⟩
    · rintro i line v σ W l hi e ⟨v2, k3, k4, k5, k6, rfl, h3⟩
      cases e
      replace h1 := Rp.up l.ex h1
      have hx := nums line (List.mem_of_getElem? hi)
      have hln := ok.l2 _ (lineAt_mem hx)
      have gl := groupsM_len n.1.length n.2.2 (ss.take i)
      -- one, other, limit = net_here[2][line]
      refine q_asg3 (r := rInt) (s := rInt) (t := rInt) (x := lineAt n.2.2 line) (ev_ixL (ev_jx2 (by walk_at "ev")) (by walk_at "ev") ⟨hx.1, lineAt_get hx⟩) fun u1 u2 u3 W2 l2 e1 e2 e3 => ?_
      cases e1; cases e2; cases e3
      replace h3 := Rp.up l2.ex h3
      -- group = [[was, group[one]][int(was == group[other])] for was in group]
      refine s_asg (x := groupsM n.1.length n.2.2 (ss.take (i + 1))) (EvO.fz (EvO.is (eo_lcL (r := rInt) (s := rInt) (fun _ => true) (fun x => if decide (x = (groupsM n.1.length n.2.2 (ss.take i)).getD (lineAt n.2.2 line).2.1.toNat 0) then (groupsM n.1.length n.2.2 (ss.take i)).getD (lineAt n.2.2 line).1.toNat 0 else x) (by walk_at "ev") (by omega) (fun _ => rfl) (fun i x v W l _ hx => et_yes) (fun i x v W l _ hx _ => ?_)) ?_)) fun v3 W3 l3 h4 => ?_
      · cases hx
        replace h3 := Rp.up l.ex h3
        exact ev_pick2 (by walk_at "ev") (ev_ixD (ev_var rfl h3) (ev_var rfl rfl) (by omega)) (ev_eqA fl_int (by walk_at "ev") (ev_ixD (ev_var rfl h3) (ev_var rfl rfl) (by omega)))
      · rw [List.filter_eq_self.mpr (by simp)]
        unfold groupsM
        rw [foldl_take hi]
        rfl
      · exact ⟨W3, rfl, ⟨l.ex.trans (l2.ex.trans l3.ex)⟩, _, _, _, _, _, rfl, h4⟩
    · rintro σ W l ⟨v2, k3, k4, k5, k6, rfl, h3⟩
      rw [List.take_length] at h3
      exact s_ret (by walk_at "ev") k
abbrev SpLed : Sp := Fn3 rRows (rList rInt) (rList rInt) (rList rInt) (fun n some b => LinesOk n.1.length n.2.2 ∧ Nums n.2.2.length some ∧ Nums n.1.length b ∧ b.length ≤ 10) (fun n some b => ledM n.1.length n.2.2 some b)
theorem ok_led (T : Txt K mg) : FnOk P w K mg base CX0 2 T.d_led.f T.d_led.fd ["_law_net_here", "_law_some", "_law_begin"] SpLed := by
  have G_d_groups : FnOk P w K mg base CX0 1 T.d_groups.f T.d_groups.fd ["_law_net_here", "_law_some"] SpGroups := ok_groups T
  refine T.d_led.F.ok sc_d_led (fun vs H Q E h => ?_) (fun cdv A outer s H vs Q E hr h => ?_)
  · obtain ⟨G, v, w, y, a, b, c, rfl, _⟩ := h; rfl
  · obtain ⟨G, vn, vs, vb, n, ss, b, rfl, gh, h1, h2, h3, ⟨ok, nums, nb, bl⟩, k⟩ := h
    have hu := hu_of hr
    refine ⟨_, (pss_cons (ps_set (i := 3) sc_d_led.nd rfl (.inr rfl) (pe_call G_d_groups (hr.mono (by decide)) (by rfl) T.d_groups.m T.d_groups.F.kp T.d_groups.b .nil pass0 (pa_cons (pv 0) (pa_cons (pv 1) pa_nil))))
      (pss_cons (ps_set (i := 4) sc_d_led.nd rfl (.inr rfl) (pe_lc (own := [("_law_place", 5)]) (g := gName 5) (by rfl) sc_d_led.nd  (kPiList K (pv 2)) (blkOk_by (N := n_d_led) (sc := defScope s_d_led) (by decide +kernel)) (fun _ _ _ _ _ => (pg_name (i := 5) sc_d_led.nd rfl (.inl rfl))) (fun _ _ _ _ _ => pts_nil) (fun _ _ _ _ _ => (pe_ix (kIx K) (pv 3) (pv 5) (fun _ _ => rfl)))))
      (pss_one (ps_ret (pe_lc (own := [("_law_place", 5)]) (g := gName 5) (by rfl) sc_d_led.nd  (pi_range1 (by rfl) T.z_range (pa_cons (pe_callB (kLen K) (by rfl) T.z_len PySem.boot_len (pa_cons (pe_ix (kIx K) (pv 0) pe_int (fun _ _ => rfl)) pa_nil)) pa_nil)) (blkOk_by (N := n_d_led) (sc := defScope s_d_led) (by decide +kernel)) (fun _ _ _ _ _ => (pg_name (i := 5) sc_d_led.nd rfl (.inl rfl))) (fun _ _ _ _ _ => (pts_one (pt_cmpR (kIn K) (pe_ix (kIx K) (pv 3) (pv 5) (fun _ _ => rfl)) (pv 4) (by rfl)))) (fun _ _ _ _ _ => (pv 5))))))), ?_⟩
    have n2 := ok.n2
    have gl := groupsM_len n.1.length n.2.2 ss
    refine q_asg (W := Wd.in G H gh) (ev_call2 (ev_var rfl h1) (ev_var rfl h2) ⟨ok, nums⟩) fun v3 W l h4 => ?_
    walk_at "up"
    refine q_asg (r := rList rInt) (x := b.map fun (b : Int) => (groupsM n.1.length n.2.2 ss).getD b.toNat 0) (EvO.fz (EvO.is (eo_lcL (r := rInt) (s := rInt) (fun _ => true) (fun (b : Int) => (groupsM n.1.length n.2.2 ss).getD b.toNat 0) (by walk_at "ev") (by omega) (fun _ => rfl) (fun i x v W l _ hx => et_yes) (fun i x v W l hi hx _ => ?_)) (by rw [List.filter_eq_self.mpr (by simp)]))) fun v4 W l h5 => ?_
    · cases hx
      walk_at "up"
      have := nb x (List.mem_of_getElem? hi)
      exact ev_ixD (ev_var rfl h4) (ev_var rfl rfl) (by omega)
    walk_at "up"
    refine s_ret (x := ledM n.1.length n.2.2 ss b) (EvO.fz (EvO.is (eo_lcR (s := rInt) (n := n.1.length) (fun (p : Int) => decide ((groupsM n.1.length n.2.2 ss).getD p.toNat 0 ∈ b.map fun (b : Int) => (groupsM n.1.length n.2.2 ss).getD b.toNat 0)) id (by walk_at "ev") (by omega) (fun _ => rfl) (fun x W l hx0 hx1 => ?_) (fun x W l hx0 hx1 _ => ev_var rfl rfl)) (by simp [ledM]))) k
    walk_at "up"
    exact et_r (ev_in (ev_ixD (ev_var rfl h4) (ev_var rfl rfl) (by omega)) (ev_var rfl h5))
end
end Q

namespace Q
open PySem L2
/-- one object may turn, and stays of one kind -/
def oF (G H : Hp) (x : Addr) (S : HO → Prop) (h : ∃ o, H x = some o ∧ S o) : Fr where
  G0 := G
  H0 := H
  M := fun a => a = x
  I := fun A => ∃ o, A x = some o ∧ S o
  st := fun A B e z => by
    obtain ⟨o, h1, h2⟩ := z
    exact ⟨o, (e x rfl).trans h1, h2⟩
  has := fun A a z e => by
    subst e
    obtain ⟨o, h1, h2⟩ := z
    rw [h1]; exact fun z => nomatch z
  i0 := h
def Wd.inO (G H : Hp) (x : Addr) (S : HO → Prop) (h : ∃ o, H x = some o ∧ S o) (gh : Ex G H) (gn : G x = none) : Wd (oF G H x S h) where
  G := G
  H := H
  gh := gh
  gg := Ex.refl _
  kp := fun a _ g _ => ⟨g, rfl⟩
  mg := fun a e => by
    have e : a = x := e
    rw [e]; exact gn
  iv := h
section
variable {F : Fr} {K : PySem.W.Frag} {σ : L2.St} {W W1 : Wd F} {ta tb te tc tl ti : TE} {tt tu : TT} {α β γ δ : Type} {r : Rp α} {s : Rp β} {t : Rp γ} {D : Ends} {tz tx ty : TS}
/-- the object that may turn, turned -/
def Wd.turn (W : Wd F) (p : Addr) (o : HO) (m : F.M p) (i : F.I (upd W.H p o)) : Wd F where
  G := W.G
  H := upd W.H p o
  gh := fun a u e => by rw [upd_ne (ne_of_none e (W.mg p m))]; exact W.gh a u e
  gg := W.gg
  kp := fun a n q z => by
    have ha : a ≠ p := fun y => n (y ▸ m)
    rw [upd_ne ha]; exact W.kp a n q z
  mg := W.mg
  iv := i
theorem Wd.turn_wk (W : Wd F) {p : Addr} {o : HO} (m : F.M p) (i : F.I (upd W.H p o)) : Wk W (W.turn p o m i) := ⟨Ex.refl _⟩
theorem Wd.turn_le (W : Wd F) {p : Addr} {o : HO} (m : F.M p) (i : F.I (upd W.H p o)) : Le W (W.turn p o m i) := ⟨Ex.refl _, fun a n g z => ⟨g, upd_ne fun y => n (y ▸ m)⟩⟩
/-- all but x, which is not frozen, is as it was -/
structure Off (x : Addr) (G H G' H' : Hp) : Prop where
  ex : Ex G G'
  gh : Ex G' H'
  kp : ∀ a, a ≠ x → G a = none → H a ≠ none → G' a = none ∧ H' a = H a
  gx : G' x = none
theorem Off.wd {G H : Hp} {x : Addr} (W : Wd (pF G H)) (g : G x = none) (h : H x ≠ none) : Off x G H W.G W.H ∧ W.H x = H x := by
  obtain ⟨h1, h2⟩ := W.kp x (fun z => z) g h
  exact ⟨⟨W.gg, W.gh, fun a _ q n => W.kp a (fun z => z) q n, h1⟩, h2⟩
theorem Off.store {G H G' H' : Hp} {x : Addr} {o : HO} (f : Off x G H G' H') : Off x G H G' (upd H' x o) :=
  ⟨f.ex, fun a u e => by rw [upd_ne (ne_of_none e f.gx)]; exact f.gh a u e, fun a n q z => by rw [upd_ne n]; exact f.kp a n q z, f.gx⟩
theorem Off.trans {G H G' H' G2 H2 : Hp} {x : Addr} (f : Off x G H G' H') (g : Off x G' H' G2 H2) : Off x G H G2 H2 :=
  ⟨f.ex.trans g.ex, g.gh, fun a n q z => by
    obtain ⟨h1, h2⟩ := f.kp a n q z
    obtain ⟨h3, h4⟩ := g.kp a n h1 (by rw [h2]; exact z)
    exact ⟨h3, h4.trans h2⟩, g.gx⟩
/-- self.f = e -/
theorem q_setF {K : PySem.W.Frag} {σ : L2.St} {G H : Hp} {gh : Ex G H} {te : TE} {α : Type} {r : Rp α} {D : Ends} {tz : TS} {i : Nat} {x C dx : Addr} {fs : List (Str × V)} {f : Str} {P : α → Prop} (hi : σ[i]? = some (some (.ref x))) (gx : G x = none) (hx : H x = some (.ins C dx fs)) (cl : Cls K C) (na : NoAttr K C f) (hl : fs.length < 1000)
    (h : EvN te σ (Wd.in G H gh) r P) (k : ∀ v (G' H' : Hp) y, Off x G H G' H' → H' x = some (.ins C dx (putF f v fs)) → r.rel G' v y → P y → tz D σ H') : tSeq (sFld K (tVar i) te f) tz D σ H :=
  h _ (Le.refl _) _ fun v W y l hv hy => by
    obtain ⟨o, e⟩ := Off.wd W gx (by rw [hx]; exact fun z => nomatch z)
    exact ⟨_, hi, x, C, dx, fs, rfl, e.trans hx, cl, na, hl, k v W.G _ y o.store upd_same hv hy⟩
theorem s_setF {K : PySem.W.Frag} {σ : L2.St} {G H : Hp} {gh : Ex G H} {te : TE} {α : Type} {r : Rp α} {D : Ends} {i : Nat} {x C dx : Addr} {fs : List (Str × V)} {f : Str} {P : α → Prop} (hi : σ[i]? = some (some (.ref x))) (gx : G x = none) (hx : H x = some (.ins C dx fs)) (cl : Cls K C) (na : NoAttr K C f) (hl : fs.length < 1000)
    (h : EvN te σ (Wd.in G H gh) r P) (k : ∀ v (G' H' : Hp) y, Off x G H G' H' → H' x = some (.ins C dx (putF f v fs)) → r.rel G' v y → P y → D.nx σ H') : sFld K (tVar i) te f D σ H :=
  h _ (Le.refl _) _ fun v W y l hv hy => by
    obtain ⟨o, e⟩ := Off.wd W gx (by rw [hx]; exact fun z => nomatch z)
    exact ⟨_, hi, x, C, dx, fs, rfl, e.trans hx, cl, na, hl, k v W.G _ y o.store upd_same hv hy⟩
/-- Net(..), of a net that can be -/
structure NetOk (ns ss : List Int) (ls : List (Int × Int × Int)) : Prop where
  n1 : 1 ≤ ns.length ∧ ns.length ≤ 10
  n2 : ∀ x ∈ ns, 0 ≤ x ∧ x ≤ 1000000
  s1 : ss.Nodup
  s2 : ∀ x ∈ ss, 0 ≤ x ∧ x < (ns.length : Int)
  l1 : ls.length ≤ 10
  l2 : ∀ x ∈ ls, (0 ≤ x.1 ∧ x.1 < (ns.length : Int)) ∧ (0 ≤ x.2.1 ∧ x.2.1 < (ns.length : Int)) ∧ x.1 ≠ x.2.1 ∧ 0 ≤ x.2.2 ∧ x.2.2 ≤ 1000000
def SpInit (C : Addr) : Sp := fun vs H Q _ => ∃ (G : Hp) (x dx : Addr) (v1 v2 v3 : V) (ns ss : List Int) (ls : List (Int × Int × Int)), vs = [.ref x, v1, v2, v3] ∧ Ex G H ∧ G x = none ∧ H x = some (.ins C dx []) ∧
  (rList rInt).rel G v1 ns ∧ (rList rInt).rel G v2 ss ∧ (rList rLine).rel G v3 ls ∧ NetOk ns ss ls ∧
  ∀ (G' H' : Hp) (p q u : Addr) (ss' : List Int), Ex G G' → Ex G' H' → (∀ a, a ≠ x → G a = none → H a ≠ none → G' a = none ∧ H' a = H a) → G' x = none → H' x = some (.ins C dx (netFs p q u)) →
    (rList rInt).rel G' (.ref p) ns → (rList rInt).rel G' (.ref q) ss' → (rList rLine).rel G' (.ref u) ls → ss'.Perm ss → ss'.Pairwise (· ≤ ·) → Q .non H'
theorem ev_make {C : Addr} {E : XK} {ns ss : List Int} {ls : List (Int × Int × Int)} (ha : EvR ta σ W (rList rInt) ns) (hb : EvR tb σ W (rList rInt) ss) (hc : EvR tc σ W (rList rLine) ls) (ok : NetOk ns ss ls) :
    EvN (tMake C (SpInit C) [] E (tCons ta (tCons tb (tCons tc tNil)))) σ W (rNet C) (fun n => n.needs = ns ∧ n.lines = ls ∧ n.sources.Perm ss ∧ n.sources.Pairwise (· ≤ ·)) := fun W1 l Q q =>
  ha W1 l _ fun v1 W2 l2 h1 => hb W2 (l.trans l2) _ fun v2 W3 l3 h2 => hc W3 ((l.trans l2).trans l3) _ fun v3 W4 l4 h3 => fun x dx hx hd ne => by
    have nx : ∀ {a : Addr} {o : HO}, W4.H a = some o → a ≠ x := fun e => ne_of_none e hx
    have nd : ∀ {a : Addr} {o : HO}, W4.H a = some o → a ≠ dx := fun e => ne_of_none e hd
    have up : ∀ {a : Addr} {o : HO}, W4.H a = some o → (upd (upd W4.H dx (.own x)) x (.ins C dx [])) a = some o := fun e => by rw [upd_ne (nx e), upd_ne (nd e)]; exact e
    refine ⟨W4.G, x, dx, v1, v2, v3, ns, ss, ls, rfl, fun a o e => up (W4.gh a o e), W4.g hx, upd_same, (rList rInt).mono (l3.ex.trans l4.ex) h1, (rList rInt).mono l4.ex h2, h3, ok, fun G' H' p p2 u ss' g1 g2 kp gx ex r1 r2 r3 pm so => ⟨rfl, ?_⟩⟩
    -- the world behind: the instance frozen
    have k2 : ∀ a, W4.G a = none → W4.H a ≠ none → G' a = none ∧ H' a = W4.H a := fun a e n => by
      cases o : W4.H a with
      | none => exact absurd o n
      | some u =>
        obtain ⟨z1, z2⟩ := kp a (nx o) e (by rw [up o]; exact fun z => nomatch z)
        exact ⟨z1, z2.trans (up o)⟩
    have gG : Ex G' (upd G' x (.ins C dx (netFs p p2 u))) := Ex.new gx
    have gH : Ex (upd G' x (.ins C dx (netFs p p2 u))) H' := fun a o e => by
      by_cases h : a = x
      · subst h; rw [upd_same] at e; rw [ex]; exact e
      · rw [upd_ne h] at e; exact g2 a o e
    have nxG : ∀ a, W4.H a ≠ none → a ≠ x := fun a n z => n (by rw [z]; exact hx)
    have W5 : ∃ W5 : Wd F, W5.G = upd G' x (.ins C dx (netFs p p2 u)) ∧ W5.H = H' ∧ Le W4 W5 := by
      refine ⟨⟨_, H', gH, W4.gg.trans (g1.trans gG), fun a m g n => ?_, fun a m => ?_, F.st _ _ (fun a m => (k2 a (W4.mg a m) (F.has _ _ W4.iv m)).2) W4.iv⟩, rfl, rfl, g1.trans gG, fun a m g n => ?_⟩
      · obtain ⟨h1, h2⟩ := W4.kp a m g n
        obtain ⟨h3, h4⟩ := k2 a h1 (by rw [h2]; exact n)
        exact ⟨(upd_ne (nxG a (by rw [h2]; exact n))).trans h3, h4.trans h2⟩
      · have n := F.has _ _ W4.iv m
        exact (upd_ne (nxG a n)).trans (k2 a (W4.mg a m) n).1
      · obtain ⟨h3, h4⟩ := k2 a g n
        exact ⟨(upd_ne (nxG a n)).trans h3, h4⟩
    obtain ⟨W5, e1, e2, l5⟩ := W5
    subst e2
    refine q (.ref x) W5 ⟨ns, ss', ls⟩ ((l2.trans l3).trans (l4.trans l5)) ⟨x, dx, p, p2, u, rfl, ?_, ?_, ?_, ?_⟩ ⟨rfl, rfl, pm, so⟩
    · rw [e1]; exact upd_same
    · rw [e1]; exact (rList rInt).mono gG r1
    · rw [e1]; exact (rList rInt).mono gG r2
    · rw [e1]; exact (rList rLine).mono gG r3
end
end Q

namespace Q
open PySem L2
local macro_rules | `(tactic| walk_at "up") => do
  let l := Lean.mkIdent `l
  let mut ts : Array (Lean.TSyntax `tactic) := #[]
  for i in [1, 2, 3, 4, 5, 6, 7, 8, 9, 10, 11, 12, 13, 14, 15, 16] do
    let h := Lean.mkIdent (Lean.Name.mkSimple s!"h{i}")
    ts := ts.push (← `(tactic| try replace $h:ident := Rp.up (Le.ex $l) $h))
    ts := ts.push (← `(tactic| try replace $h:ident := Rp.up (Wk.ex $l) $h))
    ts := ts.push (← `(tactic| try replace $h:ident := Rp.up (Kp.ex $l) $h))
  for i in [1, 2, 3, 4] do
    let h := Lean.mkIdent (Lean.Name.mkSimple s!"o{i}")
    ts := ts.push (← `(tactic| try replace $h:ident := OwnL.up $l $h))
    ts := ts.push (← `(tactic| try replace $h:ident := OwnD.up $l $h))
  `(tactic| ($[$ts:tactic];*))
local macro_rules | `(tactic| walk_at "cm") => `(tactic| first | exact Or.inl ⟨by omega, by omega⟩ | exact Or.inr ⟨by omega, by omega⟩)
local macro_rules | `(tactic| walk_at "ev") => `(tactic| repeat' first
  | exact ev_var rfl (by first | assumption | rfl)
  | exact ev_int | exact ev_bl | exact ev_str | exact ev_non
  | (refine' ev_addA ?_ ?_) | (refine' ev_sub ?_ ?_)
  | (refine' ev_mulA ?_ ?_ ?_; rotate_left 2; walk_at "cm")
  | (refine' ev_mod ?_ ?_ ?_; rotate_left 2; omega)
  | (refine' ev_lt ?_ ?_) | (refine' ev_le ?_ ?_) | (refine' ev_gt ?_ ?_) | (refine' ev_ge ?_ ?_)
  | (refine' ev_lenA ?_) | (refine' ev_in ?_ ?_) | (refine' ev_nin ?_ ?_)
  | (refine' ev_jx0 ?_) | (refine' ev_jx1 ?_) | (refine' ev_jx2 ?_) | (refine' ev_ix0 ?_) | (refine' ev_ix1 ?_)
  | (refine ev_chain_lelt ?_ ?_ ?_) | (refine ev_chain_lele ?_ ?_ ?_)
  | (refine' et_r ?_) | (refine' et_b ?_) | (refine' et_not ?_) | (refine' et_and ?_ fun _ => ?_) | (refine' et_or ?_ fun _ => ?_)
  | (refine' ev_pow ?_ ?_ ⟨by decide, by decide, by decide⟩)
  | (refine' ev_t2 ?_ ?_) | (refine' ev_t3 ?_ ?_ ?_)
  | exact et_yes)

section
variable {P : Program} {w : World} {K : PySem.W.Frag} {mg : Str → Option Value} {base : Heap}
abbrev SpCheckNeeds : Sp := Fn1 (rList rInt) rNon (fun ns => (1 ≤ ns.length ∧ ns.length ≤ 10) ∧ ∀ x ∈ ns, 0 ≤ x ∧ x ≤ 1000000) (fun _ => ())
theorem ok_check_needs (T : Txt K mg) : FnOk P w K mg base CX0 1 T.d_check_needs.f T.d_check_needs.fd ["needs"] SpCheckNeeds := by
  refine T.d_check_needs.F.ok sc_d_check_needs (fun vs H Q E h => ?_) (fun cdv A outer s H vs Q E hr h => ?_)
  · obtain ⟨G, v, x, rfl, _⟩ := h; rfl
  · obtain ⟨G, v, ns, rfl, gh, h1, ⟨hl, hn⟩, k⟩ := h
    have hu := hu_of hr
    refine ⟨_, (pss_cons (ps_if (pt_not (pt_chain op_le op_le pe_int (pe_callB (kLen K) (by rfl) T.z_len PySem.boot_len (pa_cons (pv 0) pa_nil)) (pe_glob (v := .int 10) (by rfl) T.c_MOST_PLACES.2 ⟨_, rfl⟩))) (pss_one ps_never) pss_nil)
      (pss_one (ps_for PassesOwn.never rfl (kEnum K (by rfl) T.z_enumerate (pa_cons (pv 0) pa_nil)) (kTupT K rfl (pgs_cons (pg_name (i := 1) sc_d_check_needs.nd rfl (.inl rfl)) (pgs_cons (pg_name (i := 2) sc_d_check_needs.nd rfl (.inl rfl)) pgs_nil))) (pss_one (ps_if (pt_not (pt_chain op_le op_le pe_int (pv 2) (pe_glob (v := .int 1000000) (by rfl) T.c_MOST_WORTH.2 ⟨_, rfl⟩))) (pss_one ps_never) pss_nil))))), ?_⟩
    refine q_when (W := Wd.in G H gh) (b := false) (EvB.is (x := !(decide ((1 : Int) ≤ (ns.length : Nat)) && decide (((ns.length : Nat) : Int) ≤ 10))) (by walk_at "ev") (by simp; omega)) (fun z => nomatch z) fun _ W l => ?_
    walk_at "up"
    refine s_forE (r := rInt) (xs := ns) (by walk_at "ev") fun W l => ?_
    walk_at "up"
    refine ⟨fun i σ W => ∃ k1 k2, σ = [some v, k1, k2], ⟨none, none, rfl⟩, ?_, ?_⟩
    · rintro i x u σ W1 W2 l l2 hx e ⟨k1, k2, rfl⟩
      cases e
      have := hn x (List.mem_of_getElem? hx)
      refine s_when (W := W2) (b := false) (EvB.is (x := !(decide ((0 : Int) ≤ x) && decide (x ≤ 1000000))) (by walk_at "ev") (by simp; omega)) (fun z => nomatch z) fun _ W3 l3 => ?_
      exact ⟨W3, rfl, ⟨(l.ex.trans l2.ex).trans l3.ex⟩, _, _, rfl⟩
    · rintro σ W1 l ⟨k1, k2, rfl⟩
      exact k .non W1 rfl
abbrev SpCheckSources : Sp := Fn2 (rList rInt) rInt rNon (fun ss m => ss.Nodup ∧ ss.length ≤ 10 ∧ ∀ x ∈ ss, 0 ≤ x ∧ x < m) (fun _ _ => ())
theorem nodup_take {ss : List Int} {i : Nat} {x : Int} (nd : ss.Nodup) (h : ss[i]? = some x) : x ∉ ss.take i := fun hm => by
  obtain ⟨j, hj, e⟩ := List.getElem_of_mem hm
  rw [List.getElem_take] at e
  have hi := (List.getElem?_eq_some_iff.mp h).1
  have hx := (List.getElem?_eq_some_iff.mp h).2
  have hj' : j < i := by rw [List.length_take] at hj; omega
  have := (List.getElem_inj nd (h₀ := by omega) (h₁ := hi)).mp (e.trans hx.symm)
  omega
theorem ok_check_sources (T : Txt K mg) : FnOk P w K mg base CX0 1 T.d_check_sources.f T.d_check_sources.fd ["sources", "many"] SpCheckSources := by
  refine T.d_check_sources.F.ok sc_d_check_sources (fun vs H Q E h => ?_) (fun cdv A outer s H vs Q E hr h => ?_)
  · obtain ⟨G, v, u, x, y, rfl, _⟩ := h; rfl
  · obtain ⟨G, v, u, ss, m, rfl, gh, h1, e, ⟨nd, hl, hs⟩, k⟩ := h
    have hu := hu_of hr
    cases e
    refine ⟨_, (pss_one (ps_for PassesOwn.never rfl (kEnum K (by rfl) T.z_enumerate (pa_cons (pv 0) pa_nil)) (kTupT K rfl (pgs_cons (pg_name (i := 2) sc_d_check_sources.nd rfl (.inl rfl)) (pgs_cons (pg_name (i := 3) sc_d_check_sources.nd rfl (.inl rfl)) pgs_nil))) (pss_one (ps_if (PW.pt (pw_or (pt_not (pt_chain op_le op_lt pe_int (pv 3) (pv 1))) (pw_or1 (pt_cmpR (kIn K) (pv 3) (pe_slice (kSl K) (pv 0) po_none (po_some (pv 2))) (by rfl))))) (pss_one ps_never) pss_nil)))), ?_⟩
    refine s_forE (W := Wd.in G H gh) (r := rInt) (xs := ss) (by walk_at "ev") fun W l => ?_
    walk_at "up"
    refine ⟨fun i σ W => ∃ k1 k2, σ = [some v, some (.int m), k1, k2], ⟨none, none, rfl⟩, ?_, ?_⟩
    · rintro i x u σ W1 W2 l l2 hx e ⟨k1, k2, rfl⟩
      cases e
      replace h1 := Rp.up (l.ex.trans l2.ex) h1
      have := hs x (List.mem_of_getElem? hx)
      have hx2 := nodup_take nd hx
      refine s_when (W := W2) (b := false) (EvB.is (x := !(decide ((0 : Int) ≤ x) && decide (x < m)) || decide (x ∈ ss.take ((i : Int)).toNat)) (et_or (by walk_at "ev") fun _ => et_r (ev_in (by walk_at "ev") (EvO.fz (eo_sl (ev_var rfl h1) rfl (ev_var rfl rfl) (by omega) rfl)))) (by simp [hx2]; omega)) (fun z => nomatch z) fun _ W3 l3 => ?_
      exact ⟨W3, rfl, ⟨(l.ex.trans l2.ex).trans l3.ex⟩, _, _, rfl⟩
    · rintro σ W1 l ⟨k1, k2, rfl⟩
      exact k .non W1 rfl
abbrev SpCheckLines : Sp := Fn2 (rList rLine) rInt rNon (fun ls m => ls.length ≤ 10 ∧ ∀ x ∈ ls, (0 ≤ x.1 ∧ x.1 < m) ∧ (0 ≤ x.2.1 ∧ x.2.1 < m) ∧ x.1 ≠ x.2.1 ∧ 0 ≤ x.2.2 ∧ x.2.2 ≤ 1000000) (fun _ _ => ())
theorem ok_check_lines (T : Txt K mg) : FnOk P w K mg base CX0 1 T.d_check_lines.f T.d_check_lines.fd ["lines", "many"] SpCheckLines := by
  refine T.d_check_lines.F.ok sc_d_check_lines (fun vs H Q E h => ?_) (fun cdv A outer s H vs Q E hr h => ?_)
  · obtain ⟨G, v, u, x, y, rfl, _⟩ := h; rfl
  · obtain ⟨G, v, u, ls, m, rfl, gh, h1, e, ⟨hl, hs⟩, k⟩ := h
    have hu := hu_of hr
    cases e
    refine ⟨_, (pss_cons (ps_if (pt_cmpR op_gt (pe_callB (kLen K) (by rfl) T.z_len PySem.boot_len (pa_cons (pv 0) pa_nil)) (pe_glob (v := .int 10) (by rfl) T.c_MOST_LINES.2 ⟨_, rfl⟩) (nomark _)) (pss_one ps_never) pss_nil)
      (pss_one (ps_for PassesOwn.never rfl (kEnum K (by rfl) T.z_enumerate (pa_cons (pv 0) pa_nil)) (kTupT K rfl (pgs_cons (pg_name (i := 2) sc_d_check_lines.nd rfl (.inl rfl)) (pgs_cons (kTupT K rfl (pgs_cons (pg_name (i := 3) sc_d_check_lines.nd rfl (.inl rfl)) (pgs_cons (pg_name (i := 4) sc_d_check_lines.nd rfl (.inl rfl)) (pgs_cons (pg_name (i := 5) sc_d_check_lines.nd rfl (.inl rfl)) pgs_nil)))) pgs_nil))) (pss_cons (ps_if (PW.pt (pw_or (pt_not (pt_chain op_le op_lt pe_int (pv 3) (pv 1))) (pw_or (pt_not (pt_chain op_le op_lt pe_int (pv 4) (pv 1))) (pw_or1 (pt_cmpR (kEq K hr.units) (pv 3) (pv 4) (nomark _)))))) (pss_one ps_never) pss_nil)
      (pss_one (ps_if (pt_not (pt_chain op_le op_le pe_int (pv 5) (pe_glob (v := .int 1000000) (by rfl) T.c_MOST_WORTH.2 ⟨_, rfl⟩))) (pss_one ps_never) pss_nil)))))), ?_⟩
    refine q_when (W := Wd.in G H gh) (b := false) (EvB.is (x := decide ((10 : Int) < (ls.length : Nat))) (by walk_at "ev") (by simp; omega)) (fun z => nomatch z) fun _ W l => ?_
    walk_at "up"
    refine s_forE (r := rLine) (xs := ls) (by walk_at "ev") fun W l => ?_
    walk_at "up"
    refine ⟨fun i σ W => ∃ k1 k2 k3 k4, σ = [some v, some (.int m), k1, k2, k3, k4], ⟨none, none, none, none, rfl⟩, ?_, ?_⟩
    · rintro i x u σ W1 W2 l l2 hx hv ⟨k1, k2, k3, k4, rfl⟩
      refine g_t3 (W := W2) hv fun u1 u2 u3 e1 e2 e3 => ?_
      cases e1; cases e2; cases e3
      obtain ⟨a1, a2, a3, a4⟩ := hs x (List.mem_of_getElem? hx)
      refine q_when (W := W2) (b := false) (EvB.is (x := !(decide ((0 : Int) ≤ x.1) && decide (x.1 < m)) || (!(decide ((0 : Int) ≤ x.2.1) && decide (x.2.1 < m)) || decide (x.1 = x.2.1))) (et_or (by walk_at "ev") fun _ => et_or (by walk_at "ev") fun _ => et_r (ev_eqA fl_int (by walk_at "ev") (by walk_at "ev"))) (by simp [a3]; omega)) (fun z => nomatch z) fun _ W3 l3 => ?_
      refine s_when (W := W3) (b := false) (EvB.is (x := !(decide ((0 : Int) ≤ x.2.2) && decide (x.2.2 ≤ 1000000))) (by walk_at "ev") (by simp; omega)) (fun z => nomatch z) fun _ W4 l4 => ?_
      exact ⟨W4, rfl, ⟨(l.ex.trans l2.ex).trans (l3.ex.trans l4.ex)⟩, _, _, _, _, rfl⟩
    · rintro σ W1 l ⟨k1, k2, k3, k4, rfl⟩
      exact k .non W1 rfl
theorem netFs_eq (p q u : Addr) : putF "_lines" (.ref u) (putF "_sources" (.ref q) (putF "_needs" (.ref p) [])) = netFs p q u := by
  unfold netFs
  simp [putF, ne1, ne2, ne3]
theorem ok_init (T : Txt K mg) : FnOk P w K mg base CX0 2 T.m_Net_init.f T.m_Net_init.fd ["self", "needs", "sources", "lines"] (SpInit T.C_Net) := by
  have G_d_check_needs : FnOk P w K mg base CX0 1 T.d_check_needs.f T.d_check_needs.fd ["needs"] SpCheckNeeds := ok_check_needs T
  have G_d_check_sources : FnOk P w K mg base CX0 1 T.d_check_sources.f T.d_check_sources.fd ["sources", "many"] SpCheckSources := ok_check_sources T
  have G_d_check_lines : FnOk P w K mg base CX0 1 T.d_check_lines.f T.d_check_lines.fd ["lines", "many"] SpCheckLines := ok_check_lines T
  refine T.m_Net_init.F.ok sc_m_Net_init (fun vs H Q E h => ?_) (fun cdv A outer s H vs Q E hr h => ?_)
  · obtain ⟨G, x, dx, v1, v2, v3, ns, ss, ls, rfl, _⟩ := h; rfl
  · obtain ⟨G, x, dx, v1, v2, v3, ns, ss, ls, rfl, gh, gx, hx, h1, h2, h3, ok, k⟩ := h
    have hu := hu_of hr
    refine ⟨_, (pss_cons (ps_expr (pe_call G_d_check_needs (hr.mono (by decide)) (by rfl) T.d_check_needs.m T.d_check_needs.F.kp T.d_check_needs.b .nil pass0 (pa_cons (pv 1) pa_nil)))
      (pss_cons (ps_expr (pe_call G_d_check_sources (hr.mono (by decide)) (by rfl) T.d_check_sources.m T.d_check_sources.F.kp T.d_check_sources.b .nil pass0 (pa_cons (pv 2) (pa_cons (pe_callB (kLen K) (by rfl) T.z_len PySem.boot_len (pa_cons (pv 1) pa_nil)) pa_nil))))
      (pss_cons (ps_expr (pe_call G_d_check_lines (hr.mono (by decide)) (by rfl) T.d_check_lines.m T.d_check_lines.F.kp T.d_check_lines.b .nil pass0 (pa_cons (pv 3) (pa_cons (pe_callB (kLen K) (by rfl) T.z_len PySem.boot_len (pa_cons (pv 1) pa_nil)) pa_nil))))
      (pss_cons (kSetF K (pv 0) (pe_callTy (kList K) (by rfl) T.z_list PyProof.Rows.boot_list (pa_cons (pv 1) pa_nil)) rfl)
      (pss_cons (kSetF K (pv 0) (pe_callB (kSorted K) (by rfl) T.z_sorted (by decide +kernel) (pa_cons (pv 2) pa_nil)) rfl)
      (pss_one (kSetF K (pv 0) (pe_callTy (kList K) (by rfl) T.z_list PyProof.Rows.boot_list (pa_cons (pv 3) pa_nil)) rfl))))))), ?_⟩
    have sl : ss.length ≤ 10 := by
      have := nodup_len ok.s1 ok.s2
      have := ok.n1.2
      omega
    refine q_drop (W := Wd.in G H gh) (ev_call1 (r := rList rInt) (s := rNon) (ev_var rfl h1) ⟨ok.n1, ok.n2⟩) fun W l => ?_
    walk_at "up"
    refine q_drop (ev_call2 (r := rList rInt) (s := rInt) (t := rNon) (ev_var rfl h2) (by walk_at "ev") ⟨ok.s1, sl, ok.s2⟩) fun W l => ?_
    walk_at "up"
    refine q_drop (ev_call2 (r := rList rLine) (s := rInt) (t := rNon) (ev_var rfl h3) (by walk_at "ev") ⟨ok.l1, ok.l2⟩) fun W l => ?_
    walk_at "up"
    obtain ⟨f0, e0⟩ := Off.wd W gx (by rw [hx]; exact fun z => nomatch z)
    rw [hx] at e0
    refine q_setF (gh := f0.gh) (r := rList rInt) rfl f0.gx e0 T.l_Net T.na_needs (by simp) (EvR.n (EvO.fz (eo_list (ev_var rfl h1)))) fun u1 G1 H1 y f1 e1 r1 hy => ?_
    subst hy
    replace h2 := Rp.up f1.ex h2
    replace h3 := Rp.up f1.ex h3
    refine q_setF (gh := f1.gh) (r := rList rInt) rfl f1.gx e1 T.l_Net T.na_sources (by simp [putF]) (EvON.fz (eo_sorted (ev_var rfl h2))) fun u2 G2 H2 ss' f2 e2 r2 hy => ?_
    replace r1 := Rp.up f2.ex r1
    replace h3 := Rp.up f2.ex h3
    refine s_setF (gh := f2.gh) (r := rList rLine) rfl f2.gx e2 T.l_Net T.na_lines (by simp [putF]; split <;> simp) (EvR.n (EvO.fz (eo_list (ev_var rfl h3)))) fun u3 G3 H3 z f3 e3 r3 hz => ?_
    subst hz
    replace r1 := Rp.up f3.ex r1
    replace r2 := Rp.up f3.ex r2
    have f := ((f0.trans f1).trans f2).trans f3
    obtain ⟨p, _, rfl, _⟩ := id r1
    obtain ⟨q, _, rfl, _⟩ := id r2
    obtain ⟨u, _, rfl, _⟩ := id r3
    rw [netFs_eq] at e3
    exact k G3 H3 p q u ss' f.ex f.gh f.kp f.gx e3 r1 r2 r3 hy.1 hy.2
/-! the methods -/
theorem ok_places (T : Txt K mg) : FnOk P w K mg base CX0 1 T.m_Net_places.f T.m_Net_places.fd ["self"] (Fn1 (rNet T.C_Net) (rList rInt) (fun n => n.needs.length ≤ 100) (fun n => rg n.needs.length)) := by
  refine T.m_Net_places.F.ok sc_m_Net_places (fun vs H Q E h => ?_) (fun cdv A outer s H vs Q E hr h => ?_)
  · obtain ⟨G, v, x, rfl, _⟩ := h; rfl
  · obtain ⟨G, v, n, rfl, gh, h1, hl, k⟩ := h
    refine ⟨_, (pss_one (ps_ret (pe_listRg rfl (by rfl) T.z_list (prg_1 (by rfl) T.z_range (pe_callB (kLen K) (by rfl) T.z_len PySem.boot_len (pa_cons (kFld K (pv 0) rfl) pa_nil)))))), ?_⟩
    exact s_ret (W := Wd.in G H gh) (x := rg n.needs.length) (EvO.fz (eo_rng (ev_lenA (ev_needs T.l_Net T.na_needs (ev_var rfl h1))) (by omega))) k
theorem ok_needs (T : Txt K mg) : FnOk P w K mg base CX0 1 T.m_Net_needs.f T.m_Net_needs.fd ["self"] (Fn1 (rNet T.C_Net) (rList rInt) (fun n => True) (fun n => n.needs)) := by
  refine T.m_Net_needs.F.ok sc_m_Net_needs (fun vs H Q E h => ?_) (fun cdv A outer s H vs Q E hr h => ?_)
  · obtain ⟨G, v, x, rfl, _⟩ := h; rfl
  · obtain ⟨G, v, n, rfl, gh, h1, _, k⟩ := h
    refine ⟨_, (pss_one (ps_ret (pe_callTy (kList K) (by rfl) T.z_list PyProof.Rows.boot_list (pa_cons (kFld K (pv 0) rfl) pa_nil)))), ?_⟩
    exact s_ret (W := Wd.in G H gh) (EvO.fz (eo_list (ev_needs T.l_Net T.na_needs (ev_var rfl h1)))) k
theorem ok_sources (T : Txt K mg) : FnOk P w K mg base CX0 1 T.m_Net_sources.f T.m_Net_sources.fd ["self"] (Fn1 (rNet T.C_Net) (rList rInt) (fun n => True) (fun n => n.sources)) := by
  refine T.m_Net_sources.F.ok sc_m_Net_sources (fun vs H Q E h => ?_) (fun cdv A outer s H vs Q E hr h => ?_)
  · obtain ⟨G, v, x, rfl, _⟩ := h; rfl
  · obtain ⟨G, v, n, rfl, gh, h1, _, k⟩ := h
    refine ⟨_, (pss_one (ps_ret (pe_callTy (kList K) (by rfl) T.z_list PyProof.Rows.boot_list (pa_cons (kFld K (pv 0) rfl) pa_nil)))), ?_⟩
    exact s_ret (W := Wd.in G H gh) (EvO.fz (eo_list (ev_sources T.l_Net T.na_sources (ev_var rfl h1)))) k
theorem ok_lines (T : Txt K mg) : FnOk P w K mg base CX0 1 T.m_Net_lines.f T.m_Net_lines.fd ["self"] (Fn1 (rNet T.C_Net) (rList rLine) (fun n => True) (fun n => n.lines)) := by
  refine T.m_Net_lines.F.ok sc_m_Net_lines (fun vs H Q E h => ?_) (fun cdv A outer s H vs Q E hr h => ?_)
  · obtain ⟨G, v, x, rfl, _⟩ := h; rfl
  · obtain ⟨G, v, n, rfl, gh, h1, _, k⟩ := h
    refine ⟨_, (pss_one (ps_ret (pe_callTy (kList K) (by rfl) T.z_list PyProof.Rows.boot_list (pa_cons (kFld K (pv 0) rfl) pa_nil)))), ?_⟩
    exact s_ret (W := Wd.in G H gh) (EvO.fz (eo_list (ev_lines T.l_Net T.na_lines (ev_var rfl h1)))) k
end
end Q

namespace Q
open PySem L2
section
variable {F : Fr} {K : PySem.W.Frag} {σ : L2.St} {W W1 : Wd F} {ta tb te tc tl ti tk tv : TE} {tt tu : TT} {α β γ δ : Type} {r : Rp α} {s : Rp β} {t : Rp γ} {D : Ends} {tz tx ty : TS}
/-! ### promises that leave something open -/
def FnN1 (r : Rp α) (s : Rp β) (pre : α → Prop) (post : α → β → Prop) : Sp := fun vs H Q _ => ∃ G v x, vs = [v] ∧ Ex G H ∧ r.rel G v x ∧ pre x ∧ ∀ u (W : Wd (pF G H)) z, s.rel W.G u z → post x z → Q u W.H
def FnN2 (r : Rp α) (s : Rp β) (t : Rp γ) (pre : α → β → Prop) (post : α → β → γ → Prop) : Sp := fun vs H Q _ => ∃ G v w x y, vs = [v, w] ∧ Ex G H ∧ r.rel G v x ∧ s.rel G w y ∧ pre x y ∧ ∀ u (W : Wd (pF G H)) z, t.rel W.G u z → post x y z → Q u W.H
def FnN3 (r : Rp α) (s : Rp β) (t : Rp γ) (q : Rp δ) (pre : α → β → γ → Prop) (post : α → β → γ → δ → Prop) : Sp := fun vs H Q _ => ∃ G v w y a b c, vs = [v, w, y] ∧ Ex G H ∧ r.rel G v a ∧ s.rel G w b ∧ t.rel G y c ∧ pre a b c ∧ ∀ u (W : Wd (pF G H)) z, q.rel W.G u z → post a b c z → Q u W.H
theorem ev_callN1 {pre : α → Prop} {post : α → β → Prop} {E : XK} {x : α} (ha : EvR ta σ W r x) (hp : pre x) : EvN (tCall (FnN1 r s pre post) [] E (tCons ta tNil)) σ W s (post x) := fun W1 l Q q =>
  ha W1 l _ fun v W2 l2 hv => ⟨W2.G, v, x, rfl, W2.gh, hv, hp, fun u W3 z hu hz => q u (W2.back W3) z (l2.trans (W2.back_le W3)) hu hz⟩
theorem ev_callN2 {pre : α → β → Prop} {post : α → β → γ → Prop} {E : XK} {x : α} {y : β} (ha : EvR ta σ W r x) (hb : EvR tb σ W s y) (hp : pre x y) : EvN (tCall (FnN2 r s t pre post) [] E (tCons ta (tCons tb tNil))) σ W t (post x y) := fun W1 l Q q =>
  ha W1 l _ fun v W2 l2 hv => hb W2 (l.trans l2) _ fun w W3 l3 hw => ⟨W3.G, v, w, x, y, rfl, W3.gh, r.mono l3.ex hv, hw, hp, fun u W4 z hu hz => q u (W3.back W4) z ((l2.trans l3).trans (W3.back_le W4)) hu hz⟩
theorem ev_callN3 {q : Rp δ} {pre : α → β → γ → Prop} {post : α → β → γ → δ → Prop} {E : XK} {x : α} {y : β} {z : γ} (ha : EvR ta σ W r x) (hb : EvR tb σ W s y) (hc : EvR tc σ W t z) (hp : pre x y z) : EvN (tCall (FnN3 r s t q pre post) [] E (tCons ta (tCons tb (tCons tc tNil)))) σ W q (post x y z) := fun W1 l Q k =>
  ha W1 l _ fun v W2 l2 hv => hb W2 (l.trans l2) _ fun w W3 l3 hw => hc W3 ((l.trans l2).trans l3) _ fun u W4 l4 hu => ⟨W4.G, v, w, u, x, y, z, rfl, W4.gh, r.mono (l3.ex.trans l4.ex) hv, s.mono l4.ex hw, hu, hp, fun u W5 o h5 ho => k u (W4.back W5) o (((l2.trans l3).trans l4).trans (W4.back_le W5)) h5 ho⟩
theorem ev_callN2' {pre : α → β → Prop} {post : α → β → γ → Prop} {P : α → Prop} {P' : β → Prop} {R : γ → Prop} {E : XK} (ha : EvN ta σ W r P) (hb : EvN tb σ W s P') (hp : ∀ x y, P x → P' y → pre x y) (hR : ∀ x y z, P x → P' y → post x y z → R z) : EvN (tCall (FnN2 r s t pre post) [] E (tCons ta (tCons tb tNil))) σ W t R := fun W1 l Q q =>
  ha W1 l _ fun v W2 x l2 hv hx => hb W2 (l.trans l2) _ fun w W3 y l3 hw hy => ⟨W3.G, v, w, x, y, rfl, W3.gh, r.mono l3.ex hv, hw, hp x y hx hy, fun u W4 z hu hz => q u (W3.back W4) z ((l2.trans l3).trans (W3.back_le W4)) hu (hR x y z hx hy hz)⟩
theorem ev_meth0N {C : Addr} {n : NetD} {m : Str} {pre : NetD → Prop} {post : NetD → β → Prop} {E : XK} (h1 : ¬ m = "_needs") (h2 : ¬ m = "_sources") (h3 : ¬ m = "_lines") (h : EvR ta σ W (rNet C) n) (hp : pre n) : EvN (tMeth C m (FnN1 (rNet C) s pre post) [] E ta tNil) σ W s (post n) := fun W1 l Q q =>
  h W1 l _ fun v W2 l2 hv => by
    obtain ⟨a, dx, p, p2, u, rfl, g2, g3, g4, g5⟩ := id hv
    exact ⟨a, dx, _, rfl, W2.gh _ _ g2, nf_none _ _ _ h1 h2 h3, W2.G, _, n, rfl, W2.gh, hv, hp, fun u W3 z hu hz => q u (W2.back W3) z (l2.trans (W2.back_le W3)) hu hz⟩
theorem ev_lenAN {P : List α → Prop} {R : Int → Prop} (ha : EvN ta σ W (rList r) P) (hR : ∀ xs, P xs → R (xs.length : Nat)) : EvN (tCB (oLenA K) (tCons ta tNil)) σ W rInt R := fun W1 l Q q => ha W1 l _ fun v W2 xs l2 hv hx => by
  obtain ⟨a, vs, rfl, h1, h2⟩ := hv
  exact .inl ⟨a, vs, rfl, .inl (sqL_of W2.gh h1), q _ W2 _ l2 (by rw [h2.1]; rfl) (hR xs hx)⟩
theorem eon_keys {P : List (Int × α) → Prop} (ha : EvN ta σ W (rDict r) P) : EvON (tCB rListD (tCons ta tNil)) σ W rInt (fun zs => ∃ xs, P xs ∧ zs = xs.map (·.1)) := fun W1 l Q q => ha W1 l _ fun v W2 xs l2 hv hx => by
  obtain ⟨a, kvs, rfl, h1, h2⟩ := hv
  refine ⟨a, kvs, rfl, W2.gh _ _ h1, fun p hp => q p _ (W2.own p _ hp) _ (l2.trans (W2.own_le hp)) (le_fresh l2 hp) (W2.own_at hp) ?_ ⟨xs, hx, rfl⟩⟩
  refine DictR.ind (P := fun kvs xs => All2 (rInt.rel W2.G) (kvs.map fun kv => kV kv.1) (xs.map (·.1))) All2.nil (fun v x kvs xs hr _ ih => ?_) h2
  exact ih.cons rfl
/-! ### dict comprehensions over a list -/
/-- what is gone over turn by turn, n turns: S the end, R that there is a turn, T the turn with what it must reach -/
theorem by_count {n : Nat} {S R : Nat → Hp → Prop} {Z : Hp → Prop} {T : Nat → Hp → (Hp → Prop) → Prop} {H0 : Hp} (Pv : Nat → Hp → Prop) (h0 : Pv 0 H0) (he : ∀ H, Pv n H → S n H ∧ Z H) (ht : ∀ i H, i < n → Pv i H → R i H ∧ T i H (Pv (i + 1))) :
    ∃ W : Nat → Nat → Hp → Prop, (∃ m, W 0 m H0) ∧ ∀ i m H, W i m H → (S i H ∧ Z H) ∨ (R i H ∧ ∃ Nx : Hp → Prop, (∀ H', Nx H' → ∃ m', m' < m ∧ W (i + 1) m' H') ∧ T i H Nx) :=
  ⟨fun i m H => i + m = n ∧ Pv i H, ⟨n, Nat.zero_add n, h0⟩, fun i m H w => by
    obtain ⟨e, q⟩ := w
    cases m with
    | zero =>
      obtain rfl : i = n := e
      exact .inl (he H q)
    | succ m =>
      obtain ⟨r, t⟩ := ht i H (by omega) q
      exact .inr ⟨r, Pv (i + 1), fun H' p' => ⟨m, Nat.lt_succ_self m, by omega, p'⟩, t⟩⟩
/-- a comprehension's reading of a list's turn: k what is done with the turn's answer -/
abbrev TurnL (K : PySem.W.Frag) (a : Addr) (g : TG) (tt : TT) (vs : List Nat) (σ : L2.St) (k : L2.St → Hp → (Hp → Prop) → Prop) (i : Nat) (H : Hp) (Nx : Hp → Prop) : Prop :=
  ∀ x H', (Itl K a).yld i H x H' → g x (wipe σ vs) H' fun σ2 H2 => wipe σ2 vs = wipe σ vs ∧ tt σ2 H2 fun b H3 => if b = true then k σ2 H3 Nx else Nx H3
theorem over_list {a : Addr} {xs : List V} {g : TG} {tt : TT} {vs : List Nat} {σ : L2.St} {k : L2.St → Hp → (Hp → Prop) → Prop} {H0 : Hp} {Z : Hp → Prop} (Pv : Nat → Hp → Prop) (h0 : Pv 0 H0) (hl : ∀ i H, i ≤ xs.length → Pv i H → SqL K H a xs) 
    (hs : ∀ (i : Nat) x H, xs[i]? = some x → Pv i H → g x (wipe σ vs) H fun σ2 H2 => wipe σ2 vs = wipe σ vs ∧ tt σ2 H2 fun b H3 => if b = true then k σ2 H3 (Pv (i + 1)) else Pv (i + 1) H3) (hd : ∀ H, Pv xs.length H → Z H) :
    ∃ W : Nat → Nat → Hp → Prop, (∃ m, W 0 m H0) ∧ ∀ i m H, W i m H → ((Itl K a).stop i H ∧ Z H) ∨ ((Itl K a).go i H ∧ ∃ Nx : Hp → Prop, (∀ H', Nx H' → ∃ m', m' < m ∧ W (i + 1) m' H') ∧ TurnL K a g tt vs σ k i H Nx) :=
  by_count (n := xs.length) Pv h0 (fun H p => ⟨⟨xs, hl _ H (Nat.le_refl _) p, Nat.le_refl _⟩, hd H p⟩) fun i H lt p =>
    have at' := hl i H (Nat.le_of_lt lt) p
    have e := List.getElem?_eq_getElem lt
    ⟨⟨xs, xs[i], at', e⟩, fun x H' y => by
      have ex : xs[i]? = some x := y.2 xs at'
      have eH : H' = H := y.1
      rw [eH]
      exact hs i x H ex p⟩
/-- a new dict of one's own -/
def EvOD (te : TE) (σ : L2.St) (W : Wd F) (r : Rp α) (xs : List (Int × α)) : Prop := ∀ W1 : Wd F, Le W W1 → ∀ Q : VK, (∀ p (W2 : Wd F), Le W1 W2 → W1.H p = none → OwnD W2 p r xs → Q (.ref p) W2.H) → te σ W1.H Q
theorem dput_new {xs : List (Int × α)} {k : Int} {v : α} (h : dlook xs k = none) : dput xs k v = xs ++ [(k, v)] := by
  unfold dput
  rw [if_neg]
  intro z
  rw [List.any_eq_true] at z
  obtain ⟨p, hp, e⟩ := z
  unfold dlook at h
  rw [Option.map_eq_none_iff, List.find?_eq_none] at h
  exact h p hp e
theorem dlook_none {xs : List (Int × α)} {k : Int} : dlook xs k = none ↔ k ∉ xs.map (·.1) := by
  unfold dlook
  rw [Option.map_eq_none_iff, List.find?_eq_none]
  constructor
  · intro h hm
    obtain ⟨p, hp, e⟩ := List.mem_map.mp hm
    exact h p hp (by simp [e])
  · intro h p hp e
    exact h (List.mem_map.mpr ⟨p, hp, by simpa using e⟩)
theorem dlook_some {xs : List (Int × α)} {k : Int} : (dlook xs k).isSome = decide (k ∈ xs.map (·.1)) := by
  by_cases h : k ∈ xs.map (·.1)
  · rw [decide_eq_true h]
    cases e : dlook xs k with
    | some x => rfl
    | none => exact absurd h (dlook_none.mp e)
  · rw [decide_eq_false h, dlook_none.mpr h]; rfl
theorem le_putD {W W1 : Wd F} {p : Addr} {o : HO} (l : Le W W1) (h : W.H p = none) (h0 : F.H0 p = none) (g : W1.G p = none) : Le W (W1.put p o h0 g) := le_put l h h0 g
/-- {k: v for x in xs}, the keys of xs's items unlike -/
theorem eod_dc {xs : List α} {j : Nat} {ws : List Nat} (kf : α → Int) (g : α → β) (h : EvR tl σ W (rList r) xs) (hz : xs.length ≤ 40000) (nd : (xs.map kf).Nodup) (hw : ∀ x, wipe ((wipe σ ws).set j (some x)) ws = wipe σ ws)
    (c1 : ∀ (i : Nat) x v (W1 : Wd F), Le W W1 → xs[i]? = some x → r.rel W1.G v x → EvR tk ((wipe σ ws).set j (some v)) W1 rInt (kf x))
    (c2 : ∀ (i : Nat) x v (W1 : Wd F), Le W W1 → xs[i]? = some x → r.rel W1.G v x → EvR tv ((wipe σ ws).set j (some v)) W1 s (g x)) : EvOD (tDc (iList K tl) (gName j) tYes tk tv ws) σ W s (xs.map fun x => (kf x, g x)) := fun W1 l Q q => by
  refine h W1 l _ fun v W2 l2 hv => ?_
  obtain ⟨a, vs, rfl, h1, h2⟩ := hv
  refine ⟨a, rfl, ⟨vs, sqL_of W2.gh h1⟩, fun p hp => over_list (K := K) (a := a) (xs := vs) (fun i H => ∃ W3 : Wd F, W3.H = H ∧ Le W2 W3 ∧ OwnD W3 p s ((xs.take i).map fun x => (kf x, g x))) ⟨W2.own p _ hp, rfl, W2.own_le hp, ⟨[], W2.own_at hp, DictR.nil⟩⟩ ?_ ?_ ?_⟩
  · rintro i _ _ ⟨W3, rfl, l3, _⟩
    exact sqL_of W3.gh (l3.ex _ _ h1)
  · rintro i y _ hi ⟨W3, rfl, l3, o⟩
    obtain ⟨x, hx, hr⟩ := h2.getv hi
    have hi' := (List.getElem?_eq_some_iff.mp hx).1
    refine ⟨hw y, ?_⟩
    refine c1 i x y W2 (l.trans l2) hx hr W3 l3 _ fun yk W4 l4 hk => c2 i x y W2 (l.trans l2) hx hr W4 (l3.trans l4) _ fun yv W5 l5 hv => ?_
    obtain ⟨kvs, o1, o2⟩ := ((o.up l4).up l5).ex
    have hk : yk = .int (kf x) := hk
    subst hk
    refine ⟨kvs, Sum.inl (kf x), rfl, o1.h, by rw [o2.1]; exact Nat.lt_of_le_of_lt (show ((xs.take i).map fun x => (kf x, g x)).length ≤ 40000 by rw [List.length_map, List.length_take]; omega) (by decide), W5.put p _ o1.z o1.g, rfl, le_put ((l3.trans l4).trans l5) hp _ _, ⟨_, W5.put_at o1.z o1.g, ?_⟩⟩
    have e : (xs.take (i + 1)).map (fun x => (kf x, g x)) = dput ((xs.take i).map fun x => (kf x, g x)) (kf x) (g x) := by
      rw [dput_new, List.take_add_one, hx, List.map_append]
      · rfl
      · rw [dlook_none, List.map_map]
        intro hm
        obtain ⟨x', hx', e⟩ := List.mem_map.mp hm
        have e : kf x' = kf x := e
        obtain ⟨j, hj, ej⟩ := List.getElem_of_mem hx'
        rw [List.getElem_take] at ej
        have hj' : j < i := by rw [List.length_take] at hj; omega
        have := (List.getElem_inj nd (h₀ := by simp; omega) (h₁ := by simpa using hi')).mp (show (xs.map kf)[j]'(by simp; omega) = (xs.map kf)[i]'(by simpa using hi') by
          rw [List.getElem_map, List.getElem_map, ej, e]
          have := (List.getElem?_eq_some_iff.mp hx).2
          rw [this])
        omega
    rw [e]
    exact o2.put hv
  · rintro _ ⟨W3, rfl, l3, o⟩
    rw [h2.1, List.take_length] at o
    exact q p W3 (l2.trans l3) (le_fresh l2 hp) o
theorem s_asgOD {i : Nat} {xs : List (Int × α)} (h : EvOD te σ W r xs) (k : ∀ p (W1 : Wd F), Le W W1 → W.H p = none → OwnD W1 p r xs → D.nx (σ.set i (some (.ref p))) W1.H) : tAsg te (gName i) D σ W.H :=
  h W (Le.refl _) _ fun p W1 l hp o => k p W1 l hp o
theorem q_asgOD {i : Nat} {xs : List (Int × α)} (h : EvOD te σ W r xs) (k : ∀ p (W1 : Wd F), Le W W1 → W.H p = none → OwnD W1 p r xs → tz D (σ.set i (some (.ref p))) W1.H) : tSeq (tAsg te (gName i)) tz D σ W.H := s_asgOD (D := { D with nx := tz D }) h k
/-! ### a dict of lists, all of one's own: keys 0 .. n - 1 -/
def keysOf (n : Nat) (as : Nat → Addr) : List (Key × V) := (List.range n).map fun (i : Nat) => ((Sum.inl (i : Int) : Key), V.ref (as i))
theorem keysOf_look {n : Nat} {as : Nat → Addr} {k : Int} (h : 0 ≤ k ∧ k < (n : Int)) : valV (keysOf n as) (Sum.inl k : Key) = some (.ref (as k.toNat)) := by
  have e : ∀ l : List Nat, k.toNat ∈ l → valV (l.map fun (i : Nat) => ((Sum.inl (i : Int) : Key), V.ref (as i))) (Sum.inl k : Key) = some (.ref (as k.toNat)) := by
    intro l
    induction l with
    | nil => intro hm; cases hm
    | cons i l ih =>
      intro hm
      rw [List.map_cons]
      by_cases hi : (i : Int) = k
      · rw [valV_pos (by simp [hi])]
        have : i = k.toNat := by omega
        rw [this]
      · rw [valV_neg (show ¬ (Sum.inl (i : Int) : Key) = Sum.inl k from fun z => hi (Sum.inl.inj z))]
        refine ih ?_
        rcases List.mem_cons.mp hm with z | z
        · omega
        · exact z
  exact e _ (List.mem_range.mpr (by omega))
structure OwnDL (W : Wd F) (p : Addr) (n : Nat) (as : Nat → Addr) (r : Rp α) (f : Nat → List α) : Prop where
  d : Own W p (.dK (keysOf n as))
  l : ∀ i, i < n → OwnL W (as i) r (f i)
  inj : ∀ i j, i < n → j < n → as i = as j → i = j
  ne : ∀ i, i < n → as i ≠ p
theorem OwnDL.up {p : Addr} {n : Nat} {as : Nat → Addr} {f : Nat → List α} (l : Le W W1) (o : OwnDL W p n as r f) : OwnDL W1 p n as r f := ⟨o.d.up l, fun i hi => (o.l i hi).up l, o.inj, o.ne⟩
/-- {x: [] for x in range's list} -/
theorem eo_dcN {n : Nat} {j : Nat} {ws : List Nat} (h : EvR tl σ W (rList rInt) (rg (n : Int))) (hz : n ≤ 40000) (hw : ∀ x, wipe ((wipe σ ws).set j (some x)) ws = wipe σ ws) (hj : ∀ x : V, ((wipe σ ws).set j (some x))[j]? = some (some x)) (W1 : Wd F) (l : Le W W1) (Q : VK)
    (q : ∀ p as (W2 : Wd F), Le W1 W2 → W1.H p = none → OwnDL W2 p n as r (fun _ => []) → Q (.ref p) W2.H) : tDc (iList K tl) (gName j) tYes (tVar j) (tLst tNil) ws σ W1.H Q := by
  refine h W1 l _ fun v W2 l2 hv => ?_
  obtain ⟨a, vs, rfl, h1, h2⟩ := hv
  have ln : (rg (n : Int)).length = n := by rw [rg_len]; simp
  refine ⟨a, rfl, ⟨vs, sqL_of W2.gh h1⟩, fun p hp => over_list (K := K) (a := a) (xs := vs) (fun i H => ∃ (W3 : Wd F) (as : Nat → Addr), W3.H = H ∧ Le W2 W3 ∧ OwnDL W3 p i as r (fun _ => [])) ⟨W2.own p _ hp, fun _ => 0, rfl, W2.own_le hp, W2.own_at hp, fun i hi => absurd hi (Nat.not_lt_zero _), fun i j hi => absurd hi (Nat.not_lt_zero _), fun i hi => absurd hi (Nat.not_lt_zero _)⟩ ?_ ?_ ?_⟩
  · rintro i _ _ ⟨W3, as, rfl, l3, _⟩
    exact sqL_of W3.gh (l3.ex _ _ h1)
  · rintro i y _ hi ⟨W3, as, rfl, l3, o⟩
    obtain ⟨x, hx, hr⟩ := h2.getv hi
    have hr : y = .int x := hr
    subst hr
    obtain ⟨hin, rfl⟩ := rg_get.mp hx
    have hin : i < n := by simpa using hin
    refine ⟨hw _, ?_⟩
    refine ⟨_, hj _, by show 0 ≤ sizeLine; exact Nat.zero_le _, fun b hb => ?_⟩
    -- the new list at b
    have o2 := o.up (W3.own_le (o := .lst []) hb)
    have ob : OwnL (W3.own b (.lst []) hb) b r [] := ⟨[], W3.own_at hb, All2.nil⟩
    have nb : ∀ i', i' < i → as i' ≠ b := fun i' hi' => (o.l i' hi').ne hb
    have npb : p ≠ b := o.d.ne hb
    refine ⟨keysOf i as, Sum.inl ((i : Nat) : Int), rfl, o2.d.h, by unfold keysOf; rw [List.length_map, List.length_range]; exact Nat.lt_of_lt_of_le (show i < 100000 by omega) (by decide), (W3.own b (.lst []) hb).put p _ o2.d.z o2.d.g, fun m => if m = i then b else as m, rfl, le_put (l3.trans (W3.own_le hb)) hp _ _, ?_⟩
    have e : putK (keysOf i as) (Sum.inl ((i : Nat) : Int) : Key) (.ref b) = keysOf (i + 1) (fun m => if m = i then b else as m) := by
      rw [putK_new]
      · unfold keysOf
        rw [List.range_succ, List.map_append]
        congr 1
        · apply List.map_congr_left
          intro m hm
          have := List.mem_range.mp hm
          dsimp only
          rw [if_neg (by omega)]
        · simp
      · unfold keysOf
        have : ∀ l : List Nat, (∀ m ∈ l, m ≠ i) → valV (l.map fun (i : Nat) => ((Sum.inl (i : Int) : Key), V.ref (as i))) (Sum.inl (i : Int) : Key) = none := by
          intro l
          induction l with
          | nil => intro _; rfl
          | cons m l ih =>
            intro hm
            rw [List.map_cons, valV_neg (show ¬ (Sum.inl (m : Int) : Key) = Sum.inl (i : Int) from fun z => hm m (by simp) (by have := Sum.inl.inj z; omega))]
            exact ih fun m' hm' => hm m' (by simp [hm'])
        exact this _ fun m hm => by have := List.mem_range.mp hm; omega
    have kp : Kp p (W3.own b (.lst []) hb) ((W3.own b (.lst []) hb).put p (.dK (putK (keysOf i as) (Sum.inl ((i : Nat) : Int) : Key) (.ref b))) o2.d.z o2.d.g) := ⟨Ex.refl _, fun q u ne x => x.put ne _ _⟩
    refine ⟨?_, fun m hm => ?_, fun m m' hm hm' em => ?_, fun m hm => ?_⟩ <;> try dsimp only at *
    · have z := (W3.own b (.lst []) hb).put_at (o := .dK (putK (keysOf i as) (Sum.inl ((i : Nat) : Int) : Key) (.ref b))) o2.d.z o2.d.g
      rw [e] at z ⊢
      exact z
    · by_cases hmi : m = i
      · rw [if_pos hmi]; exact ob.kp kp npb.symm
      · rw [if_neg hmi]; exact (o2.l m (by omega)).kp kp (o.ne m (by omega))
    · by_cases hmi : m = i <;> by_cases hmi' : m' = i
      · omega
      · rw [if_pos hmi, if_neg hmi'] at em
        exact absurd em.symm (nb m' (by omega))
      · rw [if_neg hmi, if_pos hmi'] at em
        exact absurd em (nb m (by omega))
      · rw [if_neg hmi, if_neg hmi'] at em
        exact o.inj m m' (by omega) (by omega) em
    · by_cases hmi : m = i
      · rw [if_pos hmi]; exact npb.symm
      · rw [if_neg hmi]; exact o.ne m (by omega)
  · rintro _ ⟨W3, as, rfl, l3, o⟩
    rw [h2.1, ln] at o
    exact q p as W3 (l2.trans l3) (le_fresh l2 hp) o
/-- d[k].append(e) -/
theorem s_appD {i : Nat} {p : Addr} {n : Nat} {as : Nat → Addr} {f : Nat → List α} {k : Int} {x : α} (hi : σ[i]? = some (some (.ref p))) (o : OwnDL W p n as r f) (hk : EvR tk σ W rInt k) (hk2 : 0 ≤ k ∧ k < (n : Int)) (h : EvR te σ W r x) (hz : (f k.toNat).length < 100000)
    (c : ∀ W1 : Wd F, Wk W W1 → OwnDL W1 p n as r (fun m => if m = k.toNat then f m ++ [x] else f m) → (∀ q u, q ≠ as k.toNat → Own W q u → Own W1 q u) → D.nx σ W1.H) : tDrop (tBM K "list" rAppend (tDGet (tVar i) tk) (tCons te tNil)) D σ W.H := by
  refine ⟨_, hi, hk W (Le.refl _) _ fun w W1 l hw => ?_⟩
  have hw : w = .int k := hw
  subst hw
  have o1 := o.up l
  have kn : k.toNat < n := by omega
  refine ⟨p, .ref (as k.toNat), rfl, ?_, ?_⟩
  · have z := DGet.k (H := W1.H) (k := (Sum.inl k : Key)) o1.d.h
    rw [keysOf_look hk2] at z
    exact z
  · obtain ⟨vs, g1, g2⟩ := (o1.l _ kn).ex
    refine ⟨.inl ⟨rfl, _, sqL_of (Ex.refl _) g1.h⟩, h W1 l _ fun v W2 l2 hv => ?_⟩
    have g3 := g1.up l2
    have o2 := o1.up l2
    refine ⟨as k.toNat, vs, v, rfl, rfl, g3.h, by rw [g2.1]; exact Nat.lt_of_lt_of_le hz (by decide), ?_⟩
    have kp : Kp (as k.toNat) W2 (W2.put (as k.toNat) (.lst (vs ++ [v])) g3.z g3.g) := ⟨Ex.refl _, fun q u ne x => x.put ne _ _⟩
    refine c (W2.put (as k.toNat) (.lst (vs ++ [v])) g3.z g3.g) ⟨l.ex.trans l2.ex⟩ ⟨kp.kp _ _ (o.ne _ kn).symm o2.d, fun m hm => ?_, o.inj, o.ne⟩ fun q u ne x => ((x.up l).up l2).put ne _ _
    by_cases e : m = k.toNat
    · rw [if_pos e, e]
      exact ⟨_, W2.put_at g3.z g3.g, (g2.imp fun _ _ => r.mono l2.ex).snoc hv⟩
    · rw [if_neg e]
      exact (o2.l m hm).kp kp fun z => e (o.inj _ _ hm kn z)
theorem q_appD {i : Nat} {p : Addr} {n : Nat} {as : Nat → Addr} {f : Nat → List α} {k : Int} {x : α} (hi : σ[i]? = some (some (.ref p))) (o : OwnDL W p n as r f) (hk : EvR tk σ W rInt k) (hk2 : 0 ≤ k ∧ k < (n : Int)) (h : EvR te σ W r x) (hz : (f k.toNat).length < 100000)
    (c : ∀ W1 : Wd F, Wk W W1 → OwnDL W1 p n as r (fun m => if m = k.toNat then f m ++ [x] else f m) → (∀ q u, q ≠ as k.toNat → Own W q u → Own W1 q u) → tz D σ W1.H) : tSeq (tDrop (tBM K "list" rAppend (tDGet (tVar i) tk) (tCons te tNil))) tz D σ W.H := s_appD (D := { D with nx := tz D }) hi o hk hk2 h hz c
/-- all of it frozen -/
theorem OwnDL.fz {p : Addr} {n : Nat} {as : Nat → Addr} {f : Nat → List α} (o : OwnDL W p n as r f) : ∃ W1 : Wd F, W1.H = W.H ∧ Wk W W1 ∧ (rDict (rList r)).rel W1.G (.ref p) ((List.range n).map fun (i : Nat) => ((i : Int), f i)) := by
  have step : ∀ m, m ≤ n → ∃ W1 : Wd F, W1.H = W.H ∧ Wk W W1 ∧ (∀ i, i < m → (rList r).rel W1.G (.ref (as i)) (f i)) ∧ (∀ i, m ≤ i → i < n → OwnL W1 (as i) r (f i)) ∧ Own W1 p (.dK (keysOf n as)) := by
    intro m
    induction m with
    | zero => intro _; exact ⟨W, rfl, Wk.refl _, fun i hi => absurd hi (Nat.not_lt_zero _), fun i _ hi => o.l i hi, o.d⟩
    | succ m ih =>
      intro hm
      obtain ⟨W1, e1, k1, a1, b1, c1⟩ := ih (by omega)
      obtain ⟨W2, e2, kp, r2⟩ := (b1 m (Nat.le_refl _) (by omega)).fz
      refine ⟨W2, e2.trans e1, k1.trans ⟨kp.ex⟩, fun i hi => ?_, fun i hi hn => ?_, kp.kp _ _ (o.ne m (by omega)).symm c1⟩
      · by_cases h : i = m
        · rw [h]; exact r2
        · exact (rList r).mono kp.ex (a1 i (by omega))
      · exact (b1 i (by omega) hn).kp kp fun z => by have := o.inj _ _ hn (by omega) z; omega
  obtain ⟨W1, e1, k1, a1, _, c1⟩ := step n (Nat.le_refl _)
  refine ⟨W1.frz p _ c1, e1, k1.trans (W1.frz_wk c1), p, keysOf n as, rfl, W1.frz_at c1, ?_⟩
  refine ⟨by unfold keysOf; simp, fun i x hx => ?_⟩
  rw [List.getElem?_map] at hx
  cases e : (List.range n)[i]? with
  | none => rw [e] at hx; cases hx
  | some j =>
    rw [e] at hx
    cases hx
    have hj : j < n := List.mem_range.mp (List.mem_of_getElem? e)
    exact ⟨.ref (as j), by unfold keysOf; rw [List.getElem?_map, e]; rfl, (rList r).mono (W1.frz_wk c1).ex (a1 j hj)⟩
end
end Q

namespace Q
open PySem L2
def adjM (ls : List Ln) (nums : List Int) (p : Int) : List (Int × Int) := nums.filterMap fun l => if (lineAt ls l).1 = p then some (l, (lineAt ls l).2.1) else if (lineAt ls l).2.1 = p then some (l, (lineAt ls l).1) else none
def stepsM (n : Nat) (ls : List Ln) (nums : List Int) : List (Int × List (Int × Int)) := (List.range n).map fun (i : Nat) => ((i : Int), adjM ls nums i)
theorem adjM_snoc {ls : List Ln} {nums : List Int} {l p : Int} : adjM ls (nums ++ [l]) p = adjM ls nums p ++ (if (lineAt ls l).1 = p then [(l, (lineAt ls l).2.1)] else if (lineAt ls l).2.1 = p then [(l, (lineAt ls l).1)] else []) := by
  unfold adjM
  rw [List.filterMap_append]
  congr 1
  rw [List.filterMap_cons]
  by_cases h1 : (lineAt ls l).1 = p
  · simp [h1]
  · by_cases h2 : (lineAt ls l).2.1 = p <;> simp [h1, h2]
theorem adjM_len {ls : List Ln} {nums : List Int} {p : Int} : (adjM ls nums p).length ≤ nums.length := List.length_filterMap_le _ _
theorem mem_adjM {ls : List Ln} {nums : List Int} {p l q : Int} : (l, q) ∈ adjM ls nums p ↔ l ∈ nums ∧ (((lineAt ls l).1 = p ∧ (lineAt ls l).2.1 = q) ∨ ((lineAt ls l).1 ≠ p ∧ (lineAt ls l).2.1 = p ∧ (lineAt ls l).1 = q)) := by
  unfold adjM
  rw [List.mem_filterMap]
  constructor
  · rintro ⟨a, ha, e⟩
    by_cases h1 : (lineAt ls a).1 = p
    · rw [if_pos h1] at e
      cases e
      exact ⟨ha, .inl ⟨h1, rfl⟩⟩
    · rw [if_neg h1] at e
      by_cases h2 : (lineAt ls a).2.1 = p
      · rw [if_pos h2] at e
        cases e
        exact ⟨ha, .inr ⟨h1, h2, rfl⟩⟩
      · rw [if_neg h2] at e; cases e
  · rintro ⟨ha, ⟨h1, rfl⟩ | ⟨h1, h2, rfl⟩⟩
    · exact ⟨l, ha, by rw [if_pos h1]⟩
    · exact ⟨l, ha, by rw [if_neg h1, if_pos h2]⟩
abbrev rPr : Rp (Int × Int) := rT2 rInt rInt
theorem stepsM_look {n : Nat} {ls : List Ln} {nums : List Int} {p : Int} (h : 0 ≤ p ∧ p < (n : Int)) : dlook (stepsM n ls nums) p = some (adjM ls nums p) := by
  unfold stepsM dlook
  have : ∀ l : List Nat, p.toNat ∈ l → ((l.map fun (i : Nat) => ((i : Int), adjM ls nums i)).find? fun x => decide (x.1 = p)).map (·.2) = some (adjM ls nums p) := by
    intro l
    induction l with
    | nil => intro hm; cases hm
    | cons i l ih =>
      intro hm
      rw [List.map_cons, List.find?_cons]
      by_cases hi : (i : Int) = p
      · simp [hi]
      · simp only [hi, decide_false]
        refine ih ?_
        rcases List.mem_cons.mp hm with z | z
        · omega
        · exact z
  exact this _ (List.mem_range.mpr (by omega))
def SpSteps (C : Addr) : Sp := fun vs H Q _ => ∃ G v w n nums, vs = [v, w] ∧ Ex G H ∧ (rNet C).rel G v n ∧ (rList rInt).rel G w nums ∧ LinesOk n.needs.length n.lines ∧ Nums n.lines.length nums ∧ nums.length ≤ 1000 ∧
  ∀ p as (W : Wd (pF G H)), OwnDL W p n.needs.length as rPr (fun (i : Nat) => adjM n.lines nums (i : Int)) → Q (.ref p) W.H
section
variable {F : Fr} {K : PySem.W.Frag} {σ : L2.St} {W W1 : Wd F} {ta tb te tc tl ti tk tv : TE} {α β γ δ : Type} {r : Rp α} {s : Rp β} {t : Rp γ} {D : Ends} {tz tx ty : TS}
theorem Own.back {W : Wd F} {W' : Wd (pF W.G W.H)} {p : Addr} {o : HO} (x : Own W' p o) : Own (W.back W') p o := ⟨x.g, x.h, W.h0 x.z⟩
theorem OwnL.back {W : Wd F} {W' : Wd (pF W.G W.H)} {p : Addr} {xs : List α} (x : OwnL W' p r xs) : OwnL (W.back W') p r xs := let ⟨vs, h1, h2⟩ := x.ex; ⟨vs, h1.back, h2⟩
theorem OwnDL.back {W : Wd F} {W' : Wd (pF W.G W.H)} {p : Addr} {n : Nat} {as : Nat → Addr} {f : Nat → List α} (x : OwnDL W' p n as r f) : OwnDL (W.back W') p n as r f := ⟨x.d.back, fun i hi => (x.l i hi).back, x.inj, x.ne⟩
theorem own_z {G H : Hp} {W' : Wd (pF G H)} {p : Addr} {o : HO} (x : Own W' p o) : H p = none := x.z
theorem ev_steps {C : Addr} {E : XK} {n : NetD} {nums : List Int} (ha : EvR ta σ W (rNet C) n) (hb : EvR tb σ W (rList rInt) nums) (ok : LinesOk n.needs.length n.lines) (hn : Nums n.lines.length nums) (hl : nums.length ≤ 1000) :
    EvR (tCall (SpSteps C) [] E (tCons ta (tCons tb tNil))) σ W (rDict (rList rPr)) (stepsM n.needs.length n.lines nums) := fun W1 l Q q =>
  ha W1 l _ fun v W2 l2 hv => hb W2 (l.trans l2) _ fun w W3 l3 hw => ⟨W3.G, v, w, n, nums, rfl, W3.gh, (rNet C).mono l3.ex hv, hw, ok, hn, hl, fun p as W4 o => by
    have hp : ∀ {a : Addr} {ob : HO}, Own W4 a ob → W3.H a = none := fun x => x.z
    obtain ⟨W5, e5, k5, h5⟩ := o.fz
    -- the frozen world comes behind W3 as a call's end does
    have l5 : Le W3 (W3.back W5) := W3.back_le W5
    have z := q (.ref p) (W3.back W5) ((l2.trans l3).trans l5) h5
    have e6 : (W3.back W5).H = W4.H := e5
    rw [e6] at z
    exact z⟩
end
end Q

namespace Q
open PySem PySem.Spec PyProof.Rows L2
section
variable {X : Cx}
theorem swD {kx vx : Expr} {gs : List Comprehension} {sco : Scope} {pos py : Pos} {y : Str} {l : Nat} {env : Env} (hk : env.scope.kind = .function) (hy : env.scope.names.lookup y = some .local) (hl : (py.line == pos.line) = true)
    (ha : (sco.names.any fun (n, k) => n == y && (k == .local || k == .cell)) = false) : swapsWith (.DictComp kx vx gs sco pos) (some (.Name y py)) l env = pure true := by
  have k1 : env.kindOf y = some .local := hy
  have k2 : env.blockKind = .function := by
    unfold Env.blockKind
    rw [hk]; rfl
  unfold swapsWith
  simp only [k2, k1, ha, Expr.pos, hl]
  rfl
/-- the name is stored while the comprehension's frame still stands: L what was made, C the frame's names -/
theorem store_behind {pins : List (Addr × Obj)} {σ : L2.St} {H' : Hp} {s' : Shared} {D : Ends} {i : Nat} {y : Str} {py : Pos} {L C : Addr} {m : Str → Option Value} (names : X.N.Nodup) (place : X.N[i]? = some y) (own : X.env.scope.names.lookup y = some .local)
    (J : Inv X pins σ H' s') (ns : s'.heap.Ns C m) (far : FpOk X pins H' C) (q : D.nx (σ.set i (some (.ref L))) H') :
    compPost (model X.prog X.w) X.A X.xe (some (assign (.Name y py) X.env)) (fun _ t => SP X pins D .next t) (.ref L) C (.ok .next) s' := by
  refine (wpAny_assign_Name (store_ok2 (v := V.ref L) J names place (.inl own) rfl (fun t J2 chg => ?_) (.inr own)) : wpAny _ _ (assign (.Name y py) X.env (.ref L)) _ _ _)
  obtain ⟨c, same, hc⟩ := chg
  have apart : C ≠ c := hc.elim (fun e => e ▸ far.2.1) fun e z => far.2.2.2.2.1 y c e z.symm
  exact ⟨m, ns.sameBut same apart, fun h3 gone => ⟨_, H', J2.turned (t' := t.toks) (fun b o hb e => (gone.2 b hb).trans e) far.1 far.2.1 far.2.2.2.1 far.2.2.2.2.1 far.2.2.2.2.2, q⟩⟩
/-- y = {..: .. for ..} -/
theorem ps_setDc {i : Nat} {y : Str} {py : Pos} {kx vx tg iter : Expr} {ifs : List Expr} {sco : Scope} {own : List (Str × Nat)} {pos spos : Pos} {wi : TI} {g : TG} {tt : TT} {tk tv : TE} (hc : X.calm = true) (hN : X.N.Nodup) (hy : X.N[i]? = some y)
    (hyl : X.env.scope.names.lookup y = some .local) (hsw : swapsWith (.DictComp kx vx [⟨tg, iter, ifs, 0⟩] sco pos) (some (.Name y py)) spos.line X.env = pure true) (hi : PI X tg iter wi) (ok : BlkOk X.N X.env.scope sco own)
    (hg : ∀ (s : Shared) (H : Hp) (C : Addr) (cl : List (Str × Addr)) (fp : List Addr), PG (X.blk s H sco (compEnvC sco cl C X.env) fp) tg g)
    (ht : ∀ (s : Shared) (H : Hp) (C : Addr) (cl : List (Str × Addr)) (fp : List Addr), PTs (X.blk s H sco (compEnvC sco cl C X.env) fp) ifs tt)
    (hk : ∀ (s : Shared) (H : Hp) (C : Addr) (cl : List (Str × Addr)) (fp : List Addr), PE (X.blk s H sco (compEnvC sco cl C X.env) fp) kx tk)
    (he : ∀ (s : Shared) (H : Hp) (C : Addr) (cl : List (Str × Addr)) (fp : List Addr), PE (X.blk s H sco (compEnvC sco cl C X.env) fp) vx tv)
    (hs : ∀ x, foldedSetIterable iter X.env x = pure x := by intro _; rfl) :
    PS X (.Assign [.Name y py] (.DictComp kx vx [⟨tg, iter, ifs, 0⟩] sco pos) spos) (tAsg (tDc wi g tt tk tv (own.map (·.2))) (gName i)) where
  run pins s σ H D I h := by
    have made := dc_core (use := some (assign (.Name y py) X.env)) (Q := fun x H1 => gName i x σ H1 D.nx) (Qf := fun _ t => SP X pins D .next t) (pos := pos) (pos' := firstIterPos [⟨tg, iter, ifs, 0⟩] pos) hc hN I hi ok hg ht hk he hs h fun L C s' m H' I' q ns far => store_behind hN hy hyl I' ns far q
    rw [exec_Assign_Name_used _ _ _ _ hsw]
    exact wpAny_bind (wpAny_standAt (wpAny_bind (wpAny_bind (thn made fun _ _ q => wpAny_pure (wpAny_pure q)))))
end
section
variable {F : Fr} {K : PySem.W.Frag} {σ : L2.St} {W W1 : Wd F} {ta tb te tc tl ti tk tv : TE} {α β γ δ : Type} {r : Rp α} {s : Rp β} {t : Rp γ} {D : Ends} {tz tx ty : TS}
theorem q_asgDL {n i j : Nat} {ws : List Nat} (h : EvR tl σ W (rList rInt) (rg (n : Int))) (hz : n ≤ 40000) (hw : ∀ x, wipe ((wipe σ ws).set j (some x)) ws = wipe σ ws) (hj : ∀ x : V, ((wipe σ ws).set j (some x))[j]? = some (some x))
    (k : ∀ p as (W2 : Wd F), Le W W2 → W.H p = none → OwnDL W2 p n as r (fun _ => []) → tz D (σ.set i (some (.ref p))) W2.H) : tSeq (tAsg (tDc (iList K tl) (gName j) tYes (tVar j) (tLst tNil) ws) (gName i)) tz D σ W.H :=
  eo_dcN (K := K) (r := r) h hz hw hj W (Le.refl _) (fun x H1 => tz D (σ.set i (some x)) H1) k
end
end Q

namespace Q
open PySem L2
local macro_rules | `(tactic| walk_at "up") => do
  let l := Lean.mkIdent `l
  let mut ts : Array (Lean.TSyntax `tactic) := #[]
  for i in [1, 2, 3, 4, 5, 6, 7, 8, 9, 10, 11, 12, 13, 14, 15, 16] do
    let h := Lean.mkIdent (Lean.Name.mkSimple s!"h{i}")
    ts := ts.push (← `(tactic| try replace $h:ident := Rp.up (Le.ex $l) $h))
    ts := ts.push (← `(tactic| try replace $h:ident := Rp.up (Wk.ex $l) $h))
    ts := ts.push (← `(tactic| try replace $h:ident := Rp.up (Kp.ex $l) $h))
  for i in [1, 2, 3, 4] do
    let h := Lean.mkIdent (Lean.Name.mkSimple s!"o{i}")
    ts := ts.push (← `(tactic| try replace $h:ident := OwnL.up $l $h))
    ts := ts.push (← `(tactic| try replace $h:ident := OwnD.up $l $h))
  `(tactic| ($[$ts:tactic];*))
local macro_rules | `(tactic| walk_at "cm") => `(tactic| first | exact Or.inl ⟨by omega, by omega⟩ | exact Or.inr ⟨by omega, by omega⟩)
local macro_rules | `(tactic| walk_at "ev") => `(tactic| repeat' first
  | exact ev_var rfl (by first | assumption | rfl)
  | exact ev_int | exact ev_bl | exact ev_str | exact ev_non
  | (refine' ev_addA ?_ ?_) | (refine' ev_sub ?_ ?_)
  | (refine' ev_mulA ?_ ?_ ?_; rotate_left 2; walk_at "cm")
  | (refine' ev_mod ?_ ?_ ?_; rotate_left 2; omega)
  | (refine' ev_lt ?_ ?_) | (refine' ev_le ?_ ?_) | (refine' ev_gt ?_ ?_) | (refine' ev_ge ?_ ?_)
  | (refine' ev_lenA ?_) | (refine' ev_in ?_ ?_) | (refine' ev_nin ?_ ?_)
  | (refine' ev_jx0 ?_) | (refine' ev_jx1 ?_) | (refine' ev_jx2 ?_) | (refine' ev_ix0 ?_) | (refine' ev_ix1 ?_)
  | (refine ev_chain_lelt ?_ ?_ ?_) | (refine ev_chain_lele ?_ ?_ ?_)
  | (refine' et_r ?_) | (refine' et_b ?_) | (refine' et_not ?_) | (refine' et_and ?_ fun _ => ?_) | (refine' et_or ?_ fun _ => ?_)
  | (refine' ev_pow ?_ ?_ ⟨by decide, by decide, by decide⟩)
  | (refine' ev_t2 ?_ ?_) | (refine' ev_t3 ?_ ?_ ?_)
  | exact et_yes)

section
variable {P : Program} {w : World} {K : PySem.W.Frag} {mg : Str → Option Value} {base : Heap}
abbrev SpLines (C : Addr) : Sp := Fn1 (rNet C) (rList rLine) (fun n => True) (fun n => n.lines)
abbrev SpPlaces (C : Addr) : Sp := Fn1 (rNet C) (rList rInt) (fun n => n.needs.length ≤ 100) (fun n => rg n.needs.length)
abbrev SpSources (C : Addr) : Sp := Fn1 (rNet C) (rList rInt) (fun n => True) (fun n => n.sources)
theorem if_len {α : Type} {c : Prop} [Decidable c] {xs : List α} {x : α} (h : xs.length < 99999) : (if c then xs ++ [x] else xs).length < 100000 := by
  split
  · rw [List.length_append]; exact Nat.succ_lt_succ h
  · omega
theorem nL1 : ¬ (("lines" : Str) = "_needs") := by decide +kernel
theorem nL2 : ¬ (("lines" : Str) = "_sources") := by decide +kernel
theorem nL3 : ¬ (("lines" : Str) = "_lines") := by decide +kernel
theorem nP1 : ¬ (("places" : Str) = "_needs") := by decide +kernel
theorem nP2 : ¬ (("places" : Str) = "_sources") := by decide +kernel
theorem nP3 : ¬ (("places" : Str) = "_lines") := by decide +kernel
theorem nS1 : ¬ (("sources" : Str) = "_needs") := by decide +kernel
theorem nS2 : ¬ (("sources" : Str) = "_sources") := by decide +kernel
theorem nS3 : ¬ (("sources" : Str) = "_lines") := by decide +kernel
theorem ok_steps_over (T : Txt K mg) : FnOk P w K mg base CX0 2 T.d_steps_over.f T.d_steps_over.fd ["net", "numbers"] (SpSteps T.C_Net) := by
  have G_m_Net_lines : FnOk P w K mg base CX0 1 T.m_Net_lines.f T.m_Net_lines.fd ["self"] (SpLines T.C_Net) := ok_lines T
  have G_m_Net_places : FnOk P w K mg base CX0 1 T.m_Net_places.f T.m_Net_places.fd ["self"] (SpPlaces T.C_Net) := ok_places T
  refine T.d_steps_over.F.ok sc_d_steps_over (fun vs H Q E h => ?_) (fun cdv A outer s H vs Q E hr h => ?_)
  · obtain ⟨G, v, w, n, nums, rfl, _⟩ := h; rfl
  · obtain ⟨G, vn, vs, n, nums, rfl, gh, h1, h2, ok, hn, hl, k⟩ := h
    have hu := hu_of hr
    refine ⟨_, (pss_cons (ps_set (i := 2) sc_d_steps_over.nd rfl (.inl rfl) (pe_meth0 (pv 0) T.l_Net T.m_Net_lines.M G_m_Net_lines (hr.mono (by decide)) T.m_Net_lines.b .nil pass0))
      (pss_cons (ps_setDc (i := 3) (own := [("place", 8)]) (g := gName 8) rfl sc_d_steps_over.nd rfl rfl (swD rfl rfl rfl (by decide +kernel)) (kPiList K (pe_meth0 (pv 0) T.l_Net T.m_Net_places.M G_m_Net_places (hr.mono (by decide)) T.m_Net_places.b .nil pass0)) (blkOk_by (N := n_d_steps_over) (sc := defScope s_d_steps_over) (by decide +kernel)) (fun _ _ _ _ _ => (pg_name (i := 8) sc_d_steps_over.nd rfl (.inl rfl))) (fun _ _ _ _ _ => pts_nil) (fun _ _ _ _ _ => (pv 8)) (fun _ _ _ _ _ => (pe_lst pa_nil)))
      (pss_cons (ps_for PassesOwn.never rfl (kPiList K (pv 1)) (pg_name (i := 4) sc_d_steps_over.nd rfl (.inl rfl)) (pss_cons (ps_asg (pe_ix (kIx K) (pv 2) (pv 4) (fun _ _ => rfl)) (kTupT K rfl (pgs_cons (pg_name (i := 5) sc_d_steps_over.nd rfl (.inl rfl)) (pgs_cons (pg_name (i := 6) sc_d_steps_over.nd rfl (.inl rfl)) (pgs_cons (pg_name (i := 7) sc_d_steps_over.nd rfl (.inl rfl)) pgs_nil)))))
      (pss_cons (ps_expr (kBm K PySem.F.plainAttrs_list PySem.F.slot_list_append PySem.F.type_list_append mt_append (pe_dget hu (pv 3) (pv 5) (fun _ _ => rfl)) (pa_cons (pe_tup (pa_cons (pv 4) (pa_cons (pv 6) pa_nil))) pa_nil)))
      (pss_one (ps_expr (kBm K PySem.F.plainAttrs_list PySem.F.slot_list_append PySem.F.type_list_append mt_append (pe_dget hu (pv 3) (pv 6) (fun _ _ => rfl)) (pa_cons (pe_tup (pa_cons (pv 4) (pa_cons (pv 5) pa_nil))) pa_nil)))))))
      (pss_one (ps_ret (pv 3)))))), ?_⟩
    have n2 := ok.n2
    -- lines = net.lines()
    refine q_asg (W := Wd.in G H gh) (ev_meth0 nL1 nL2 nL3 (ev_var rfl h1) trivial) fun v3 W l h3 => ?_
    walk_at "up"
    -- steps = {place: [] for place in net.places()}
    refine q_asgDL (r := rPr) (n := n.needs.length) (ev_meth0 nP1 nP2 nP3 (ev_var rfl h1) (by omega)) (by omega) (fun _ => rfl) (fun _ => rfl) fun p as W l _ o => ?_
    walk_at "up"
    -- for number in numbers
    refine q_forL (σ := [some vn, some vs, some v3, some (.ref p), none, none, none, none, none]) (r := rInt) (xs := nums) (by walk_at "ev") fun W l => ?_
    walk_at "up"
    replace o := o.up l
    refine ⟨fun i σ W => ∃ k4 k5 k6 k7, σ = [some vn, some vs, some v3, some (.ref p), k4, k5, k6, k7, none] ∧ OwnDL W p n.needs.length as rPr (fun (m : Nat) => adjM n.lines (nums.take i) (m : Int)), ⟨none, none, none, none, rfl, o⟩, ?_, ?_⟩
    · rintro i line v σ W l hi e ⟨k4, k5, k6, k7, rfl, o⟩
      cases e
      have hx := hn line (List.mem_of_getElem? hi)
      have hln := ok.l2 _ (lineAt_mem hx)
      walk_at "up"
      have ll : ∀ m, (adjM n.lines (nums.take i) m).length ≤ 1000 := fun m => Nat.le_trans adjM_len (by rw [List.length_take]; omega)
      -- one, other, _ = lines[number]
      refine q_asg3 (r := rInt) (s := rInt) (t := rInt) (x := lineAt n.lines line) (ev_ixL (by walk_at "ev") (by walk_at "ev") ⟨hx.1, lineAt_get hx⟩) fun u1 u2 u3 W2 l2 e1 e2 e3 => ?_
      cases e1; cases e2; cases e3
      replace o := o.up l2
      refine q_appD (x := (line, (lineAt n.lines line).2.1)) rfl o (ev_var rfl rfl) hln.1 (by walk_at "ev") (by have := ll (((lineAt n.lines line).1.toNat : Nat) : Int); omega) fun W3 l3 o _ => ?_
      refine s_appD (x := (line, (lineAt n.lines line).1)) rfl o (ev_var rfl rfl) hln.2.1 (by walk_at "ev") (if_len (by have := ll (((lineAt n.lines line).2.1.toNat : Nat) : Int); omega)) fun W4 l4 o _ => ?_
      refine ⟨W4, rfl, ⟨l.ex.trans (l2.ex.trans (l3.ex.trans l4.ex))⟩, _, _, _, _, rfl, ?_⟩
      have e : (fun (m : Nat) => adjM n.lines (nums.take (i + 1)) (m : Int)) = fun m => if m = (lineAt n.lines line).2.1.toNat then (if m = (lineAt n.lines line).1.toNat then adjM n.lines (nums.take i) (m : Int) ++ [(line, (lineAt n.lines line).2.1)] else adjM n.lines (nums.take i) (m : Int)) ++ [(line, (lineAt n.lines line).1)] else (if m = (lineAt n.lines line).1.toNat then adjM n.lines (nums.take i) (m : Int) ++ [(line, (lineAt n.lines line).2.1)] else adjM n.lines (nums.take i) (m : Int)) := by
        funext m
        rw [List.take_add_one, hi]
        show adjM n.lines (nums.take i ++ [line]) (m : Int) = _
        rw [adjM_snoc]
        by_cases c1 : (lineAt n.lines line).1 = (m : Int)
        · have c2 : ¬ m = (lineAt n.lines line).2.1.toNat := by omega
          have c3 : m = (lineAt n.lines line).1.toNat := by omega
          rw [if_pos c1, if_neg c2, if_pos c3]
        · have c3 : ¬ m = (lineAt n.lines line).1.toNat := by omega
          by_cases c4 : (lineAt n.lines line).2.1 = (m : Int)
          · have c2 : m = (lineAt n.lines line).2.1.toNat := by omega
            rw [if_neg c1, if_pos c4, if_pos c2, if_neg c3]
          · have c2 : ¬ m = (lineAt n.lines line).2.1.toNat := by omega
            rw [if_neg c1, if_neg c4, if_neg c2, if_neg c3, List.append_nil]
      rw [e]
      exact o
    · rintro σ W l ⟨k4, k5, k6, k7, rfl, o⟩
      rw [List.take_length] at o
      exact ⟨_, rfl, k p as W o⟩
end
end Q

namespace Q
open PySem L2
/-! ### isinstance, `is None`, a promise that nothing may ask -/
section
variable {P : Program} {w : World} {K : PySem.W.Frag} {mg : Str → Option Value} {base : Heap}
abbrev SpNo : Sp := fun _ _ _ _ => False
theorem fn_none {f : Addr} {fd : FuncData} {ps : List Str} {CX : CXT} : FnOk P w K mg base CX 0 f fd ps SpNo := ⟨fun vs H Q E h => h.elim, fun A outer s H args us vs Q E _ _ _ _ h => h.elim⟩
end
section
variable {F : Fr} {K : PySem.W.Frag} {σ : L2.St} {W W1 : Wd F} {ta tb te tc tl ti tk tv : TE} {α β γ δ : Type} {r : Rp α} {s : Rp β} {t : Rp γ} {D : Ends} {tz tx ty : TS}
theorem ev_ltN {P P' : Int → Prop} {R : Bool → Prop} (ha : EvN ta σ W rInt P) (hb : EvN tb σ W rInt P') (hR : ∀ x y, P x → P' y → R (decide (x < y))) : EvN (tOp oLt ta tb) σ W rBool R :=
  ev_opN ha hb fun W1 v w x y Q l hv hw hx hy q => ⟨x, y, hv, hw, q _ W1 (decide (x < y)) (Le.refl _) rfl (hR x y hx hy)⟩
def TyR (r : Rp α) (T : String) : Prop := ∀ (K : PySem.W.Frag) (G H : Hp) v x, Ex G H → r.rel G v x → TyX K H v (.type T)
theorem ty_int : TyR rInt "int" := fun K G H v x e h => by rw [show v = .int x from h]; exact .base (.int x)
theorem ty_bool : TyR rBool "bool" := fun K G H v x e h => by rw [show v = .bl x from h]; exact .base (.bl x)
theorem ty_list : TyR (rList r) "list" := fun K G H v x e h => by
  obtain ⟨a, vs, rfl, h1, h2⟩ := h
  exact .base (.lst (e _ _ h1))
theorem ev_isi {x : α} {T c : String} {b : Bool} (ht : TyR r T) (hk : kitB T c = some b) (ha : EvR ta σ W r x) : EvR (tCB (rIsi K) (tCons ta (tCons (tC (.ty c)) tNil))) σ W rBool b := fun W1 l Q q =>
  ha W1 l _ fun v W2 l2 hv => ⟨v, .ty c, .type T, .type c, b, rfl, .ty c, ht K W2.G W2.H v x W2.gh hv, kit_ty hk, q _ W2 l2 rfl⟩
theorem ev_isN {x : α} {tn : TE} {op : R2} (he : op = fun x y H Q => y = .non ∧ Q (.bl (decide (x = .non))) H) (hn : tn = tC .non) (hr : ∀ G v x, r.rel G v x → v ≠ .non) (ha : EvR ta σ W r x) : EvR (tOp op ta tn) σ W rBool false := by
  subst he hn
  exact fun W1 l Q q => ha W1 l _ fun v W2 l2 hv => ⟨rfl, by
    rw [decide_eq_false (hr _ _ _ hv)]
    exact q _ W2 l2 rfl⟩
theorem nn_int : ∀ (G : Hp) v (x : Int), rInt.rel G v x → v ≠ .non := fun G v x h => by rw [show v = .int x from h]; exact fun z => nomatch z
theorem nn_list : ∀ (G : Hp) v (x : List α), (rList r).rel G v x → v ≠ .non := fun G v x h => by
  obtain ⟨a, vs, rfl, _⟩ := h
  exact fun z => nomatch z
end
end Q

namespace Q
/-! ### what has been come to -/
abbrev StepsD := List (Int × List (Int × Int))
abbrev CameD := List (Int × Option (Int × Int))
abbrev keysD {α : Type} (zs : List (Int × α)) : List Int := zs.map (·.1)
structure CameI (steps : StepsD) (starts : List Int) (zs : CameD) : Prop where
  nd : (keysD zs).Nodup
  ks : ∀ k ∈ keysD zs, k ∈ keysD steps
  st : ∀ k ∈ starts, dlook zs k = some none
  en : ∀ (i : Nat) k o, zs[i]? = some (k, o) → (o = none ∧ k ∈ starts) ∨ ∃ l b st, o = some (l, b) ∧ (∃ j : Nat, j < i ∧ (keysD zs)[j]? = some b) ∧ dlook steps b = some st ∧ (l, k) ∈ st
def Clo (steps : StepsD) (zs : CameD) (m : Nat) : Prop := ∀ (i : Nat) b st x, i < m → (keysD zs)[i]? = some b → dlook steps b = some st → x ∈ st → x.2 ∈ keysD zs
structure StepsOk (steps : StepsD) : Prop where
  n : steps.length ≤ 1000
  t : ∀ b st x, dlook steps b = some st → x ∈ st → x.2 ∈ keysD steps
theorem dlook_isSome {α : Type} {zs : List (Int × α)} {k : Int} : k ∈ keysD zs ↔ ∃ v, dlook zs k = some v := by
  constructor
  · intro h
    cases e : dlook zs k with
    | some v => exact ⟨v, rfl⟩
    | none => exact absurd h (dlook_none.mp e)
  · rintro ⟨v, e⟩
    by_cases h : k ∈ keysD zs
    · exact h
    · rw [dlook_none.mpr h] at e; cases e
theorem dlook_append {α : Type} {zs ys : List (Int × α)} {k : Int} {v : α} (h : dlook zs k = some v) : dlook (zs ++ ys) k = some v := by
  unfold dlook at *
  rw [List.find?_append]
  cases e : zs.find? fun p => decide (p.1 = k) with
  | none => rw [e] at h; cases h
  | some p => rw [e] at h; exact h
theorem keys_app {α : Type} {zs : List (Int × α)} {k : Int} {v : α} : keysD (zs ++ [(k, v)]) = keysD zs ++ [k] := by simp [keysD]
theorem CameI.len {steps : StepsD} {starts : List Int} {zs : CameD} (h : CameI steps starts zs) : zs.length ≤ steps.length := by
  have := nodup_sub _ _ h.nd h.ks
  simpa [keysD] using this
theorem CameI.add {steps : StepsD} {starts : List Int} {zs : CameD} (h : CameI steps starts zs) {l q b : Int} {st : List (Int × Int)} (hb : b ∈ keysD zs) (hs : dlook steps b = some st) (hm : (l, q) ∈ st) (hq : q ∉ keysD zs) (hk : q ∈ keysD steps) : CameI steps starts (zs ++ [(q, some (l, b))]) := by
  refine ⟨?_, ?_, fun k hk => dlook_append (h.st k hk), ?_⟩
  · rw [keys_app, List.nodup_append]
    refine ⟨h.nd, by simp, fun a ha c hc e => ?_⟩
    rw [List.mem_singleton] at hc
    exact hq (hc ▸ e ▸ ha)
  · intro k hm
    rw [keys_app, List.mem_append, List.mem_singleton] at hm
    rcases hm with hm | hm
    · exact h.ks k hm
    · exact hm ▸ hk
  · intro i k o hi
    have up : ∀ {j : Nat} {b : Int}, (keysD zs)[j]? = some b → (keysD (zs ++ [(q, some (l, b))]))[j]? = some b := by
      intro j b hj
      rw [keys_app, List.getElem?_append_left (List.getElem?_eq_some_iff.mp hj).1]
      exact hj
    have up : ∀ {j : Nat} {c : Int}, (keysD zs)[j]? = some c → (keysD (zs ++ [(q, some (l, b))]))[j]? = some c := by
      intro j c hj
      rw [keys_app, List.getElem?_append_left (List.getElem?_eq_some_iff.mp hj).1]
      exact hj
    by_cases hl : i < zs.length
    · rw [List.getElem?_append_left hl] at hi
      rcases h.en i k o hi with z | ⟨l', b', st', e, ⟨j, hj, hj2⟩, e2, e3⟩
      · exact .inl z
      · exact .inr ⟨l', b', st', e, ⟨j, hj, up hj2⟩, e2, e3⟩
    · rw [List.getElem?_append_right (by omega)] at hi
      have hi0 : i - zs.length = 0 := by
        have := (List.getElem?_eq_some_iff.mp hi).1
        simp at this
        omega
      rw [hi0] at hi
      cases hi
      obtain ⟨j, hj, e⟩ := List.getElem_of_mem hb
      refine .inr ⟨l, b, st, rfl, ⟨j, ?_, up (by rw [List.getElem?_eq_getElem hj, e])⟩, hs, hm⟩
      have : (keysD zs).length = zs.length := by simp [keysD]
      omega
theorem Clo.add {steps : StepsD} {zs : CameD} {m : Nat} (h : Clo steps zs m) (hm : m ≤ zs.length) {x : Int × Option (Int × Int)} : Clo steps (zs ++ [x]) m := by
  intro i b st y hi hb hs hy
  have e : keysD (zs ++ [x]) = keysD zs ++ [x.1] := by simp [keysD]
  rw [e] at hb ⊢
  rw [List.getElem?_append_left (by simp [keysD]; omega)] at hb
  exact List.mem_append_left _ (h i b st y hi hb hs hy)
theorem look_starts {starts : List Int} {k : Int} (h : k ∈ starts) : dlook (starts.map fun x => (x, (none : Option (Int × Int)))) k = some none := by
  induction starts with
  | nil => cases h
  | cons a l ih =>
    unfold dlook at ih ⊢
    rw [List.map_cons, List.find?_cons]
    by_cases e : a = k
    · simp [e]
    · simp only [e, decide_false]
      rcases List.mem_cons.mp h with z | z
      · exact absurd z.symm e
      · exact ih z
theorem keys_starts {starts : List Int} : keysD (starts.map fun x => (x, (none : Option (Int × Int)))) = starts := by
  simp [keysD, Function.comp_def]
theorem CameI.init {steps : StepsD} {starts : List Int} (nd : starts.Nodup) (hs : ∀ k ∈ starts, k ∈ keysD steps) : CameI steps starts (starts.map fun x => (x, none)) := by
  refine ⟨by rw [keys_starts]; exact nd, by rw [keys_starts]; exact hs, fun k hk => look_starts hk, fun i k o hi => .inl ?_⟩
  rw [List.getElem?_map] at hi
  cases e : starts[i]? with
  | none => rw [e] at hi; cases hi
  | some x =>
    rw [e] at hi
    cases hi
    exact ⟨rfl, List.mem_of_getElem? e⟩
/-- what `reached` tells -/
structure CameR (steps : StepsD) (starts : List Int) (zs : CameD) : Prop where
  i : CameI steps starts zs
  c : ∀ b st x, b ∈ keysD zs → dlook steps b = some st → x ∈ st → x.2 ∈ keysD zs
theorem Clo.done {steps : StepsD} {starts : List Int} {zs : CameD} (h : CameI steps starts zs) (c : Clo steps zs zs.length) : CameR steps starts zs := ⟨h, fun b st x hb hs hx => by
  obtain ⟨j, hj, e⟩ := List.getElem_of_mem hb
  exact c j b st x (by simpa [keysD] using hj) (by rw [List.getElem?_eq_getElem hj, e]) hs hx⟩
end Q

namespace Q
open PySem L2
/-! ### a thing that is locked while it is gone over -/
def cut (H : Hp) (d : Addr) : Hp := fun a => if a = d then none else H a
theorem cut_same {H : Hp} {d : Addr} : cut H d d = none := if_pos rfl
theorem cut_ne {H : Hp} {a d : Addr} (h : a ≠ d) : cut H d a = H a := if_neg h
def Fr.er (F : Fr) (d : Addr) (hm : ¬ F.M d) : Fr where
  G0 := cut F.G0 d
  H0 := cut F.H0 d
  M := F.M
  I := F.I
  st := F.st
  has := F.has
  i0 := F.st _ _ (fun a m => cut_ne fun z => hm (z ▸ m)) F.i0
section
variable {F : Fr}
theorem Wd.gm (W : Wd F) {d : Addr} {u : HO} (h : W.G d = some u) : ¬ F.M d := fun m => by rw [W.mg d m] at h; cases h
def Wd.lk (W : Wd F) (d : Addr) (u x : HO) (h : W.G d = some u) : Wd (F.er d (W.gm h)) where
  G := upd W.G d x
  H := upd W.H d x
  gh := fun a o e => by
    by_cases ha : a = d
    · subst ha; rw [upd_same] at e ⊢; exact e
    · rw [upd_ne ha] at e ⊢; exact W.gh a o e
  gg := fun a o e => by
    have ha : a ≠ d := fun z => by rw [z] at e; exact absurd (show cut F.G0 d d = some o from e) (by rw [cut_same]; exact fun z => nomatch z)
    rw [upd_ne ha]
    exact W.gg a o ((cut_ne ha).symm.trans e)
  kp := fun a m g n => by
    have ha : a ≠ d := fun z => n (by rw [z]; exact cut_same)
    have g : F.G0 a = none := (cut_ne ha).symm.trans g
    have n : F.H0 a ≠ none := fun z => n ((cut_ne ha).trans z)
    rw [upd_ne ha, upd_ne ha]
    obtain ⟨h1, h2⟩ := W.kp a m g n
    exact ⟨h1, h2.trans (cut_ne ha).symm⟩
  mg := fun a m => by
    have ha : a ≠ d := fun z => W.gm h (z ▸ m)
    rw [upd_ne ha]; exact W.mg a m
  iv := F.st _ _ (fun a m => upd_ne fun z => W.gm h (z ▸ m)) W.iv
def Wd.ul (W : Wd F) (d : Addr) (u x : HO) (h : W.G d = some u) (W2 : Wd (F.er d (W.gm h))) (l : Le (W.lk d u x h) W2) : Wd F where
  G := upd W2.G d u
  H := upd W2.H d u
  gh := fun a o e => by
    by_cases ha : a = d
    · subst ha; rw [upd_same] at e ⊢; exact e
    · rw [upd_ne ha] at e ⊢; exact W2.gh a o e
  gg := fun a o e => by
    by_cases ha : a = d
    · subst ha
      have := W.gg _ _ e
      rw [upd_same, ← h]
      exact this
    · rw [upd_ne ha]
      exact W2.gg a o ((cut_ne ha).trans e)
  kp := fun a m g n => by
    obtain ⟨h1, h2⟩ := W.kp a m g n
    have ha : a ≠ d := fun z => by rw [z, h] at h1; cases h1
    rw [upd_ne ha, upd_ne ha]
    obtain ⟨h3, h4⟩ := W2.kp a m ((cut_ne ha).trans g) (by rw [show (F.er d (W.gm h)).H0 a = F.H0 a from cut_ne ha]; exact n)
    exact ⟨h3, h4.trans (cut_ne ha)⟩
  mg := fun a m => by
    have ha : a ≠ d := fun z => W.gm h (z ▸ m)
    rw [upd_ne ha]; exact W2.mg a m
  iv := F.st _ _ (fun a m => upd_ne fun z => W.gm h (z ▸ m)) W2.iv
theorem Wd.ul_le (W : Wd F) {d : Addr} {u x : HO} (h : W.G d = some u) (W2 : Wd (F.er d (W.gm h))) (l : Le (W.lk d u x h) W2) : Le W (W.ul d u x h W2 l) := ⟨fun a o e => by
    show upd W2.G d u a = some o
    by_cases ha : a = d
    · subst ha
      rw [upd_same, ← h]
      exact e
    · rw [upd_ne ha]
      exact l.ex a o ((upd_ne ha).trans e), fun a m g n => by
    have ha : a ≠ d := fun z => by rw [z, h] at g; cases g
    obtain ⟨h1, h2⟩ := l.kp a m ((upd_ne ha).trans g) (by rw [show (W.lk d u x h).H a = W.H a from upd_ne ha]; exact n)
    exact ⟨(upd_ne ha).trans h1, (upd_ne ha).trans (h2.trans (upd_ne ha))⟩⟩
theorem Own.lk {W : Wd F} {d p : Addr} {u x o : HO} (h : W.G d = some u) (y : Own W p o) : Own (W.lk d u x h) p o := by
  have ha : p ≠ d := fun z => by have := y.g; rw [z, h] at this; cases this
  exact ⟨(upd_ne ha).trans y.g, (upd_ne ha).trans y.h, (cut_ne ha).trans y.z⟩
end
/-! ### what doesn't go through such a place -/
def Nt {α : Type} (r : Rp α) (C : HO → Prop) : Prop := ∀ (G : Hp) d u o v x, G d = some u → C u → r.rel G v x → r.rel (upd G d o) v x
section
variable {α β γ : Type} {r : Rp α} {s : Rp β} {t : Rp γ} {C : HO → Prop}
theorem nt_int : Nt rInt C := fun _ _ _ _ _ _ _ _ h => h
theorem nt_list (n : Nt r C) (c : ∀ vs, ¬ C (.lst vs)) : Nt (rList r) C := fun G d u o v x e hu ⟨a, vs, h1, h2, h3⟩ => by
  have ha : a ≠ d := fun z => by rw [z, e] at h2; cases h2; exact c _ hu
  exact ⟨a, vs, h1, (upd_ne ha).trans h2, h3.imp fun _ _ h => n G d u o _ _ e hu h⟩
theorem nt_t2 (n : Nt r C) (m : Nt s C) (c : ∀ vs, ¬ C (.tup vs)) : Nt (rT2 r s) C := fun G d u o v x e hu ⟨a, v1, v2, h1, h2, h3, h4⟩ => by
  have ha : a ≠ d := fun z => by rw [z, e] at h2; cases h2; exact c _ hu
  exact ⟨a, v1, v2, h1, (upd_ne ha).trans h2, n G d u o _ _ e hu h3, m G d u o _ _ e hu h4⟩
theorem Nt.dr (n : Nt r C) {G : Hp} {d : Addr} {u o : HO} {kvs : List (Key × V)} {xs : List (Int × α)} (e : G d = some u) (hu : C u) (h : DictR r G kvs xs) : DictR r (upd G d o) kvs xs := ⟨h.1, fun i x q => let ⟨v, h1, h2⟩ := h.2 i x q; ⟨v, h1, n G d u o _ _ e hu h2⟩⟩
theorem nt_dict (n : Nt r C) (c : ∀ vs, ¬ C (.dK vs)) : Nt (rDict r) C := fun G d u o v x e hu ⟨a, vs, h1, h2, h3⟩ => by
  have ha : a ≠ d := fun z => by rw [z, e] at h2; cases h2; exact c _ hu
  exact ⟨a, vs, h1, (upd_ne ha).trans h2, n.dr e hu h3⟩
def isK : HO → Prop := fun u => ∃ kvs, u = .dK kvs
def isZ : HO → Prop := fun u => ∃ o w, u = .frz o w
theorem ntk_pairs : Nt (rList (rT2 rInt rInt)) isK := nt_list (nt_t2 nt_int nt_int fun vs h => by obtain ⟨_, h⟩ := h; cases h) fun vs h => by obtain ⟨_, h⟩ := h; cases h
theorem ntz_pairs : Nt (rList (rT2 rInt rInt)) isZ := nt_list (nt_t2 nt_int nt_int fun vs h => by obtain ⟨_, _, h⟩ := h; cases h) fun vs h => by obtain ⟨_, _, h⟩ := h; cases h
theorem ntz_dict {r : Rp α} (n : Nt r isZ) : Nt (rDict r) isZ := nt_dict n fun vs h => by obtain ⟨_, _, h⟩ := h; cases h
theorem ntk_ints : Nt (rList rInt) isK := nt_list nt_int fun vs h => by obtain ⟨_, h⟩ := h; cases h
theorem ntz_ints : Nt (rList rInt) isZ := nt_list nt_int fun vs h => by obtain ⟨_, _, h⟩ := h; cases h
end
section
variable {F : Fr} {K : PySem.W.Frag} {σ : L2.St} {W W1 : Wd F} {ta tb te tc tl ti tk tv : TE} {α β γ δ : Type} {r : Rp α} {s : Rp β} {t : Rp γ} {D : Ends} {tz tx ty : TS}
theorem OwnD.lk {d p : Addr} {kvs : List (Key × V)} {x : HO} {xs : List (Int × α)} (n : Nt r isK) (h : W.G d = some (.dK kvs)) (o : OwnD W p r xs) : OwnD (W.lk d (.dK kvs) x h) p r xs := by
  obtain ⟨vs, h1, h2⟩ := o.ex
  exact ⟨vs, h1.lk h, n.dr h ⟨_, rfl⟩ h2⟩
/-- an expression that goes over a frozen dict: within, the dict is locked -/
theorem ev_lock {d : Addr} {kvs : List (Key × V)} {x : α} (hd : W.G d = some (.dK kvs)) (n : Nt r isZ) (h : ∀ (W1 : Wd F) (l : Le W W1) (e : W1.G d = some (.dK kvs)) od, EvR te σ (W1.lk d (.dK kvs) (.frz od (.dK kvs)) e) r x) : EvR (tLockE te) σ W r x := fun W1 l Q q => by
  have e := l.ex _ _ hd
  refine ⟨d, .dK kvs, W1.gh _ _ e, True.intro, fun od => ?_⟩
  refine h W1 l e od (W1.lk d (.dK kvs) (.frz od (.dK kvs)) e) (Le.refl _) _ fun v W2 l2 hv => ?_
  have g : W2.G d = some (.frz od (.dK kvs)) := l2.ex _ _ upd_same
  exact ⟨W2.gh _ _ g, q v (W1.ul d (.dK kvs) (.frz od (.dK kvs)) e W2 l2) (W1.ul_le e W2 l2) (n _ _ _ _ _ _ g ⟨_, _, rfl⟩ hv)⟩
theorem dc_keys {d : Addr} {od : Obj} {kvs : List (Key × V)} {g : TG} {tt : TT} {tk tv : TE} {vs : List Nat} {σ : L2.St} {H1 : Hp} {D : Addr} {Qd : Hp → Prop} (Pv : Nat → Hp → Prop) (base : Pv 0 (upd H1 D (.dK []))) (still : ∀ j H, j ≤ kvs.length → Pv j H → H d = some (.frz od (.dK kvs)))
    (turn : ∀ (j : Nat) k v H, kvs[j]? = some (k, v) → Pv j H → g (kV k) (wipe σ vs) H fun σ2 H2 => wipe σ2 vs = wipe σ vs ∧ tt σ2 H2 fun b H3 =>
      if b = true then tk σ2 H3 fun y H4 => tv σ2 H4 fun z H5 => ∃ kvs' k', y = kV k' ∧ H5 D = some (.dK kvs') ∧ kvs'.length < sizeLine ∧ Pv (j + 1) (upd H5 D (.dK (putK kvs' k' z))) else Pv (j + 1) H3) (fin : ∀ H, Pv kvs.length H → Qd H) :
    ∃ W : Nat → Nat → Hp → Prop, (∃ m, W 0 m (upd H1 D (.dK []))) ∧ ∀ i m H, W i m H →
      ((Itk d od kvs).stop i H ∧ Qd H) ∨ ((Itk d od kvs).go i H ∧ ∃ Nx : Hp → Prop, (∀ H', Nx H' → ∃ m', m' < m ∧ W (i + 1) m' H') ∧ ∀ x H', (Itk d od kvs).yld i H x H' → g x (wipe σ vs) H' fun σ2 H2 => wipe σ2 vs = wipe σ vs ∧ tt σ2 H2 fun b H3 =>
        if b = true then tk σ2 H3 fun y H4 => tv σ2 H4 fun z H5 => ∃ kvs' k', y = kV k' ∧ H5 D = some (.dK kvs') ∧ kvs'.length < sizeLine ∧ Nx (upd H5 D (.dK (putK kvs' k' z))) else Nx H3) := by
  refine ⟨fun j c H => c = kvs.length - j ∧ j ≤ kvs.length ∧ Pv j H, ⟨_, rfl, Nat.zero_le _, base⟩, fun j c H h => ?_⟩
  obtain ⟨hc, hj, p⟩ := h
  have st := still j H hj p
  rcases Nat.lt_or_ge j kvs.length with lt | ge
  · refine .inr ⟨⟨st, lt⟩, Pv (j + 1), fun H' p' => ⟨kvs.length - (j + 1), by omega, rfl, lt, p'⟩, fun x H' y => ?_⟩
    obtain ⟨rfl, k, v, e1, rfl⟩ := y
    exact turn j k v _ e1 p
  · have e : j = kvs.length := Nat.le_antisymm hj ge
    rw [e] at p ⊢
    exact .inl ⟨⟨st, Nat.le_refl _⟩, fin H p⟩
/-- {k: v for k in d}, d locked -/
theorem eod_dcK {d : Addr} {od : Obj} {kvs : List (Key × V)} {xs : List (Int × α)} {i j : Nat} {ws : List Nat} (g : Int × α → β) (hi : σ[i]? = some (some (.ref d))) (hd : W.G d = some (.frz od (.dK kvs))) (hr : DictR r W.G kvs xs) (hz : xs.length ≤ 40000) (nd : (keysD xs).Nodup) (hw : ∀ x, wipe ((wipe σ ws).set j (some x)) ws = wipe σ ws) (hj : ∀ x : V, ((wipe σ ws).set j (some x))[j]? = some (some x))
    (c2 : ∀ (m : Nat) x (W1 : Wd F), Le W W1 → xs[m]? = some x → EvR tv ((wipe σ ws).set j (some (.int x.1))) W1 s (g x)) : EvOD (tDc (iKeys (tVar i)) (gName j) tYes (tVar j) tv ws) σ W s (xs.map fun x => (x.1, g x)) := fun W1 l Q q => by
  have h1 := l.ex _ _ hd
  refine ⟨_, hi, d, od, rfl, .inl ⟨kvs, W1.gh _ _ h1, fun p hp => dc_keys (d := d) (od := od) (kvs := kvs) (fun m H => ∃ W3 : Wd F, W3.H = H ∧ Le W1 W3 ∧ OwnD W3 p s ((xs.take m).map fun x => (x.1, g x))) ⟨W1.own p _ hp, rfl, W1.own_le hp, ⟨[], W1.own_at hp, DictR.nil⟩⟩ ?_ ?_ ?_⟩⟩
  · rintro m _ _ ⟨W3, rfl, l3, _⟩
    exact W3.gh _ _ (l3.ex _ _ h1)
  · rintro m k v _ hm ⟨W3, rfl, l3, o⟩
    have hm' : m < xs.length := by rw [← hr.1]; exact (List.getElem?_eq_some_iff.mp hm).1
    have hx : xs[m]? = some xs[m] := List.getElem?_eq_getElem hm'
    obtain ⟨v', e1, _⟩ := hr.2 m _ hx
    rw [hm] at e1
    cases e1
    refine ⟨hw _, ?_⟩
    refine ⟨_, hj _, c2 m xs[m] W1 l hx W3 l3 _ fun yv W5 l5 hv => ?_⟩
    obtain ⟨kvs', o1, o2⟩ := (o.up l5).ex
    refine ⟨kvs', Sum.inl xs[m].1, rfl, o1.h, by rw [o2.1]; exact Nat.lt_of_le_of_lt (show ((xs.take m).map fun x => (x.1, g x)).length ≤ 40000 by rw [List.length_map, List.length_take]; omega) (by decide), W5.put p _ o1.z o1.g, rfl, le_put (l3.trans l5) hp _ _, ⟨_, W5.put_at o1.z o1.g, ?_⟩⟩
    have e : (xs.take (m + 1)).map (fun x => (x.1, g x)) = dput ((xs.take m).map fun x => (x.1, g x)) xs[m].1 (g xs[m]) := by
      rw [dput_new, List.take_add_one, hx, List.map_append]
      · rfl
      · rw [dlook_none, List.map_map]
        intro hm2
        obtain ⟨x', hx', e⟩ := List.mem_map.mp hm2
        have e : x'.1 = xs[m].1 := e
        obtain ⟨c, hc, ec⟩ := List.getElem_of_mem hx'
        rw [List.getElem_take] at ec
        have hc' : c < m := by rw [List.length_take] at hc; omega
        have := (List.getElem_inj nd (h₀ := by simp [keysD]; omega) (h₁ := by simpa [keysD] using hm')).mp (show (keysD xs)[c]'(by simp [keysD]; omega) = (keysD xs)[m]'(by simpa [keysD] using hm') by
          simp only [keysD, List.getElem_map]; rw [ec, e])
        omega
    rw [e]
    exact o2.put hv
  · rintro _ ⟨W3, rfl, l3, o⟩
    rw [hr.1, List.take_length] at o
    exact q p W3 l3 (le_fresh (Le.refl _) hp) o
theorem EvOD.fz {xs : List (Int × α)} (h : EvOD te σ W r xs) : EvR te σ W (rDict r) xs := fun W1 l Q q => h W1 l Q fun p W2 l2 hp o => by
  obtain ⟨vs, h1, h2⟩ := o.ex
  have y := q (.ref p) (W2.frz p _ h1) (le_frz l2 hp h1) ⟨p, vs, rfl, W2.frz_at h1, h2.mono (W2.frz_wk h1).ex⟩
  exact y
/-- d[k] while d is locked -/
theorem ev_dgetL {d : Addr} {od : Obj} {kvs : List (Key × V)} {xs : List (Int × α)} {k : Int} {x : α} {i : Nat} (hi : σ[i]? = some (some (.ref d))) (hd : W.G d = some (.frz od (.dK kvs))) (hr : DictR r W.G kvs xs) (hb : EvR tb σ W rInt k) (hx : dlook xs k = some x) : EvR (tDGet (tVar i) tb) σ W r x := fun W1 l Q q =>
  ⟨_, hi, hb W1 l _ fun w W3 l3 hw => by
    have hw : w = .int k := hw
    subst hw
    rcases hr.look (k := k) with ⟨e, _⟩ | ⟨u, y, e, e2, hr⟩
    · rw [hx] at e; cases e
    · rw [hx] at e; cases e
      exact ⟨d, u, rfl, .inl ⟨kvs, Sum.inl k, .inr ⟨od, W3.gh _ _ ((l.trans l3).ex _ _ hd)⟩, rfl, e2.symm⟩, q u W3 l3 (r.mono (l.trans l3).ex hr)⟩⟩
/-- d.get(k), d of one's own -/
theorem ev_oget {i : Nat} {p : Addr} {xs : List (Int × α)} {k : Int} (hi : σ[i]? = some (some (.ref p))) (o : OwnD W p r xs) (hb : EvR tb σ W rInt k) : EvR (tDGet1 (tVar i) tb) σ W (rOpt r) (dlook xs k) := fun W1 l Q q => by
  obtain ⟨kvs, h1, h2⟩ := (o.up l).ex
  refine ⟨_, hi, p, rfl, .inl ⟨kvs, .inl h1.h⟩, hb W1 l _ fun w W2 l2 hw => ?_⟩
  have hw : w = .int k := hw
  subst hw
  refine ⟨_, DGet.k (k := (Sum.inl k : Key)) (h1.up l2).h, ?_⟩
  rcases (h2.mono l2.ex).look (k := k) with ⟨e, e2⟩ | ⟨u, y, e, e2, hr⟩
  · rw [e2]; exact q _ W2 l2 (by rw [e]; rfl)
  · rw [e2]; exact q _ W2 l2 (by rw [e]; exact hr)
theorem fl_opt {x : Option Int} {y : Int} {G G' : Hp} {v w : V} (h1 : (rOpt rInt).rel G v x) (h2 : rInt.rel G' w y) : scal v w = true ∧ (v = w ↔ x = some y) := by
  have h2 : w = .int y := h2
  subst h2
  cases x with
  | none =>
    have h1 : v = .non := h1
    subst h1
    exact ⟨rfl, by simp⟩
  | some z =>
    have h1 : v = .int z := h1
    subst h1
    exact ⟨rfl, by simp⟩
theorem ev_eqO {x : Option Int} {y : Int} (ha : EvR ta σ W (rOpt rInt) x) (hb : EvR tb σ W rInt y) : EvR (tOp (oEqA K) ta tb) σ W rBool (decide (x = some y)) :=
  ev_op ha hb fun W1 v w Q l hv hw q => by
    obtain ⟨h1, h2⟩ := fl_opt hv hw
    refine .inl ⟨h1, ?_⟩
    rw [show decide (v = w) = decide (x = some y) from decide_eq_decide.mpr h2]
    exact q _ W1 (Le.refl _) rfl
theorem ev_neO {x : Option Int} {y : Int} (ha : EvR ta σ W (rOpt rInt) x) (hb : EvR tb σ W rInt y) : EvR (tOp (oNeA K) ta tb) σ W rBool (!decide (x = some y)) :=
  ev_op ha hb fun W1 v w Q l hv hw q => by
    obtain ⟨h1, h2⟩ := fl_opt hv hw
    refine .inl ⟨h1, ?_⟩
    rw [show decide (v = w) = decide (x = some y) from decide_eq_decide.mpr h2]
    exact q _ W1 (Le.refl _) rfl
/-- x is not None -/
theorem ev_notNO {x : Option α} {tn : TE} {op : R2} (he : op = fun x y H Q => y = .non ∧ Q (.bl (!decide (x = .non))) H) (hn : tn = tC .non) (nn : ∀ G v (x : α), r.rel G v x → v ≠ .non) (ha : EvR ta σ W (rOpt r) x) : EvR (tOp op ta tn) σ W rBool x.isSome := by
  subst he hn
  exact fun W1 l Q q => ha W1 l _ fun v W2 l2 hv => ⟨rfl, by
    cases x with
    | none =>
      have hv : v = .non := hv
      subst hv
      exact q _ W2 l2 rfl
    | some y =>
      rw [decide_eq_false (nn _ _ _ hv)]
      exact q _ W2 l2 rfl⟩
theorem nn_t2 : ∀ (G : Hp) v (x : α × β), (rT2 r s).rel G v x → v ≠ .non := fun G v x h => by
  obtain ⟨a, _, _, rfl, _⟩ := h
  exact fun z => nomatch z
/-- del d[k] -/
theorem s_ddel {i : Nat} {p : Addr} {xs : List (Int × α)} {k : Int} {x : α} (hi : σ[i]? = some (some (.ref p))) (o : OwnD W p r xs) (hb : EvR tb σ W rInt k) (hx : dlook xs k = some x)
    (c : ∀ W1 : Wd F, Kp p W W1 → OwnD W1 p r (ddrop xs k) → D.nx σ W1.H) : sDDel (tVar i) tb D σ W.H := by
  refine ⟨_, hi, hb W (Le.refl _) _ fun w W1 l hw => ?_⟩
  have hw : w = .int k := hw
  subst hw
  obtain ⟨kvs, h1, h2⟩ := (o.up l).ex
  refine ⟨p, kvs, Sum.inl k, rfl, h1.h, rfl, ?_, c (W1.put p _ h1.z h1.g) ⟨l.ex, fun q u ne x => (x.up l).put ne _ _⟩ ⟨_, W1.put_at h1.z h1.g, h2.drop⟩⟩
  rcases h2.look (k := k) with ⟨e, e2⟩ | ⟨u, y, e, e2, hr⟩
  · rw [hx] at e; cases e
  · rw [e2]; rfl
/-- {} of one's own -/
theorem q_asgD0 {i : Nat} (tn : TE) (he : tn = fun σ H Q => ∀ d, H d = none → Q (.ref d) (upd H d (.dK []))) (k : ∀ p (W1 : Wd F), Le W W1 → W.H p = none → OwnD W1 p r [] → tz D (σ.set i (some (.ref p))) W1.H) : tSeq (tAsg tn (gName i)) tz D σ W.H := by
  subst he
  exact fun d hd => k d (W.own d _ hd) (W.own_le hd) hd ⟨[], W.own_at hd, DictR.nil⟩
end
/-! ### a dict that is handed in to be turned -/
def eF (G H : Hp) (p : Addr) : Fr where
  G0 := G
  H0 := cut H p
  M := fun _ => False
  I := fun _ => True
  st := fun _ _ _ _ => True.intro
  has := fun _ _ _ z => z.elim
  i0 := True.intro
def Wd.inE (G H : Hp) (p : Addr) (gh : Ex G H) : Wd (eF G H p) where
  G := G
  H := H
  gh := gh
  gg := Ex.refl _
  kp := fun a _ g n => by
    have ha : a ≠ p := fun z => n (by rw [z]; exact cut_same)
    exact ⟨g, (cut_ne ha).symm⟩
  mg := fun _ z => False.elim z
  iv := True.intro
section
variable {F : Fr} {α : Type} {r : Rp α}
theorem inE_own {G H : Hp} {p : Addr} {gh : Ex G H} {kvs : List (Key × V)} {xs : List (Int × α)} (g : G p = none) (h : H p = some (.dK kvs)) (hr : DictR r G kvs xs) : OwnD (Wd.inE G H p gh) p r xs := ⟨kvs, ⟨g, h, cut_same⟩, hr⟩
def Wd.backE (W : Wd F) {p : Addr} {o : HO} (x : Own W p o) (W' : Wd (eF W.G W.H p)) : Wd F where
  G := W'.G
  H := W'.H
  gh := W'.gh
  gg := W.gg.trans W'.gg
  kp := fun a m g n => by
    obtain ⟨h1, h2⟩ := W.kp a m g n
    have ha : a ≠ p := fun z => n (by rw [z]; exact x.z)
    obtain ⟨h3, h4⟩ := W'.kp a (fun z => z) h1 (by rw [show (eF W.G W.H p).H0 a = W.H a from cut_ne ha, h2]; exact n)
    exact ⟨h3, h4.trans ((cut_ne ha).trans h2)⟩
  mg := fun a m => by
    have ha : a ≠ p := fun z => x.nm (z ▸ m)
    exact (W'.kp a (fun z => z) (W.mg a m) (by rw [show (eF W.G W.H p).H0 a = W.H a from cut_ne ha]; exact F.has _ _ W.iv m)).1
  iv := F.st _ _ (fun a m => by
    have ha : a ≠ p := fun z => x.nm (z ▸ m)
    exact (W'.kp a (fun z => z) (W.mg a m) (by rw [show (eF W.G W.H p).H0 a = W.H a from cut_ne ha]; exact F.has _ _ W.iv m)).2.trans (cut_ne ha)) W.iv
theorem Wd.backE_own {W : Wd F} {p q : Addr} {o u : HO} (x : Own W p o) (W' : Wd (eF W.G W.H p)) (y : Own W q u) (ne : q ≠ p) : Own (W.backE x W') q u := by
  obtain ⟨h3, h4⟩ := W'.kp q (fun z => z) y.g (by rw [show (eF W.G W.H p).H0 q = W.H q from cut_ne ne, y.h]; exact fun z => nomatch z)
  exact ⟨h3, h4.trans ((cut_ne ne).trans y.h), y.z⟩
theorem Wd.backE_kp {W : Wd F} {p : Addr} {o : HO} (x : Own W p o) (W' : Wd (eF W.G W.H p)) : Kp p W (W.backE x W') := ⟨W'.gg, fun q u ne y => Wd.backE_own x W' y ne⟩
theorem Wd.backE_at {W : Wd F} {p : Addr} {o u : HO} (x : Own W p o) (W' : Wd (eF W.G W.H p)) (y : Own W' p u) : Own (W.backE x W') p u := ⟨y.g, y.h, x.z⟩
/-- nothing turned -/
theorem Wd.backE_le {W : Wd F} {p : Addr} {o : HO} (x : Own W p o) (W' : Wd (eF W.G W.H p)) (y : Own W' p o) : Le W (W.backE x W') := ⟨W'.gg, fun a m g n => by
  by_cases ha : a = p
  · subst ha
    exact ⟨y.g, y.h.trans x.h.symm⟩
  · obtain ⟨h3, h4⟩ := W'.kp a (fun z => z) g (by rw [show (eF W.G W.H p).H0 a = W.H a from cut_ne ha]; exact n)
    exact ⟨h3, h4.trans (cut_ne ha)⟩⟩
end
end Q

namespace Q
theorem mergeG_get {g : List Int} {a b : Int} {i : Nat} (h : i < g.length) : (mergeG g a b).getD i 0 = if g.getD i 0 = g.getD b.toNat 0 then g.getD a.toNat 0 else g.getD i 0 := by
  unfold mergeG
  simp only [List.getD_eq_getElem?_getD, List.getElem?_map, List.getElem?_eq_getElem h, Option.map_some, Option.getD_some, decide_eq_true_eq]
abbrev lab (n : Nat) (ls : List Ln) (some : List Int) (p : Int) : Int := (groupsM n ls some).getD p.toNat 0
theorem groupsM_snoc {n : Nat} {ls : List Ln} {some : List Int} {l : Int} : groupsM n ls (some ++ [l]) = mergeG (groupsM n ls some) (lineAt ls l).1 (lineAt ls l).2.1 := by
  unfold groupsM; rw [List.foldl_append]; rfl
theorem lab_snoc {n : Nat} {ls : List Ln} {some : List Int} {l p : Int} (h : 0 ≤ p ∧ p < (n : Int)) : lab n ls (some ++ [l]) p = if lab n ls some p = lab n ls some (lineAt ls l).2.1 then lab n ls some (lineAt ls l).1 else lab n ls some p := by
  unfold lab
  rw [groupsM_snoc, mergeG_get (by rw [groupsM_len]; omega)]
theorem lab_nil {n : Nat} {ls : List Ln} {p : Int} (h : 0 ≤ p ∧ p < (n : Int)) : lab n ls [] p = p := by
  have e : (rg (n : Int))[p.toNat]? = Option.some p := rg_get.mpr ⟨by omega, by omega⟩
  show (rg (n : Int)).getD p.toNat 0 = p
  rw [List.getD_eq_getElem?_getD, e]
  rfl
theorem snoc_ind {α : Type} {C : List α → Prop} (h0 : C []) (h1 : ∀ xs x, C xs → C (xs ++ [x])) (xs : List α) : C xs := by
  have : ∀ ys : List α, C ys.reverse := by
    intro ys
    induction ys with
    | nil => exact h0
    | cons y ys ih => rw [List.reverse_cons]; exact h1 _ _ ih
  have := this xs.reverse
  rwa [List.reverse_reverse] at this
/-- the ends of a line that has been taken have one label -/
theorem lab_line {n : Nat} {ls : List Ln} (ok : LinesOk n ls) (some : List Int) : Nums ls.length some → ∀ l ∈ some, lab n ls some (lineAt ls l).1 = lab n ls some (lineAt ls l).2.1 := by
  refine snoc_ind (C := fun some => Nums ls.length some → ∀ l ∈ some, lab n ls some (lineAt ls l).1 = lab n ls some (lineAt ls l).2.1) (fun _ l h => nomatch h) (fun xs x ih nb l hl => ?_) some
  have b1 := ok.l2 _ (lineAt_mem (nb l hl))
  rw [lab_snoc b1.1, lab_snoc b1.2.1]
  rcases List.mem_append.mp hl with h | h
  · rw [ih (fun y hy => nb y (List.mem_append_left _ hy)) l h]
  · rw [List.mem_singleton] at h
    subst h
    by_cases e : lab n ls xs (lineAt ls l).1 = lab n ls xs (lineAt ls l).2.1
    · simp [e]
    · simp [e]
/-- what holds alike at both ends of each line holds alike where the labels are alike -/
theorem lab_ind {n : Nat} {ls : List Ln} (ok : LinesOk n ls) (C : Int → Prop) (some : List Int) : Nums ls.length some → (∀ l ∈ some, C (lineAt ls l).1 ↔ C (lineAt ls l).2.1) → ∀ a b, (0 ≤ a ∧ a < (n : Int)) → (0 ≤ b ∧ b < (n : Int)) → lab n ls some a = lab n ls some b → (C a ↔ C b) := by
  refine snoc_ind (C := fun some => Nums ls.length some → (∀ l ∈ some, C (lineAt ls l).1 ↔ C (lineAt ls l).2.1) → ∀ a b, (0 ≤ a ∧ a < (n : Int)) → (0 ≤ b ∧ b < (n : Int)) → lab n ls some a = lab n ls some b → (C a ↔ C b)) (fun _ _ a b ha hb e => ?_) (fun xs x ih nb hc a b ha hb e => ?_) some
  · rw [lab_nil ha, lab_nil hb] at e; rw [e]
  · have ih := ih (fun y hy => nb y (List.mem_append_left _ hy)) (fun y hy => hc y (List.mem_append_left _ hy))
    have b1 := ok.l2 _ (lineAt_mem (nb x (by simp)))
    have cx := hc x (by simp)
    rw [lab_snoc ha, lab_snoc hb] at e
    by_cases h1 : lab n ls xs a = lab n ls xs (lineAt ls x).2.1 <;> by_cases h2 : lab n ls xs b = lab n ls xs (lineAt ls x).2.1
    · exact (ih a _ ha b1.2.1 h1).trans (ih b _ hb b1.2.1 h2).symm
    · rw [if_pos h1, if_neg h2] at e
      exact ((ih a _ ha b1.2.1 h1).trans cx.symm).trans (ih _ b b1.1 hb e)
    · rw [if_neg h1, if_pos h2] at e
      exact ((ih a _ ha b1.1 e).trans cx).trans (ih b _ hb b1.2.1 h2).symm
    · rw [if_neg h1, if_neg h2] at e
      exact ih a b ha hb e
theorem mem_ledM {n : Nat} {ls : List Ln} {some bs : List Int} {p : Int} : p ∈ ledM n ls some bs ↔ (0 ≤ p ∧ p < (n : Int)) ∧ ∃ b ∈ bs, lab n ls some b = lab n ls some p := by
  unfold ledM
  rw [List.mem_filter, mem_rg, decide_eq_true_eq, List.mem_map]
theorem ledM_nodup {n : Nat} {ls : List Ln} {some bs : List Int} : (ledM n ls some bs).Nodup := (rg_nodup _).filter _
theorem ledM_perm {n : Nat} {ls : List Ln} {some bs bs' : List Int} (h : ∀ b, b ∈ bs ↔ b ∈ bs') : ledM n ls some bs = ledM n ls some bs' := by
  unfold ledM
  apply List.filter_congr
  intro p _
  apply decide_eq_decide.mpr
  rw [List.mem_map, List.mem_map]
  constructor
  · rintro ⟨b, hb, e⟩; exact ⟨b, (h b).mp hb, e⟩
  · rintro ⟨b, hb, e⟩; exact ⟨b, (h b).mpr hb, e⟩
theorem stepsM_keys {n : Nat} {ls : List Ln} {nums : List Int} : keysD (stepsM n ls nums) = rg (n : Int) := by
  unfold stepsM keysD
  rw [List.map_map]
  apply List.ext_getElem?
  intro i
  rw [List.getElem?_map]
  by_cases h : i < n
  · rw [List.getElem?_eq_getElem (by simpa using h), List.getElem_range]
    exact (rg_get.mpr ⟨by omega, rfl⟩).symm
  · rw [List.getElem?_eq_none (by simpa using h), List.getElem?_eq_none (by rw [rg_len]; omega)]
    rfl
theorem stepsM_some {n : Nat} {ls : List Ln} {nums : List Int} {b : Int} {st : List (Int × Int)} (h : dlook (stepsM n ls nums) b = some st) : (0 ≤ b ∧ b < (n : Int)) ∧ st = adjM ls nums b := by
  have hb : 0 ≤ b ∧ b < (n : Int) := by
    have := dlook_isSome.mpr ⟨_, h⟩
    rw [stepsM_keys] at this
    exact mem_rg.mp this
  rw [stepsM_look hb] at h
  exact ⟨hb, (Option.some.inj h).symm⟩
theorem stepsM_ok {n : Nat} {ls : List Ln} {nums : List Int} (ok : LinesOk n ls) (nb : Nums ls.length nums) : StepsOk (stepsM n ls nums) := ⟨by unfold stepsM; simp; have := ok.n2; omega, fun b st x h hx => by
  obtain ⟨hb, rfl⟩ := stepsM_some h
  rw [stepsM_keys, mem_rg]
  obtain ⟨l, q⟩ := x
  obtain ⟨hl, h⟩ := mem_adjM.mp hx
  have b1 := ok.l2 _ (lineAt_mem (nb l hl))
  rcases h with ⟨e1, e2⟩ | ⟨e1, e2, e3⟩
  · exact e2 ▸ b1.2.1
  · exact e3 ▸ b1.1⟩
theorem adj_sym {ls : List Ln} {nums : List Int} {l p q : Int} (h : (lineAt ls l).1 ≠ (lineAt ls l).2.1) (hm : (l, q) ∈ adjM ls nums p) : (l, p) ∈ adjM ls nums q := by
  obtain ⟨hl, h1⟩ := mem_adjM.mp hm
  rw [mem_adjM]
  refine ⟨hl, ?_⟩
  rcases h1 with ⟨e1, e2⟩ | ⟨e1, e2, e3⟩
  · exact .inr ⟨fun z => h (z.trans e2.symm), e2, e1⟩
  · exact .inl ⟨e3, e2⟩
/-- what is reached over these lines is what the labels say -/
theorem reached_led {n : Nat} {ls : List Ln} {nums bs : List Int} {zs : CameD} (ok : LinesOk n ls) (nb : Nums ls.length nums) (hb : ∀ b ∈ bs, 0 ≤ b ∧ b < (n : Int)) (c : CameR (stepsM n ls nums) bs zs) : ∀ p, p ∈ keysD zs ↔ p ∈ ledM n ls nums bs := by
  have lb : ∀ {p l q}, (0 ≤ p ∧ p < (n : Int)) → (l, q) ∈ adjM ls nums p → lab n ls nums p = lab n ls nums q := by
    intro p l q hp hm
    obtain ⟨hl, h1⟩ := mem_adjM.mp hm
    have e := lab_line ok nums nb l hl
    rcases h1 with ⟨e1, e2⟩ | ⟨e1, e2, e3⟩
    · rw [← e1, ← e2]; exact e
    · rw [← e2, ← e3]; exact e.symm
  have fwd : ∀ (i : Nat) p, (keysD zs)[i]? = some p → ∃ b ∈ bs, lab n ls nums b = lab n ls nums p := by
    intro i
    induction i using Nat.strongRecOn with
    | ind i ih =>
      intro p hp
      have hi : i < zs.length := by simpa [keysD] using (List.getElem?_eq_some_iff.mp hp).1
      have hz : zs[i]? = some zs[i] := List.getElem?_eq_getElem hi
      have e : zs[i].1 = p := by
        unfold keysD at hp
        rw [List.getElem?_map, hz] at hp
        exact Option.some.inj hp
      rcases c.i.en i zs[i].1 zs[i].2 hz with ⟨_, hm⟩ | ⟨l, b, st, _, ⟨j, hj, hj2⟩, hs, hm⟩
      · exact ⟨p, e ▸ hm, rfl⟩
      · obtain ⟨s, hs1, hs2⟩ := ih j hj b hj2
        obtain ⟨hbb, rfl⟩ := stepsM_some hs
        exact ⟨s, hs1, hs2.trans (e ▸ lb hbb hm)⟩
  intro p
  rw [mem_ledM]
  constructor
  · intro hp
    refine ⟨?_, ?_⟩
    · have := c.i.ks p hp
      rw [stepsM_keys] at this
      exact mem_rg.mp this
    · obtain ⟨i, hi, e⟩ := List.getElem_of_mem hp
      exact fwd i p (by rw [List.getElem?_eq_getElem hi, e])
  · rintro ⟨hp, b, hbm, e⟩
    refine (lab_ind ok (fun p => p ∈ keysD zs) nums nb (fun l hl => ?_) b p (hb b hbm) hp e).mp (dlook_isSome.mpr ⟨_, c.i.st b hbm⟩)
    have b1 := ok.l2 _ (lineAt_mem (nb l hl))
    have m1 : (l, (lineAt ls l).2.1) ∈ adjM ls nums (lineAt ls l).1 := mem_adjM.mpr ⟨hl, .inl ⟨rfl, rfl⟩⟩
    have m2 := adj_sym b1.2.2 m1
    exact ⟨fun h => c.c _ _ _ h (stepsM_look b1.1) m1, fun h => c.c _ _ _ h (stepsM_look b1.2.1) m2⟩
theorem nodup_len_eq {xs ys : List Int} (h1 : xs.Nodup) (h2 : ys.Nodup) (h : ∀ p, p ∈ xs ↔ p ∈ ys) : xs.length = ys.length := Nat.le_antisymm (nodup_sub _ _ h1 fun x hx => (h x).mp hx) (nodup_sub _ _ h2 fun x hx => (h x).mpr hx)
def wholeM (k : Nat) (b : List Int) : List Int := (rg (k : Int)).filter fun l => !decide (l ∈ b)
theorem wholeM_nums {k : Nat} {b : List Int} : Nums k (wholeM k b) := fun x hx => mem_rg.mp (List.mem_filter.mp hx).1
theorem wholeM_len {k : Nat} {b : List Int} : (wholeM k b).length ≤ k := by
  have := List.length_filter_le (fun l => !decide (l ∈ b)) (rg (k : Int))
  rw [rg_len] at this
  unfold wholeM
  omega
theorem wholeM_snoc {k : Nat} {b : List Int} {l : Int} : wholeM k (b ++ [l]) = (wholeM k b).filter fun x => !decide (x = l) := by
  unfold wholeM
  rw [List.filter_filter]
  apply List.filter_congr
  intro x _
  by_cases h1 : x ∈ b <;> by_cases h2 : x = l <;> simp [h1, h2]
end Q

namespace Q
/-! ### lines in use, each with the place to which it is gone -/
abbrev Heads := List (Int × Int)
def tailOf (ls : List Ln) (l h : Int) : Int := if (lineAt ls l).1 = h then (lineAt ls l).2.1 else (lineAt ls l).1
structure HeadsOk (ls : List Ln) (whole : List Int) (hs : Heads) : Prop where
  nd : (keysD hs).Nodup
  m : ∀ x ∈ hs, x.1 ∈ whole ∧ ((lineAt ls x.1).1 = x.2 ∨ (lineAt ls x.1).2.1 = x.2)
def out (S : Int → Bool) (p : Int) : Int := if S p then 0 else 1
def term (ls : List Ln) (S : Int → Bool) (x : Int × Int) : Int := out S x.2 - out S (tailOf ls x.1 x.2)
def fval (ls : List Ln) (S : Int → Bool) : Heads → Int
  | [] => 0
  | x :: xs => term ls S x + fval ls S xs
theorem fval_append {ls : List Ln} {S : Int → Bool} (xs ys : Heads) : fval ls S (xs ++ ys) = fval ls S xs + fval ls S ys := by
  induction xs with
  | nil => simp [fval]
  | cons x xs ih => rw [List.cons_append, fval, fval, ih]; omega
theorem ddrop_none {hs : Heads} {l : Int} (h : l ∉ keysD hs) : ddrop hs l = hs := by
  unfold ddrop
  apply List.filter_eq_self.mpr
  intro p hp
  have : p.1 ≠ l := fun e => h (e ▸ List.mem_map.mpr ⟨p, hp, rfl⟩)
  simpa using this
theorem dlook_cons {α : Type} {x : Int × α} {xs : List (Int × α)} {k : Int} : dlook (x :: xs) k = if x.1 = k then some x.2 else dlook xs k := by
  unfold dlook
  rw [List.find?_cons]
  by_cases h : x.1 = k <;> simp [h]
theorem fval_ddrop {ls : List Ln} {S : Int → Bool} {l h : Int} : ∀ {hs : Heads}, (keysD hs).Nodup → dlook hs l = some h → fval ls S (ddrop hs l) = fval ls S hs - term ls S (l, h)
  | [], _, e => by cases e
  | x :: xs, nd, e => by
    have nd' := List.nodup_cons.mp nd
    rw [dlook_cons] at e
    by_cases hx : x.1 = l
    · rw [if_pos hx] at e
      have e := Option.some.inj e
      have : x = (l, h) := by rw [← hx, ← e]
      subst this
      have hn : l ∉ keysD xs := nd'.1
      have : ddrop ((l, h) :: xs) l = xs := by
        unfold ddrop
        rw [List.filter_cons_of_neg (by simp)]
        exact ddrop_none hn
      rw [this, fval]; omega
    · rw [if_neg hx] at e
      have : ddrop (x :: xs) l = x :: ddrop xs l := by
        unfold ddrop
        rw [List.filter_cons_of_pos (by simpa using hx)]
      rw [this, fval, fval, fval_ddrop nd'.2 e]; omega
theorem dlook_mem {α : Type} {xs : List (Int × α)} {k : Int} {v : α} (h : dlook xs k = some v) : (k, v) ∈ xs := by
  induction xs with
  | nil => cases h
  | cons x xs ih =>
    rw [dlook_cons] at h
    by_cases hx : x.1 = k
    · rw [if_pos hx] at h
      have h := Option.some.inj h
      rw [← hx, ← h]; simp
    · rw [if_neg hx] at h
      exact List.mem_cons_of_mem _ (ih h)
theorem dlook_of_mem {α : Type} {xs : List (Int × α)} {k : Int} {v : α} (nd : (keysD xs).Nodup) (h : (k, v) ∈ xs) : dlook xs k = some v := by
  induction xs with
  | nil => cases h
  | cons x xs ih =>
    have nd' := List.nodup_cons.mp nd
    rw [dlook_cons]
    rcases List.mem_cons.mp h with e | e
    · subst e; simp
    · have : x.1 ≠ k := fun z => nd'.1 (List.mem_map.mpr ⟨_, e, z.symm⟩)
      rw [if_neg this]
      exact ih nd'.2 e
theorem dlook_ddrop {α : Type} {xs : List (Int × α)} {k l : Int} (h : k ≠ l) : dlook (ddrop xs l) k = dlook xs k := by
  induction xs with
  | nil => rfl
  | cons x xs ih =>
    unfold ddrop at ih ⊢
    by_cases hx : x.1 = l
    · rw [List.filter_cons_of_neg (by simpa using hx), ih, dlook_cons, if_neg (fun z => h (z.symm.trans hx))]
    · rw [List.filter_cons_of_pos (by simpa using hx), dlook_cons, dlook_cons, ih]
theorem dlook_snoc {α : Type} {xs : List (Int × α)} {k l : Int} {v : α} (h : k ≠ l) : dlook (xs ++ [(l, v)]) k = dlook xs k := by
  induction xs with
  | nil => rw [List.nil_append, dlook_cons, if_neg (fun z => h z.symm)]
  | cons x xs ih => rw [List.cons_append, dlook_cons, dlook_cons, ih]
theorem HeadsOk.drop {ls : List Ln} {whole : List Int} {hs : Heads} (h : HeadsOk ls whole hs) (p : Int × Int → Bool) : HeadsOk ls whole (hs.filter p) := ⟨h.nd.sublist ((List.filter_sublist).map _), fun x hx => h.m x (List.mem_filter.mp hx).1⟩
theorem HeadsOk.snoc {ls : List Ln} {whole : List Int} {hs : Heads} (h : HeadsOk ls whole hs) {l p : Int} (hl : l ∉ keysD hs) (hw : l ∈ whole) (he : (lineAt ls l).1 = p ∨ (lineAt ls l).2.1 = p) : HeadsOk ls whole (hs ++ [(l, p)]) := ⟨by
  rw [keys_app, List.nodup_append]
  refine ⟨h.nd, by simp, fun a ha c hc e => ?_⟩
  rw [List.mem_singleton] at hc
  exact hl (hc ▸ e ▸ ha), fun x hx => by
  rcases List.mem_append.mp hx with z | z
  · exact h.m x z
  · rw [List.mem_singleton] at z; subst z; exact ⟨hw, he⟩⟩
theorem HeadsOk.len {ls : List Ln} {whole : List Int} {hs : Heads} (h : HeadsOk ls whole hs) : hs.length ≤ whole.length := by
  have := nodup_sub (keysD hs) whole h.nd fun l hl => by
    obtain ⟨x, hx, e⟩ := List.mem_map.mp hl
    exact e ▸ (h.m x hx).1
  simpa [keysD] using this
theorem term_le {ls : List Ln} {S : Int → Bool} {x : Int × Int} : term ls S x ≤ if S x.2 = S (tailOf ls x.1 x.2) then 0 else 1 := by
  unfold term out
  cases S x.2 <;> cases S (tailOf ls x.1 x.2) <;> simp
/-- what crosses at all -/
def crossing (ls : List Ln) (S : Int → Bool) (hs : Heads) : Heads := hs.filter fun x => !(S x.2 == S (tailOf ls x.1 x.2))
theorem fval_le {ls : List Ln} {S : Int → Bool} : ∀ hs : Heads, fval ls S hs ≤ (crossing ls S hs).length
  | [] => by simp [fval, crossing]
  | x :: xs => by
    have ih := fval_le (ls := ls) (S := S) xs
    have t := term_le (ls := ls) (S := S) (x := x)
    unfold crossing at ih ⊢
    rw [fval]
    by_cases h : S x.2 = S (tailOf ls x.1 x.2)
    · rw [List.filter_cons_of_neg (by simp [h])]
      rw [if_pos h] at t
      omega
    · rw [List.filter_cons_of_pos (by simpa using h), List.length_cons]
      rw [if_neg h] at t
      omega
theorem fval_eq {ls : List Ln} {S : Int → Bool} : ∀ hs : Heads, (∀ x ∈ hs, S x.2 = true → S (tailOf ls x.1 x.2) = true) → fval ls S hs = (crossing ls S hs).length
  | [], _ => by simp [fval, crossing]
  | x :: xs, h => by
    have ih := fval_eq (ls := ls) (S := S) xs fun y hy => h y (List.mem_cons_of_mem _ hy)
    have hx := h x (by simp)
    unfold crossing at ih ⊢
    rw [fval]
    have tx : term ls S x = if S x.2 = S (tailOf ls x.1 x.2) then 0 else 1 := by
      unfold term out
      cases e1 : S x.2 <;> cases e2 : S (tailOf ls x.1 x.2) <;> simp_all
    by_cases e : S x.2 = S (tailOf ls x.1 x.2)
    · rw [List.filter_cons_of_neg (by simp [e]), tx, if_pos e, ih]; omega
    · rw [List.filter_cons_of_pos (by simpa using e), List.length_cons, tx, if_neg e, ih]; omega
def Flow (ls : List Ln) (srcs : List Int) (place : Int) (hs : Heads) (k : Nat) : Prop := ∀ S : Int → Bool, (∀ s ∈ srcs, S s = true) → S place = false → fval ls S hs = k
theorem Flow.nil {ls : List Ln} {srcs : List Int} {place : Int} : Flow ls srcs place [] 0 := fun _ _ _ => rfl
theorem Flow.bound {ls : List Ln} {srcs whole : List Int} {place : Int} {hs : Heads} {k : Nat} (f : Flow ls srcs place hs k) (h : HeadsOk ls whole hs) (hp : place ∉ srcs) : k ≤ whole.length := by
  have e := f (fun p => decide (p ∈ srcs)) (fun s hs => by simpa using hs) (by simpa using hp)
  have := fval_le (ls := ls) (S := fun p => decide (p ∈ srcs)) hs
  have h2 : (crossing ls (fun p => decide (p ∈ srcs)) hs).length ≤ hs.length := List.length_filter_le _ _
  have := h.len
  omega
/-! ### spare steps, steps in use -/
def selM (f : Int × Int → Bool) (steps : StepsD) : StepsD := steps.map fun x => (x.1, x.2.filter f)
theorem selM_keys {f : Int × Int → Bool} {steps : StepsD} : keysD (selM f steps) = keysD steps := by simp [selM, keysD, Function.comp_def]
theorem selM_look {f : Int × Int → Bool} {steps : StepsD} {b : Int} : dlook (selM f steps) b = (dlook steps b).map (·.filter f) := by
  unfold selM
  induction steps with
  | nil => rfl
  | cons x xs ih =>
    rw [List.map_cons, dlook_cons, dlook_cons, ih]
    by_cases h : x.1 = b <;> simp [h]
theorem selM_some {f : Int × Int → Bool} {steps : StepsD} {b : Int} {st : List (Int × Int)} (h : dlook (selM f steps) b = some st) : ∃ st0, dlook steps b = some st0 ∧ st = st0.filter f := by
  rw [selM_look] at h
  cases e : dlook steps b with
  | none => rw [e] at h; cases h
  | some st0 => rw [e] at h; exact ⟨st0, rfl, (Option.some.inj h).symm⟩
theorem selM_ok {f : Int × Int → Bool} {steps : StepsD} (h : StepsOk steps) : StepsOk (selM f steps) := ⟨by unfold selM; rw [List.length_map]; exact h.n, fun b st x hs hx => by
  obtain ⟨st0, e, rfl⟩ := selM_some hs
  rw [selM_keys]
  exact h.t b st0 x e (List.mem_filter.mp hx).1⟩
def spareF (hs : Heads) : Int × Int → Bool := fun st => !decide (dlook hs st.1 = some st.2)
def usedF (hs : Heads) : Int × Int → Bool := fun st => decide (dlook hs st.1 = some st.2)
/-- an entry of what has been come to -/
theorem CameI.at {steps : StepsD} {starts : List Int} {zs : CameD} (c : CameI steps starts zs) {i : Nat} {p : Int} (h : (keysD zs)[i]? = some p) : (dlook zs p = some none ∧ p ∈ starts) ∨ ∃ l b st j, dlook zs p = some (some (l, b)) ∧ j < i ∧ (keysD zs)[j]? = some b ∧ dlook steps b = some st ∧ (l, p) ∈ st := by
  have hi : i < zs.length := by simpa [keysD] using (List.getElem?_eq_some_iff.mp h).1
  have hz : zs[i]? = some zs[i] := List.getElem?_eq_getElem hi
  have e : zs[i].1 = p := by
    unfold keysD at h
    rw [List.getElem?_map, hz] at h
    exact Option.some.inj h
  have hl : dlook zs p = some zs[i].2 := dlook_of_mem c.nd (by rw [← e]; exact List.getElem_mem hi)
  rcases c.en i zs[i].1 zs[i].2 hz with ⟨e2, hm⟩ | ⟨l, b, st, e2, ⟨j, hj, hj2⟩, hs, hm⟩
  · exact .inl ⟨by rw [hl, e2], e ▸ hm⟩
  · exact .inr ⟨l, b, st, j, by rw [hl, e2], hj, hj2, hs, e ▸ hm⟩
theorem idx_inj {xs : List Int} (nd : xs.Nodup) {i j : Nat} {a : Int} (h : xs[i]? = some a) (h' : xs[j]? = some a) : i = j := by
  obtain ⟨hi, e⟩ := List.getElem?_eq_some_iff.mp h
  obtain ⟨hj, e'⟩ := List.getElem?_eq_some_iff.mp h'
  exact (List.getElem_inj nd (h₀ := hi) (h₁ := hj)).mp (e.trans e'.symm)
/-- a line joins a and b -/
def Joins (ls : List Ln) (l a b : Int) : Prop := ((lineAt ls l).1 = a ∧ (lineAt ls l).2.1 = b) ∨ ((lineAt ls l).1 = b ∧ (lineAt ls l).2.1 = a)
theorem adj_joins {ls : List Ln} {whole : List Int} {l p b : Int} (h : (l, p) ∈ adjM ls whole b) : l ∈ whole ∧ Joins ls l b p := by
  obtain ⟨hl, h⟩ := mem_adjM.mp h
  refine ⟨hl, ?_⟩
  rcases h with ⟨e1, e2⟩ | ⟨_, e2, e3⟩
  · exact .inl ⟨e1, e2⟩
  · exact .inr ⟨e3, e2⟩
theorem joins_tail {ls : List Ln} {l a b : Int} (h : Joins ls l a b) (ne : a ≠ b) : tailOf ls l b = a ∧ tailOf ls l a = b := by
  unfold tailOf
  rcases h with ⟨e1, e2⟩ | ⟨e1, e2⟩
  · rw [e1, e2, if_neg ne, if_pos rfl]; exact ⟨rfl, rfl⟩
  · rw [e1, e2, if_pos rfl, if_neg ne.symm]; exact ⟨rfl, rfl⟩
/-- between two turns of use_way: at the place p with the number i among what has been come to -/
structure UseI (ls : List Ln) (whole srcs : List Int) (hs : Heads) (came : CameD) (place : Int) (i : Nat) (p : Int) (xs : Heads) : Prop where
  ok : HeadsOk ls whole xs
  at_ : (keysD came)[i]? = some p
  old : ∀ l a b (x y : Nat), Joins ls l a b → (keysD came)[x]? = some a → (keysD came)[y]? = some b → x ≤ i → y ≤ i → dlook xs l = dlook hs l
  val : ∀ S : Int → Bool, (∀ s ∈ srcs, S s = true) → fval ls S xs = fval ls S hs + out S place - out S p
section
variable {n : Nat} {ls : List Ln} {whole srcs : List Int} {hs xs : Heads} {came : CameD} {place p : Int} {i : Nat}
/-- one turn -/
theorem UseI.turn (lk : LinesOk n ls) (nb : Nums ls.length whole) (c : CameI (selM (spareF hs) (stepsM n ls whole)) srcs came) (u : UseI ls whole srcs hs came place i p xs) {l b : Int} (e : dlook came p = some (some (l, b))) :
    ∃ j, j < i ∧ ((dlook xs l).isSome = true → (∃ h, dlook xs l = some h) ∧ UseI ls whole srcs hs came place j b (ddrop xs l)) ∧ ((dlook xs l).isSome = false → UseI ls whole srcs hs came place j b (dput xs l p)) := by
  rcases c.at u.at_ with ⟨e2, _⟩ | ⟨l', b', st, j, e2, hj, hb, hs1, hm⟩
  · rw [e] at e2; cases e2
  rw [e] at e2
  cases e2
  obtain ⟨st0, hs2, rfl⟩ := selM_some hs1
  obtain ⟨hbn, rfl⟩ := stepsM_some hs2
  obtain ⟨hm1, hm2⟩ := List.mem_filter.mp hm
  obtain ⟨hw, jn⟩ := adj_joins hm1
  have ends := lk.l2 _ (lineAt_mem (nb l hw))
  have nbp : b ≠ p := fun z => by
    rcases jn with ⟨e1, e2⟩ | ⟨e1, e2⟩
    · exact ends.2.2 (e1.trans (z.trans e2.symm))
    · exact ends.2.2 (e1.trans (z.symm.trans e2.symm))
  have same := u.old l b p j i jn hb u.at_ (Nat.le_of_lt hj) (Nat.le_refl _)
  have nh : dlook hs l ≠ some p := by simpa [spareF] using hm2
  obtain ⟨t1, t2⟩ := joins_tail jn nbp
  have old' : ∀ zs : Heads, (∀ k, k ≠ l → dlook zs k = dlook xs k) → ∀ l' a b' (x y : Nat), Joins ls l' a b' → (keysD came)[x]? = some a → (keysD came)[y]? = some b' → x ≤ j → y ≤ j → dlook zs l' = dlook hs l' := by
    intro zs hz l' a b' x y jn' hx hy lx ly
    have nl : l' ≠ l := by
      intro z
      subst z
      have pe : p = a ∨ p = b' := by
        rcases jn with ⟨e1, e2⟩ | ⟨e1, e2⟩ <;> rcases jn' with ⟨e3, e4⟩ | ⟨e3, e4⟩
        · exact .inr (e2.symm.trans e4)
        · exact .inl (e2.symm.trans e4)
        · exact .inl (e1.symm.trans e3)
        · exact .inr (e1.symm.trans e3)
      rcases pe with z | z
      · subst z
        have := idx_inj c.nd u.at_ hx
        omega
      · subst z
        have := idx_inj c.nd u.at_ hy
        omega
    rw [hz l' nl]
    exact u.old l' a b' x y jn' hx hy (by omega) (by omega)
  refine ⟨j, hj, fun h => ?_, fun h => ?_⟩
  · cases eh : dlook xs l with
    | none => rw [eh] at h; cases h
    | some h' =>
      have hh : h' = b := by
        have hm' := (u.ok.m _ (dlook_mem eh)).2
        have : h' ≠ p := fun z => nh (by rw [← same, eh, z])
        rcases jn with ⟨e1, e2⟩ | ⟨e1, e2⟩ <;> rcases hm' with e3 | e3
        · exact e3.symm.trans e1
        · exact absurd (e3.symm.trans e2) this
        · exact absurd (e3.symm.trans e1) this
        · exact e3.symm.trans e2
      subst hh
      refine ⟨⟨_, rfl⟩, u.ok.drop _, hb, old' _ fun k hk => dlook_ddrop hk, fun S hS => ?_⟩
      rw [fval_ddrop u.ok.nd eh, u.val S hS]
      unfold term
      dsimp only
      rw [t2]
      omega
  · have hn : l ∉ keysD xs := fun z => by
      obtain ⟨v, e⟩ := dlook_isSome.mp z
      rw [e] at h; cases h
    rw [dput_new (dlook_none.mpr hn)]
    refine ⟨u.ok.snoc hn hw ?_, hb, old' _ fun k hk => dlook_snoc hk, fun S hS => ?_⟩
    · rcases jn with ⟨_, e2⟩ | ⟨e1, _⟩
      · exact .inr e2
      · exact .inl e1
    · rw [fval_append, u.val S hS]
      simp only [fval]
      unfold term
      dsimp only
      rw [t1]
      omega
theorem UseI.start (h : HeadsOk ls whole hs) (hp : (keysD came)[i]? = some place) : UseI ls whole srcs hs came place i place hs := ⟨h, hp, fun _ _ _ _ _ _ _ _ _ _ => rfl, fun S _ => by omega⟩
theorem UseI.done {steps : StepsD} (c : CameI steps srcs came) (u : UseI ls whole srcs hs came place i p xs) (e : dlook came p = some none) : HeadsOk ls whole xs ∧ ∀ k, Flow ls srcs place hs k → Flow ls srcs place xs (k + 1) := by
  refine ⟨u.ok, fun k f S hS hp => ?_⟩
  rcases c.at u.at_ with ⟨_, hm⟩ | ⟨_, _, _, _, e2, _⟩
  · rw [u.val S hS, f S hS hp]
    unfold out
    rw [hp, hS p hm]
    simp
  · rw [e] at e2; cases e2
end
/-! ### what is come to is told by the steps alone -/
theorem came_sub {steps : StepsD} {starts : List Int} {zs ys : CameD} (a : CameR steps starts zs) (b : CameR steps starts ys) : ∀ k ∈ keysD zs, k ∈ keysD ys := by
  have h : ∀ (i : Nat) p, (keysD zs)[i]? = some p → p ∈ keysD ys := by
    intro i
    induction i using Nat.strongRecOn with
    | ind i ih =>
      intro p hp
      rcases a.i.at hp with ⟨_, hm⟩ | ⟨l, c, st, j, _, hj, hc, hs, hm⟩
      · exact dlook_isSome.mpr ⟨_, b.i.st p hm⟩
      · exact b.c c st (l, p) (ih j hj c hc) hs hm
  intro k hk
  obtain ⟨i, hi, e⟩ := List.getElem_of_mem hk
  exact h i k (by rw [List.getElem?_eq_getElem hi, e])
/-! ### the cut -/
def cutM (ls : List Ln) (whole : List Int) (came : CameD) : List Int := whole.filter fun l => !((dlook came (lineAt ls l).1).isSome == (dlook came (lineAt ls l).2.1).isSome)
structure CutOk (n : Nat) (ls : List Ln) (whole srcs : List Int) (p : Int) (cut : List Int) : Prop where
  sub : cut.Sublist whole
  part : p ∉ ledM n ls (whole.filter fun l => !decide (l ∈ cut)) srcs
  least : ∀ D : List Int, p ∉ ledM n ls (whole.filter fun l => !decide (l ∈ D)) srcs → cut.length ≤ D.length
theorem lab_cross {n : Nat} {ls : List Ln} {whole srcs D : List Int} (lk : LinesOk n ls) (nb : Nums ls.length whole) {l : Int} (hl : l ∈ whole) (hd : l ∉ D) : ((lineAt ls l).1 ∈ ledM n ls (whole.filter fun l => !decide (l ∈ D)) srcs ↔ (lineAt ls l).2.1 ∈ ledM n ls (whole.filter fun l => !decide (l ∈ D)) srcs) := by
  have nb2 : Nums ls.length (whole.filter fun l => !decide (l ∈ D)) := fun x hx => nb x (List.mem_filter.mp hx).1
  have e := lab_line lk _ nb2 l (List.mem_filter.mpr ⟨hl, by simpa using hd⟩)
  have ends := lk.l2 _ (lineAt_mem (nb l hl))
  rw [mem_ledM, mem_ledM]
  constructor
  · rintro ⟨_, b, hb, eb⟩; exact ⟨ends.2.1, b, hb, eb.trans e⟩
  · rintro ⟨_, b, hb, eb⟩; exact ⟨ends.1, b, hb, eb.trans e.symm⟩
theorem cut_ok {n : Nat} {ls : List Ln} {whole srcs : List Int} {hs : Heads} {came : CameD} {place : Int} {k : Nat} (lk : LinesOk n ls) (nb : Nums ls.length whole) (wnd : whole.Nodup) (sb : ∀ s ∈ srcs, 0 ≤ s ∧ s < (n : Int)) (h : HeadsOk ls whole hs) (f : Flow ls srcs place hs k)
    (c : CameR (selM (spareF hs) (stepsM n ls whole)) srcs came) (hp : place ∉ keysD came) (pb : 0 ≤ place ∧ place < (n : Int)) : CutOk n ls whole srcs place (cutM ls whole came) ∧ (cutM ls whole came).length = k := by
  let S : Int → Bool := fun p => (dlook came p).isSome
  have Sk : ∀ p, S p = true ↔ p ∈ keysD came := fun p => by
    show (dlook came p).isSome = true ↔ _
    rw [dlook_some]; simp
  have S1 : ∀ s ∈ srcs, S s = true := fun s hs => (Sk s).mpr (dlook_isSome.mpr ⟨_, c.i.st s hs⟩)
  have S2 : S place = false := by
    cases e : S place with
    | false => rfl
    | true => exact absurd ((Sk _).mp e) hp
  -- a whole line with a in and b out is in use towards b
  have use : ∀ l a b, l ∈ whole → Joins ls l a b → S a = true → S b = false → dlook hs l = some b := by
    intro l a b hl jn ha hb
    have ends := lk.l2 _ (lineAt_mem (nb l hl))
    have hm : (l, b) ∈ adjM ls whole a := by
      rw [mem_adjM]
      refine ⟨hl, ?_⟩
      rcases jn with ⟨e1, e2⟩ | ⟨e1, e2⟩
      · exact .inl ⟨e1, e2⟩
      · exact .inr ⟨fun z => ends.2.2 (z.trans e2.symm), e2, e1⟩
    have ab : 0 ≤ a ∧ a < (n : Int) := by
      rcases jn with ⟨e1, _⟩ | ⟨_, e2⟩
      · exact e1 ▸ ends.1
      · exact e2 ▸ ends.2.1
    by_cases q : dlook hs l = some b
    · exact q
    · have := c.c a ((adjM ls whole a).filter (spareF hs)) (l, b) ((Sk a).mp ha) (by rw [selM_look, stepsM_look ab]; rfl) (List.mem_filter.mpr ⟨hm, by simpa [spareF] using q⟩)
      rw [(Sk b).mpr this] at hb
      cases hb
  have jt : ∀ x ∈ hs, Joins ls x.1 (tailOf ls x.1 x.2) x.2 := fun x hx => by
    unfold tailOf
    rcases (h.m x hx).2 with e | e
    · rw [if_pos e]; exact .inr ⟨e, rfl⟩
    · by_cases e2 : (lineAt ls x.1).1 = x.2
      · rw [if_pos e2]; exact .inr ⟨e2, rfl⟩
      · rw [if_neg e2]; exact .inl ⟨rfl, e⟩
  have tne : ∀ x ∈ hs, tailOf ls x.1 x.2 ≠ x.2 := fun x hx e => by
    have ends := lk.l2 _ (lineAt_mem (nb x.1 (h.m x hx).1))
    rcases jt x hx with ⟨e1, e2⟩ | ⟨e1, e2⟩
    · exact ends.2.2 (e1.trans (e.trans e2.symm))
    · exact ends.2.2 (e1.trans (e.symm.trans e2.symm))
  have inw : ∀ x ∈ hs, S x.2 = true → S (tailOf ls x.1 x.2) = true := fun x hx e => by
    cases e2 : S (tailOf ls x.1 x.2) with
    | true => rfl
    | false =>
      have j := jt x hx
      have j' : Joins ls x.1 x.2 (tailOf ls x.1 x.2) := j.symm.imp (fun z => z) (fun z => z)
      have := use x.1 x.2 _ (h.m x hx).1 j' e e2
      rw [dlook_of_mem h.nd (show (x.1, x.2) ∈ hs from hx)] at this
      exact absurd (Option.some.inj this).symm (tne x hx)
  have cl : (cutM ls whole came).length = k := by
    have e1 := f S S1 S2
    rw [fval_eq hs inw] at e1
    have e2 : (keysD (crossing ls S hs)).length = (cutM ls whole came).length := by
      refine nodup_len_eq ((h.drop _).nd) (wnd.filter _) fun l => ?_
      constructor
      · intro hl
        obtain ⟨x, hx, e⟩ := List.mem_map.mp hl
        obtain ⟨hx1, hx2⟩ := List.mem_filter.mp hx
        subst e
        refine List.mem_filter.mpr ⟨(h.m x hx1).1, ?_⟩
        have hx2 : ¬ S x.2 = S (tailOf ls x.1 x.2) := by simpa using hx2
        rcases jt x hx1 with ⟨a1, a2⟩ | ⟨a1, a2⟩
        · show (!(S (lineAt ls x.1).1 == S (lineAt ls x.1).2.1)) = true
          rw [a1, a2]
          simpa using fun z => hx2 z.symm
        · show (!(S (lineAt ls x.1).1 == S (lineAt ls x.1).2.1)) = true
          rw [a1, a2]
          simpa using hx2
      · intro hl
        obtain ⟨hl1, hl2⟩ := List.mem_filter.mp hl
        have hl2 : ¬ S (lineAt ls l).1 = S (lineAt ls l).2.1 := by simpa [S] using hl2
        have fin : ∀ a b, Joins ls l a b → S a = true → S b = false → l ∈ keysD (crossing ls S hs) := by
          intro a b jn ha hb
          have hu := dlook_mem (use l a b hl1 jn ha hb)
          have nab : a ≠ b := fun z => by rw [z, hb] at ha; cases ha
          refine List.mem_map.mpr ⟨(l, b), List.mem_filter.mpr ⟨hu, ?_⟩, rfl⟩
          show (!(S b == S (tailOf ls l b))) = true
          rw [(joins_tail jn nab).1, ha, hb]; rfl
        cases e1 : S (lineAt ls l).1 <;> cases e2 : S (lineAt ls l).2.1
        · rw [e1, e2] at hl2; exact absurd rfl hl2
        · exact fin _ _ (.inr ⟨rfl, rfl⟩) e2 e1
        · exact fin _ _ (.inl ⟨rfl, rfl⟩) e1 e2
        · rw [e1, e2] at hl2; exact absurd rfl hl2
    have e3 : (keysD (crossing ls S hs)).length = (crossing ls S hs).length := by simp [keysD]
    omega
  refine ⟨⟨List.filter_sublist, ?_, fun D hD => ?_⟩, cl⟩
  · intro hm
    obtain ⟨_, b, hb, e⟩ := mem_ledM.mp hm
    have nb2 : Nums ls.length (whole.filter fun l => !decide (l ∈ cutM ls whole came)) := fun x hx => nb x (List.mem_filter.mp hx).1
    have := (lab_ind lk (fun p => S p = true) _ nb2 (fun l hl => ?_) b place (sb b hb) pb e).mp (S1 b hb)
    · rw [S2] at this; cases this
    · obtain ⟨h1, h2⟩ := List.mem_filter.mp hl
      have h2 : l ∉ cutM ls whole came := by simpa using h2
      have : S (lineAt ls l).1 = S (lineAt ls l).2.1 := by
        apply Classical.byContradiction
        intro z
        exact h2 (List.mem_filter.mpr ⟨h1, by simpa [S] using z⟩)
      rw [this]
  · let T : Int → Bool := fun p => decide (p ∈ ledM n ls (whole.filter fun l => !decide (l ∈ D)) srcs)
    have e1 := f T (fun s hs => by
      show decide _ = true
      rw [decide_eq_true_eq, mem_ledM]
      exact ⟨sb s hs, s, hs, rfl⟩) (by show decide _ = false; rw [decide_eq_false hD])
    have e2 := fval_le (ls := ls) (S := T) hs
    have e3 : (keysD (crossing ls T hs)).length ≤ D.length := by
      refine nodup_sub _ _ (h.drop _).nd fun l hl => ?_
      obtain ⟨x, hx, e⟩ := List.mem_map.mp hl
      obtain ⟨hx1, hx2⟩ := List.mem_filter.mp hx
      subst e
      apply Classical.byContradiction
      intro hd
      have := lab_cross (srcs := srcs) lk nb (h.m x hx1).1 hd
      have hx2 : ¬ T x.2 = T (tailOf ls x.1 x.2) := by simpa using hx2
      apply hx2
      show decide _ = decide _
      apply decide_eq_decide.mpr
      rcases jt x hx1 with ⟨a1, a2⟩ | ⟨a1, a2⟩
      · rw [a1, a2] at this; exact this.symm
      · rw [a1, a2] at this; exact this
    have e4 : (keysD (crossing ls T hs)).length = (crossing ls T hs).length := by simp [keysD]
    omega
end Q

namespace Q
/-! ### a way read back from its end -/
inductive WayB (came : CameD) (p0 : Int) : List Int → Int → Prop
  | nil : WayB came p0 [] p0
  | snoc {xs : List Int} {p l b : Int} : WayB came p0 xs p → dlook came p = some (some (l, b)) → WayB came p0 (xs ++ [l]) b
theorem WayB.facts {n : Nat} {ls : List Ln} {whole srcs : List Int} {lf : Heads} {came : CameD} {p0 : Int} (lk : LinesOk n ls) (nb : Nums ls.length whole) (c : CameI (selM (usedF lf) (stepsM n ls whole)) srcs came) {xs : List Int} {p : Int} (h : WayB came p0 xs p) :
    ∀ i : Nat, (keysD came)[i]? = some p → xs.Nodup ∧ (∀ l ∈ xs, (dlook lf l).isSome = true) ∧ ∀ l ∈ xs, ∃ a b, ∃ x : Nat, Joins ls l a b ∧ (keysD came)[x]? = some a ∧ i < x := by
  induction h with
  | nil => intro i _; exact ⟨List.nodup_nil, (fun l hl => absurd hl List.not_mem_nil), (fun l hl => absurd hl List.not_mem_nil)⟩
  | @snoc xs p l b h e ih =>
    intro j hj
    -- p's own number
    have hp : p ∈ keysD came := dlook_isSome.mpr ⟨_, e⟩
    obtain ⟨i, hi, ei⟩ := List.getElem_of_mem hp
    have hi2 : (keysD came)[i]? = some p := by rw [List.getElem?_eq_getElem hi, ei]
    obtain ⟨h1, h2, h3⟩ := ih i hi2
    rcases c.at hi2 with ⟨e2, _⟩ | ⟨l', b', st, j', e2, hj', hb, hs1, hm⟩
    · rw [e] at e2; cases e2
    rw [e] at e2
    cases e2
    have jj : j = j' := idx_inj c.nd hj hb
    subst jj
    obtain ⟨st0, hs2, rfl⟩ := selM_some hs1
    obtain ⟨hbn, rfl⟩ := stepsM_some hs2
    obtain ⟨hm1, hm2⟩ := List.mem_filter.mp hm
    obtain ⟨hw, jn⟩ := adj_joins hm1
    have jp : Joins ls l p b := jn.symm.imp (fun z => z) (fun z => z)
    have hl : dlook lf l = some p := by simpa [usedF] using hm2
    refine ⟨?_, ?_, ?_⟩
    · rw [List.nodup_append]
      refine ⟨h1, by simp, fun a ha d hd z => ?_⟩
      rw [List.mem_singleton] at hd
      subst hd; subst z
      obtain ⟨a', b'', x, j2, hx, lx⟩ := h3 _ ha
      have : a' = p ∨ a' = b := by
        rcases jn with ⟨a1, a2⟩ | ⟨a1, a2⟩ <;> rcases j2 with ⟨a3, a4⟩ | ⟨a3, a4⟩
        · exact .inr (a3.symm.trans a1)
        · exact .inl (a4.symm.trans a2)
        · exact .inl (a3.symm.trans a1)
        · exact .inr (a4.symm.trans a2)
      rcases this with z | z
      · subst z; have := idx_inj c.nd hx hi2; omega
      · subst z; have := idx_inj c.nd hx hb; omega
    · intro k hk
      rcases List.mem_append.mp hk with z | z
      · exact h2 k z
      · rw [List.mem_singleton] at z; subst z; rw [hl]; rfl
    · intro k hk
      rcases List.mem_append.mp hk with z | z
      · obtain ⟨a, b', x, j2, hx, lx⟩ := h3 k z
        exact ⟨a, b', x, j2, hx, by omega⟩
      · rw [List.mem_singleton] at z; subst z
        exact ⟨p, b, i, jp, hi2, hj'⟩
theorem WayB.ne {came : CameD} {steps : StepsD} {srcs : List Int} {p0 s : Int} {xs : List Int} (c : CameI steps srcs came) (h : WayB came p0 xs s) (e : dlook came s = some none) (hp : p0 ∉ srcs) : xs ≠ [] := by
  intro z
  have key : ∀ {ys : List Int} {q : Int}, WayB came p0 ys q → ys = [] → q = p0 := by
    intro ys q hw hy
    cases hw with
    | nil => rfl
    | snoc _ _ => simp at hy
  have := key h z
  subst this
  have hs : s ∈ keysD came := dlook_isSome.mpr ⟨_, e⟩
  obtain ⟨i, hi, ei⟩ := List.getElem_of_mem hs
  rcases c.at (show (keysD came)[i]? = some s by rw [List.getElem?_eq_getElem hi, ei]) with ⟨_, hm⟩ | ⟨_, _, _, _, e2, _⟩
  · exact hp hm
  · rw [e] at e2; cases e2
def dropAll (hs : Heads) (ls : List Int) : Heads := hs.filter fun x => !decide (x.1 ∈ ls)
theorem dropAll_nil {hs : Heads} : dropAll hs [] = hs := by unfold dropAll; exact List.filter_eq_self.mpr (by simp)
theorem dropAll_snoc {hs : Heads} {ls : List Int} {l : Int} : dropAll hs (ls ++ [l]) = ddrop (dropAll hs ls) l := by
  unfold dropAll ddrop
  rw [List.filter_filter]
  apply List.filter_congr
  intro x _
  by_cases h1 : x.1 ∈ ls <;> by_cases h2 : x.1 = l <;> simp [h1, h2]
theorem dropAll_look {hs : Heads} {ls : List Int} {l : Int} (h : l ∉ ls) : dlook (dropAll hs ls) l = dlook hs l := by
  unfold dropAll
  induction hs with
  | nil => rfl
  | cons x xs ih =>
    by_cases hx : x.1 ∈ ls
    · rw [List.filter_cons_of_neg (by simpa using hx), ih, dlook_cons, if_neg (fun z : x.1 = l => h (z ▸ hx))]
    · rw [List.filter_cons_of_pos (by simpa using hx), dlook_cons, dlook_cons, ih]
theorem dropAll_lt {hs : Heads} {ls : List Int} {l : Int} (hl : l ∈ ls) (h : (dlook hs l).isSome = true) : (dropAll hs ls).length < hs.length := by
  unfold dropAll
  rw [dlook_some] at h
  obtain ⟨x, hx, e⟩ := List.mem_map.mp (of_decide_eq_true h)
  exact List.length_filter_lt_length_iff_exists.mpr ⟨x, hx, by simp [e, hl]⟩
theorem adjM_bound {n : Nat} {ls : List Ln} {whole : List Int} {b : Int} {st : List (Int × Int)} (h : dlook (stepsM n ls whole) b = some st) : st.length ≤ whole.length := by
  obtain ⟨_, rfl⟩ := stepsM_some h
  exact adjM_len
end Q

namespace Q
theorem led_mono {n : Nat} {ls : List Ln} {W W' S : List Int} (lk : LinesOk n ls) (nb : Nums ls.length W) (hS : ∀ s ∈ S, 0 ≤ s ∧ s < (n : Int)) (h : ∀ l ∈ W', l ∈ W) : ∀ p ∈ ledM n ls W' S, p ∈ ledM n ls W S := by
  intro p hp
  obtain ⟨hb, b, hbS, e⟩ := mem_ledM.mp hp
  refine mem_ledM.mpr ⟨hb, b, hbS, ?_⟩
  refine (lab_ind lk (fun q => lab n ls W b = lab n ls W q) W' (fun l hl => nb l (h l hl)) (fun l hl => ?_) b p (hS b hbS) hb e).mp rfl
  rw [lab_line lk W nb l (h l hl)]
theorem sub_lt {xs ys : List Int} {p : Int} (nd : xs.Nodup) (h : ∀ x ∈ xs, x ∈ ys) (hp : p ∈ ys) (hn : p ∉ xs) : xs.length < ys.length := by
  have := nodup_sub (p :: xs) ys (List.nodup_cons.mpr ⟨hn, nd⟩) fun x hx => by
    rcases List.mem_cons.mp hx with z | z
    · exact z ▸ hp
    · exact h x z
  rw [List.length_cons] at this
  omega
theorem filt_one {W : List Int} {x : Int} : (W.filter fun l => !decide (l ∈ [x])) = W.filter fun l => !decide (l = x) := by
  apply List.filter_congr
  intro l _
  by_cases h : l = x <;> simp [h]
theorem filt_nil {W : List Int} : (W.filter fun l => !decide (l ∈ ([] : List Int))) = W := List.filter_eq_self.mpr (by simp)
theorem src_led {n : Nat} {ls : List Ln} {W S : List Int} (hS : ∀ s ∈ S, 0 ≤ s ∧ s < (n : Int)) {s : Int} (h : s ∈ S) : s ∈ ledM n ls W S := mem_ledM.mpr ⟨hS s h, s, h, rfl⟩
/-- a place that one line parts is parted by a weak one -/
theorem one_weak {n : Nat} {ls : List Ln} {W S : List Int} {p x : Int} {c : List Int} (lk : LinesOk n ls) (nb : Nums ls.length W) (hS : ∀ s ∈ S, 0 ≤ s ∧ s < (n : Int)) (h : CutOk n ls W S p c) (hl : c.length = 1) (hx : c[0]? = some x) : x ∈ W ∧ (ledM n ls (W.filter fun l => !decide (l = x)) S).length < (ledM n ls W S).length := by
  obtain ⟨y, e⟩ := List.length_eq_one_iff.mp hl
  subst e
  cases hx
  have hp := h.part
  rw [filt_one] at hp
  have hp2 : p ∈ ledM n ls W S := by
    apply Classical.byContradiction
    intro z
    have := h.least [] (by rw [filt_nil]; exact z)
    simp at this
  exact ⟨h.sub.subset (by simp), sub_lt ledM_nodup (led_mono lk nb hS fun l hl => (List.mem_filter.mp hl).1) hp2 hp⟩
/-- what a weak line leaves dark, one line parts -/
theorem weak_one {n : Nat} {ls : List Ln} {W S : List Int} {p x : Int} {c : List Int} (h : CutOk n ls W S p c) (h1 : p ∈ ledM n ls W S) (h2 : p ∉ ledM n ls (W.filter fun l => !decide (l = x)) S) : c.length = 1 := by
  have a := h.least [x] (by rw [filt_one]; exact h2)
  have b : c ≠ [] := fun z => by
    have := h.part
    rw [z, filt_nil] at this
    exact this h1
  have := List.length_pos_iff.mpr b
  rw [List.length_singleton] at a
  omega
theorem lost_ne {n : Nat} {ls : List Ln} {W W' S : List Int} (h : (ledM n ls W' S).length < (ledM n ls W S).length) : ((ledM n ls W S).filter fun p => !decide (p ∈ ledM n ls W' S)) ≠ [] := fun z => by
  have : ∀ p ∈ ledM n ls W S, p ∈ ledM n ls W' S := fun p hp => by
    apply Classical.byContradiction
    intro hn
    have hm : p ∈ ((ledM n ls W S).filter fun p => !decide (p ∈ ledM n ls W' S)) := List.mem_filter.mpr ⟨hp, by simpa using hn⟩
    rw [z] at hm
    cases hm
  have := nodup_sub _ _ ledM_nodup this
  omega
theorem led_len {n : Nat} {ls : List Ln} {W S : List Int} : (ledM n ls W S).length ≤ n := by
  have := List.length_filter_le (fun p => decide ((groupsM n ls W).getD p.toNat 0 ∈ S.map fun b => (groupsM n ls W).getD b.toNat 0)) (rg (n : Int))
  rw [rg_len] at this
  unfold ledM
  omega
theorem CutOk.srcs {n : Nat} {ls : List Ln} {W S S' : List Int} {p : Int} {c : List Int} (e : ∀ b, b ∈ S ↔ b ∈ S') (h : CutOk n ls W S p c) : CutOk n ls W S' p c := ⟨h.sub, by rw [← ledM_perm e]; exact h.part, fun D hD => h.least D (by rw [ledM_perm e]; exact hD)⟩
end Q

namespace Q
def leadS (ls : List Ln) (h l : Int) : Int := if h = (lineAt ls l).1 ∨ h = (lineAt ls l).2.1 then (lineAt ls l).1 + (lineAt ls l).2.1 - h else -99
def leadF (ls : List Ln) (h : Int) (ws : List Int) : Int := ws.foldl (leadS ls) h
/-- one step of a way that is in use -/
theorem way_step {n : Nat} {ls : List Ln} {whole srcs : List Int} {lf : Heads} {came : CameD} {p l b : Int} (lk : LinesOk n ls) (nb : Nums ls.length whole) (c : CameI (selM (usedF lf) (stepsM n ls whole)) srcs came) (e : dlook came p = some (some (l, b))) : Joins ls l b p ∧ b ≠ p ∧ dlook lf l = some p ∧ l ∈ whole := by
  have hp : p ∈ keysD came := dlook_isSome.mpr ⟨_, e⟩
  obtain ⟨i, hi, ei⟩ := List.getElem_of_mem hp
  rcases c.at (show (keysD came)[i]? = some p by rw [List.getElem?_eq_getElem hi, ei]) with ⟨e2, _⟩ | ⟨l', b', st, j', e2, hj', hb, hs1, hm⟩
  · rw [e] at e2; cases e2
  rw [e] at e2
  cases e2
  obtain ⟨st0, hs2, rfl⟩ := selM_some hs1
  obtain ⟨hbn, rfl⟩ := stepsM_some hs2
  obtain ⟨hm1, hm2⟩ := List.mem_filter.mp hm
  obtain ⟨hw, jn⟩ := adj_joins hm1
  have ends := lk.l2 _ (lineAt_mem (nb l hw))
  refine ⟨jn, fun z => ?_, by simpa [usedF] using hm2, hw⟩
  rcases jn with ⟨e1, e2⟩ | ⟨e1, e2⟩
  · exact ends.2.2 (e1.trans (z.trans e2.symm))
  · exact ends.2.2 (e1.trans (z.symm.trans e2.symm))
theorem joins_step {ls : List Ln} {l b p : Int} (h : Joins ls l b p) : leadS ls b l = p := by
  unfold leadS
  rcases h with ⟨e1, e2⟩ | ⟨e1, e2⟩
  · rw [e1, e2, if_pos (.inl rfl)]; omega
  · rw [e1, e2, if_pos (.inr rfl)]; omega
theorem WayB.leads {n : Nat} {ls : List Ln} {whole srcs : List Int} {lf : Heads} {came : CameD} {p0 : Int} (lk : LinesOk n ls) (nb : Nums ls.length whole) (c : CameI (selM (usedF lf) (stepsM n ls whole)) srcs came) {xs : List Int} {p : Int} (h : WayB came p0 xs p) :
    leadF ls p xs.reverse = p0 ∧ ∀ l ∈ xs, l ∈ whole := by
  induction h with
  | nil => exact ⟨rfl, fun l hl => absurd hl List.not_mem_nil⟩
  | @snoc xs p l b h e ih =>
    obtain ⟨jn, _, _, hw⟩ := way_step lk nb c e
    refine ⟨?_, fun k hk => ?_⟩
    · rw [List.reverse_append]
      show leadF ls (leadS ls b l) xs.reverse = p0
      rw [joins_step jn]
      exact ih.1
    · rcases List.mem_append.mp hk with z | z
      · exact ih.2 k z
      · rw [List.mem_singleton] at z; subst z; exact hw
theorem dropAll_ok {ls : List Ln} {whole : List Int} {hs : Heads} (h : HeadsOk ls whole hs) (xs : List Int) : HeadsOk ls whole (dropAll hs xs) := h.drop _
/-- what a way that is taken out is worth -/
theorem WayB.val {n : Nat} {ls : List Ln} {whole srcs : List Int} {lf : Heads} {came : CameD} {p0 : Int} (lk : LinesOk n ls) (nb : Nums ls.length whole) (hl : HeadsOk ls whole lf) (c : CameI (selM (usedF lf) (stepsM n ls whole)) srcs came) (S : Int → Bool) {xs : List Int} {p : Int} (h : WayB came p0 xs p) :
    xs.Nodup → fval ls S (dropAll lf xs) = fval ls S lf - (out S p0 - out S p) := by
  induction h with
  | nil => intro _; rw [dropAll_nil]; omega
  | @snoc xs p l b h e ih =>
    intro nd
    rw [List.nodup_append] at nd
    obtain ⟨nd1, _, nd3⟩ := nd
    have hx : l ∉ xs := fun hm => nd3 l hm l (by simp) rfl
    obtain ⟨jn, ne, hd, hw⟩ := way_step lk nb c e
    rw [dropAll_snoc, fval_ddrop (dropAll_ok hl xs).nd ((dropAll_look hx).trans hd), ih nd1]
    unfold term
    dsimp only
    rw [(joins_tail jn ne).1]
    omega
def FlowZ (ls : List Ln) (srcs : List Int) (place : Int) (hs : Heads) (k : Int) : Prop := ∀ S : Int → Bool, (∀ s ∈ srcs, S s = true) → S place = false → fval ls S hs = k
/-- between two turns of used_ways: the ways so far, what is left, of hs -/
structure WaysI (ls : List Ln) (whole srcs : List Int) (place : Int) (hs : Heads) (k : Int) (lf : Heads) (ws : List (List Int)) : Prop where
  ok : HeadsOk ls whole lf
  sub : ∀ x ∈ lf, x ∈ hs
  fl : FlowZ ls srcs place lf (k - ws.length)
  nd : ws.flatten.Nodup
  wh : ∀ l ∈ ws.flatten, l ∈ whole
  un : ∀ l ∈ ws.flatten, l ∉ keysD lf
  ld : ∀ w ∈ ws, w ≠ [] ∧ ∃ s ∈ srcs, leadF ls s w = place
theorem WaysI.start {ls : List Ln} {whole srcs : List Int} {place : Int} {hs : Heads} {k : Nat} (h : HeadsOk ls whole hs) (f : Flow ls srcs place hs k) : WaysI ls whole srcs place hs k hs [] := ⟨h, fun _ h => h, fun S a b => by rw [f S a b]; simp, by simp, by simp, by simp, fun w hw => absurd hw List.not_mem_nil⟩
theorem dropAll_keys {hs : Heads} {ls : List Int} {l : Int} (h : l ∈ keysD (dropAll hs ls)) : l ∈ keysD hs ∧ l ∉ ls := by
  obtain ⟨x, hx, e⟩ := List.mem_map.mp h
  obtain ⟨h1, h2⟩ := List.mem_filter.mp hx
  exact ⟨List.mem_map.mpr ⟨x, h1, e⟩, by rw [← e]; simpa using h2⟩
theorem WaysI.turn {n : Nat} {ls : List Ln} {whole srcs : List Int} {place s : Int} {hs lf : Heads} {k : Int} {ws : List (List Int)} {came : CameD} {way : List Int} (lk : LinesOk n ls) (nb : Nums ls.length whole) (w : WaysI ls whole srcs place hs k lf ws) (c : CameI (selM (usedF lf) (stepsM n ls whole)) srcs came)
    (wb : WayB came place way.reverse s) (es : dlook came s = some none) (wnd : way.Nodup) (wne : way ≠ []) (win : ∀ l ∈ way, (dlook lf l).isSome = true) : WaysI ls whole srcs place hs k (dropAll lf way) (ws ++ [way]) := by
  have hss : s ∈ srcs := by
    have hs : s ∈ keysD came := dlook_isSome.mpr ⟨_, es⟩
    obtain ⟨i, hi, ei⟩ := List.getElem_of_mem hs
    rcases c.at (show (keysD came)[i]? = some s by rw [List.getElem?_eq_getElem hi, ei]) with ⟨_, hm⟩ | ⟨_, _, _, _, e2, _⟩
    · exact hm
    · rw [es] at e2; cases e2
  obtain ⟨l1, l2⟩ := wb.leads lk nb c
  rw [List.reverse_reverse] at l1
  have dr : dropAll lf way = dropAll lf way.reverse := by
    unfold dropAll
    apply List.filter_congr
    intro x _
    simp
  have keysW : ∀ l ∈ way, l ∈ keysD lf := fun l hl => by
    have := win l hl
    rw [dlook_some] at this
    exact of_decide_eq_true this
  refine ⟨w.ok.drop _, fun x hx => w.sub x (List.mem_filter.mp hx).1, fun S a b => ?_, ?_, fun l hl => ?_, fun l hl hk => ?_, fun v hv => ?_⟩
  · rw [dr, wb.val lk nb w.ok c S ((List.reverse_perm way).nodup_iff.mpr wnd), w.fl S a b]
    unfold out
    rw [b, a s hss, List.length_append]
    simp
    omega
  · rw [List.flatten_append, List.nodup_append]
    refine ⟨w.nd, by simpa using wnd, fun a ha b hb e => ?_⟩
    have hb : b ∈ way := by simpa using hb
    exact w.un a ha (keysW a (e ▸ hb))
  · rw [List.flatten_append, List.mem_append] at hl
    rcases hl with z | z
    · exact w.wh l z
    · exact l2 l (by simpa using z)
  · obtain ⟨k1, k2⟩ := dropAll_keys hk
    rw [List.flatten_append, List.mem_append] at hl
    rcases hl with z | z
    · exact w.un l z k1
    · exact k2 (by simpa using z)
  · rcases List.mem_append.mp hv with z | z
    · exact w.ld v z
    · rw [List.mem_singleton] at z
      subst z
      exact ⟨wne, s, hss, l1⟩
theorem fval_pos {ls : List Ln} {S : Int → Bool} : ∀ xs : Heads, (∀ x ∈ xs, 0 ≤ term ls S x) → 0 ≤ fval ls S xs
  | [], _ => by simp [fval]
  | x :: xs, h => by
    have := fval_pos xs fun y hy => h y (List.mem_cons_of_mem _ hy)
    have := h x (by simp)
    rw [fval]; omega
theorem fval_neg {ls : List Ln} {S : Int → Bool} : ∀ xs : Heads, (∀ x ∈ xs, term ls S x ≤ 0) → fval ls S xs ≤ 0
  | [], _ => by simp [fval]
  | x :: xs, h => by
    have := fval_neg xs fun y hy => h y (List.mem_cons_of_mem _ hy)
    have := h x (by simp)
    rw [fval]; omega
theorem term_neg {ls : List Ln} {S : Int → Bool} {x : Int × Int} (h : S (tailOf ls x.1 x.2) = true → S x.2 = true) : term ls S x ≤ 0 := by
  unfold term out
  cases e1 : S (tailOf ls x.1 x.2) with
  | false => cases S x.2 <;> simp
  | true => rw [h e1]; simp
theorem term_pos {ls : List Ln} {S : Int → Bool} {x : Int × Int} (h : S x.2 = true → S (tailOf ls x.1 x.2) = true) : 0 ≤ term ls S x := by
  unfold term out
  cases e1 : S x.2 with
  | false => cases S (tailOf ls x.1 x.2) <;> simp
  | true => rw [h e1]; simp
theorem heads_adj {n : Nat} {ls : List Ln} {whole : List Int} {hs : Heads} (lk : LinesOk n ls) (nb : Nums ls.length whole) (h : HeadsOk ls whole hs) {x : Int × Int} (hx : x ∈ hs) : Joins ls x.1 (tailOf ls x.1 x.2) x.2 ∧ tailOf ls x.1 x.2 ≠ x.2 ∧ (x.1, x.2) ∈ adjM ls whole (tailOf ls x.1 x.2) ∧ (x.1, tailOf ls x.1 x.2) ∈ adjM ls whole x.2 ∧ (0 ≤ tailOf ls x.1 x.2 ∧ tailOf ls x.1 x.2 < (n : Int)) ∧ (0 ≤ x.2 ∧ x.2 < (n : Int)) := by
  obtain ⟨hw, he⟩ := h.m x hx
  have ends := lk.l2 _ (lineAt_mem (nb x.1 hw))
  have jt : Joins ls x.1 (tailOf ls x.1 x.2) x.2 := by
    unfold tailOf
    rcases he with e | e
    · rw [if_pos e]; exact .inr ⟨e, rfl⟩
    · by_cases e2 : (lineAt ls x.1).1 = x.2
      · rw [if_pos e2]; exact .inr ⟨e2, rfl⟩
      · rw [if_neg e2]; exact .inl ⟨rfl, e⟩
  have tne : tailOf ls x.1 x.2 ≠ x.2 := fun e => by
    rcases jt with ⟨e1, e2⟩ | ⟨e1, e2⟩
    · exact ends.2.2 (e1.trans (e.trans e2.symm))
    · exact ends.2.2 (e1.trans (e.symm.trans e2.symm))
  refine ⟨jt, tne, ?_, ?_, ?_, ?_⟩
  · rw [mem_adjM]
    refine ⟨hw, ?_⟩
    rcases jt with ⟨e1, e2⟩ | ⟨e1, e2⟩
    · exact .inl ⟨e1, e2⟩
    · exact .inr ⟨fun z => ends.2.2 (z.trans e2.symm), e2, e1⟩
  · rw [mem_adjM]
    refine ⟨hw, ?_⟩
    rcases jt with ⟨e1, e2⟩ | ⟨e1, e2⟩
    · exact .inr ⟨fun z => ends.2.2 (z.trans e2.symm), e2, e1⟩
    · exact .inl ⟨e1, e2⟩
  · rcases jt with ⟨e1, _⟩ | ⟨_, e2⟩
    · exact e1 ▸ ends.1
    · exact e2 ▸ ends.2.1
  · rcases jt with ⟨_, e2⟩ | ⟨e1, _⟩
    · exact e2 ▸ ends.2.1
    · exact e1 ▸ ends.1
/-- at the end as many ways as were in use -/
theorem WaysI.done {n : Nat} {ls : List Ln} {whole srcs : List Int} {place : Int} {hs lf : Heads} {k : Int} {ws : List (List Int)} {came came0 : CameD} (lk : LinesOk n ls) (nb : Nums ls.length whole) (w : WaysI ls whole srcs place hs k lf ws) (ho : HeadsOk ls whole hs)
    (c : CameR (selM (usedF lf) (stepsM n ls whole)) srcs came) (hp : place ∉ keysD came) (c0 : CameR (selM (spareF hs) (stepsM n ls whole)) srcs came0) (hp0 : place ∉ keysD came0) : (ws.length : Int) = k := by
  have e1 := w.fl (fun p => (dlook came p).isSome) (fun s hs => by show (dlook came s).isSome = true; rw [c.i.st s hs]; rfl) (by show (dlook came place).isSome = false; rw [dlook_none.mpr hp]; rfl)
  have e2 := w.fl (fun p => (dlook came0 p).isSome) (fun s hs => by show (dlook came0 s).isSome = true; rw [c0.i.st s hs]; rfl) (by show (dlook came0 place).isSome = false; rw [dlook_none.mpr hp0]; rfl)
  have n1 := fval_neg (ls := ls) (S := fun p => (dlook came p).isSome) lf fun x hx => by
    obtain ⟨_, _, a1, _, a3, _⟩ := heads_adj lk nb w.ok hx
    refine term_neg fun e => ?_
    · have e : (dlook came (tailOf ls x.1 x.2)).isSome = true := e
      have hk : tailOf ls x.1 x.2 ∈ keysD came := by rw [dlook_some] at e; exact of_decide_eq_true e
      have := c.c _ _ (x.1, x.2) hk (by rw [selM_look, stepsM_look a3]; rfl) (List.mem_filter.mpr ⟨a1, by
        have := dlook_of_mem w.ok.nd (show (x.1, x.2) ∈ lf from hx)
        simpa [usedF] using this⟩)
      show (dlook came x.2).isSome = true
      rw [dlook_some]; exact decide_eq_true this
  have n2 := fval_pos (ls := ls) (S := fun p => (dlook came0 p).isSome) lf fun x hx => by
    have hx := w.sub x hx
    obtain ⟨_, tne, _, a2, _, a4⟩ := heads_adj lk nb ho hx
    refine term_pos fun e => ?_
    · have e : (dlook came0 x.2).isSome = true := e
      have hk : x.2 ∈ keysD came0 := by rw [dlook_some] at e; exact of_decide_eq_true e
      have := c0.c _ _ (x.1, tailOf ls x.1 x.2) hk (by rw [selM_look, stepsM_look a4]; rfl) (List.mem_filter.mpr ⟨a2, by
        have h1 := dlook_of_mem ho.nd (show (x.1, x.2) ∈ hs from hx)
        have : dlook hs x.1 ≠ some (tailOf ls x.1 x.2) := fun z => by rw [h1] at z; exact tne (Option.some.inj z).symm
        simpa [spareF] using this⟩)
      show (dlook came0 (tailOf ls x.1 x.2)).isSome = true
      rw [dlook_some]; exact decide_eq_true this
  rw [e1] at n1
  rw [e2] at n2
  omega
end Q

namespace Q
open PySem L2


def scpOf : Expr → Scope
  | .DictComp _ _ _ sc _ => sc
  | .ListComp _ _ sc _ => sc
  | _ => ⟨.function, [], false, false, []⟩
def relOf (f sc : Scope) : Scope := { sc with names := sc.names.map fun (n, k) => if (k == .free && f.kind == .function && f.names.lookup n == some .cell) then (n, .cell) else (n, k) }
def retSc (s : Stmt) : Scope := match defBody s with
  | .Return (some e) _ :: _ => relOf (defScope s) (scpOf e)
  | _ => ⟨.function, [], false, false, []⟩
abbrev rStepsD : Rp StepsD := rDict (rList rPr)
abbrev rCameD : Rp CameD := rDict (rOpt rPr)
structure StepsG (steps : StepsD) : Prop where
  ok : StepsOk steps
  nd : (keysD steps).Nodup
  b : ∀ k st, dlook steps k = some st → st.length ≤ 1000
def SpSel (f : Heads → Int × Int → Bool) : Sp := fun vs H Q _ => ∃ (G : Hp) (v : V) (p : Addr) (kvs : List (Key × V)) (steps : StepsD) (hs : Heads), vs = [v, .ref p] ∧ Ex G H ∧ rStepsD.rel G v steps ∧ G p = none ∧ H p = some (.dK kvs) ∧ DictR rInt G kvs hs ∧ StepsG steps ∧
  ∀ u (W : Wd (eF G H p)), rStepsD.rel W.G u (selM (f hs) steps) → Own W p (.dK kvs) → Q u W.H
def SpUse : Sp := fun vs H Q _ => ∃ (G : Hp) (p : Addr) (kvs : List (Key × V)) (v : V) (place : Int) (hs : Heads) (came : CameD) (n : Nat) (ls : List Ln) (whole srcs : List Int), vs = [.ref p, v, .int place] ∧ Ex G H ∧ G p = none ∧ H p = some (.dK kvs) ∧ DictR rInt G kvs hs ∧ rCameD.rel G v came ∧
  LinesOk n ls ∧ Nums ls.length whole ∧ whole.length ≤ 1000 ∧ CameI (selM (spareF hs) (stepsM n ls whole)) srcs came ∧ HeadsOk ls whole hs ∧ place ∈ keysD came ∧
  ∀ (W : Wd (eF G H p)) hs', OwnD W p rInt hs' → HeadsOk ls whole hs' → (∀ k, Flow ls srcs place hs k → Flow ls srcs place hs' (k + 1)) → Q .non W.H
/-- what most_used gives -/
structure MostOk (n : Nat) (ls : List Ln) (whole srcs : List Int) (place : Int) (hs : Heads) : Prop where
  h : HeadsOk ls whole hs
  f : ∃ k, Flow ls srcs place hs k
  c : ∃ came, CameR (selM (spareF hs) (stepsM n ls whole)) srcs came ∧ place ∉ keysD came
structure PartIn (n : Nat) (ls : List Ln) (whole srcs : List Int) (place : Int) : Prop where
  l : LinesOk n ls
  w : Nums ls.length whole
  wn : whole.Nodup
  wl : whole.length ≤ 1000
  s1 : srcs.Nodup
  s2 : ∀ x ∈ srcs, 0 ≤ x ∧ x < (n : Int)
  p1 : place ∉ srcs
  p2 : 0 ≤ place ∧ place < (n : Int)
theorem PartIn.sg {n : Nat} {ls : List Ln} {whole srcs : List Int} {place : Int} (h : PartIn n ls whole srcs place) : StepsG (stepsM n ls whole) := ⟨stepsM_ok h.l h.w, by rw [stepsM_keys]; exact rg_nodup _, fun k st e => Nat.le_trans (adjM_bound e) h.wl⟩
theorem PartIn.ks {n : Nat} {ls : List Ln} {whole srcs : List Int} {place : Int} (h : PartIn n ls whole srcs place) {f : Int × Int → Bool} : ∀ k ∈ srcs, k ∈ keysD (selM f (stepsM n ls whole)) := fun k hk => by rw [selM_keys, stepsM_keys, mem_rg]; exact h.s2 k hk
def SpMost : Sp := fun vs H Q _ => ∃ (G : Hp) (v u : V) (place : Int) (n : Nat) (ls : List Ln) (whole srcs : List Int), vs = [v, u, .int place] ∧ Ex G H ∧ rStepsD.rel G v (stepsM n ls whole) ∧ (rList rInt).rel G u srcs ∧ PartIn n ls whole srcs place ∧
  ∀ p hs (W : Wd (pF G H)), OwnD W p rInt hs → MostOk n ls whole srcs place hs → Q (.ref p) W.H
structure WaysOk (ls : List Ln) (whole srcs : List Int) (place : Int) (hs : Heads) (zs : List (List Int)) : Prop where
  len : ∀ k, Flow ls srcs place hs k → zs.length = k
  nd : zs.flatten.Nodup
  wh : ∀ l ∈ zs.flatten, l ∈ whole
  ld : ∀ w ∈ zs, w ≠ [] ∧ ∃ s ∈ srcs, leadF ls s w = place
structure PartOk (n : Nat) (ls : List Ln) (whole srcs : List Int) (place : Int) (z : List Int × List (List Int)) : Prop where
  cut : CutOk n ls whole srcs place z.1
  len : z.2.length = z.1.length
  nd : z.2.flatten.Nodup
  wh : ∀ l ∈ z.2.flatten, l ∈ whole
  ld : ∀ w ∈ z.2, w ≠ [] ∧ ∃ s ∈ srcs, leadF ls s w = place
def SpUsedW : Sp := fun vs H Q _ => ∃ (G : Hp) (v u : V) (p : Addr) (kvs : List (Key × V)) (place : Int) (n : Nat) (ls : List Ln) (whole srcs : List Int) (hs : Heads), vs = [v, .ref p, u, .int place] ∧ Ex G H ∧ rStepsD.rel G v (stepsM n ls whole) ∧ (rList rInt).rel G u srcs ∧ G p = none ∧ H p = some (.dK kvs) ∧ DictR rInt G kvs hs ∧ PartIn n ls whole srcs place ∧ MostOk n ls whole srcs place hs ∧
  ∀ w (W : Wd (eF G H p)) zs, (rList (rList rInt)).rel W.G w zs → WaysOk ls whole srcs place hs zs → Own W p (.dK kvs) → Q w W.H
abbrev SpWayTo : Sp := FnN2 rCameD rInt (rList rInt) (fun came p => (∃ steps srcs, CameI steps srcs came) ∧ came.length ≤ 1000 ∧ p ∈ keysD came) (fun came p zs => ∃ s, WayB came p zs.reverse s ∧ dlook came s = some none)
section
variable {F : Fr} {K : PySem.W.Frag} {σ : L2.St} {W W1 : Wd F} {ta tb te tc tl ti tk tv : TE} {α β γ δ : Type} {r : Rp α} {s : Rp β} {t : Rp γ} {D : Ends} {tz tx ty : TS}
theorem ev_unsome {x : α} (h : EvR te σ W (rOpt r) (some x)) : EvR te σ W r x := h
theorem OwnD.back {W : Wd F} {W' : Wd (pF W.G W.H)} {p : Addr} {xs : List (Int × α)} (x : OwnD W' p r xs) : OwnD (W.back W') p r xs := let ⟨vs, h1, h2⟩ := x.ex; ⟨vs, h1.back, h2⟩
theorem ev_call3N {q : Rp δ} {pre : α → β → γ → Prop} {f : α → β → γ → δ} {P : γ → Prop} {R : δ → Prop} {E : XK} {x : α} {y : β} (ha : EvR ta σ W r x) (hb : EvR tb σ W s y) (hc : EvN tc σ W t P) (hp : ∀ z, P z → pre x y z) (hR : ∀ z, P z → R (f x y z)) : EvN (tCall (Fn3 r s t q pre f) [] E (tCons ta (tCons tb (tCons tc tNil)))) σ W q R := fun W1 l Q k =>
  ha W1 l _ fun v W2 l2 hv => hb W2 (l.trans l2) _ fun w W3 l3 hw => hc W3 ((l.trans l2).trans l3) _ fun u W4 z l4 hu hz => ⟨W4.G, v, w, u, x, y, z, rfl, W4.gh, r.mono (l3.ex.trans l4.ex) hv, s.mono l4.ex hw, hu, hp z hz, fun u W5 h5 => k u (W4.back W5) _ (((l2.trans l3).trans l4).trans (W4.back_le W5)) h5 (hR z hz)⟩
theorem ev_t2N {P : α → Prop} {P' : β → Prop} (ha : EvN ta σ W r P) (hb : EvN tb σ W s P') : EvN (tTup (tCons ta (tCons tb tNil))) σ W (rT2 r s) (fun z => P z.1 ∧ P' z.2) := fun W1 l Q q =>
  ha W1 l _ fun v W2 x l2 hv hx => hb W2 (l.trans l2) _ fun w W3 y l3 hw hy => ⟨(by show 2 ≤ sizeLine; decide), fun p hp =>
    q (.ref p) (W3.add p (.tup [v, w]) hp) (x, y) ((l2.trans l3).trans (W3.add_le hp)) ⟨p, v, w, rfl, W3.add_at hp, r.mono (l3.ex.trans (W3.add_le hp).ex) hv, s.mono (W3.add_le hp).ex hw⟩ ⟨hx, hy⟩⟩
theorem ev_sel {f : Heads → Int × Int → Bool} {i : Nat} {p : Addr} {steps : StepsD} {hs : Heads} {E : XK} (ha : EvR ta σ W rStepsD steps) (hi : σ[i]? = some (some (.ref p))) (o : OwnD W p rInt hs) (ok : StepsG steps) : EvR (tCall (SpSel f) [] E (tCons ta (tCons (tVar i) tNil))) σ W rStepsD (selM (f hs) steps) := fun W1 l Q q =>
  ha W1 l _ fun v W2 l2 hv => ⟨_, hi, by
    obtain ⟨kvs, o1, o2⟩ := (o.up (l.trans l2)).ex
    exact ⟨W2.G, v, p, kvs, steps, hs, rfl, W2.gh, hv, o1.g, o1.h, o2, ok, fun u W3 hu y => q u (W2.backE o1 W3) (l2.trans (Wd.backE_le o1 W3 y)) hu⟩⟩
theorem q_use {i : Nat} {p : Addr} {hs : Heads} {came : CameD} {place : Int} {n : Nat} {ls : List Ln} {whole srcs : List Int} {E : XK} (hi : σ[i]? = some (some (.ref p))) (o : OwnD W p rInt hs) (hb : EvR tb σ W rCameD came) (hc : EvR tc σ W rInt place) (pi : PartIn n ls whole srcs place) (c : CameI (selM (spareF hs) (stepsM n ls whole)) srcs came) (hk : HeadsOk ls whole hs) (hp : place ∈ keysD came)
    (k : ∀ (W1 : Wd F) hs', Kp p W W1 → OwnD W1 p rInt hs' → HeadsOk ls whole hs' → (∀ k, Flow ls srcs place hs k → Flow ls srcs place hs' (k + 1)) → tz D σ W1.H) : tSeq (tDrop (tCall SpUse [] E (tCons (tVar i) (tCons tb (tCons tc tNil))))) tz D σ W.H :=
  ⟨_, hi, hb W (Le.refl _) _ fun v W2 l2 hv => hc W2 l2 _ fun w W3 l3 hw => by
    have hw : w = .int place := hw
    subst hw
    obtain ⟨kvs, o1, o2⟩ := (o.up (l2.trans l3)).ex
    exact ⟨W3.G, p, kvs, v, place, hs, came, n, ls, whole, srcs, rfl, W3.gh, o1.g, o1.h, o2, rCameD.mono l3.ex hv, pi.l, pi.w, pi.wl, c, hk, hp, fun W4 hs' o' h' f' => by
      obtain ⟨kvs', o3, o4⟩ := o'.ex
      have kp := Wd.backE_kp o1 W4
      exact k (W3.backE o1 W4) hs' ⟨(l2.trans l3).ex.trans kp.ex, fun q u ne x => kp.kp q u ne (x.up (l2.trans l3))⟩ ⟨kvs', Wd.backE_at o1 W4 o3, o4⟩ h' f'⟩⟩
theorem q_most {i : Nat} {place : Int} {n : Nat} {ls : List Ln} {whole srcs : List Int} {E : XK} (ha : EvR ta σ W rStepsD (stepsM n ls whole)) (hb : EvR tb σ W (rList rInt) srcs) (hc : EvR tc σ W rInt place) (pi : PartIn n ls whole srcs place)
    (k : ∀ p hs (W1 : Wd F), Le W W1 → OwnD W1 p rInt hs → MostOk n ls whole srcs place hs → tz D (σ.set i (some (.ref p))) W1.H) : tSeq (tAsg (tCall SpMost [] E (tCons ta (tCons tb (tCons tc tNil)))) (gName i)) tz D σ W.H :=
  ha W (Le.refl _) _ fun v W1 l1 hv => hb W1 l1 _ fun u W2 l2 hu => hc W2 (l1.trans l2) _ fun w W3 l3 hw => by
    have hw : w = .int place := hw
    subst hw
    exact ⟨W3.G, v, u, place, n, ls, whole, srcs, rfl, W3.gh, rStepsD.mono (l2.ex.trans l3.ex) hv, (rList rInt).mono l3.ex hu, pi, fun p hs W4 o m => k p hs (W3.back W4) (((l1.trans l2).trans l3).trans (W3.back_le W4)) o.back m⟩
theorem ev_usedw {i : Nat} {p : Addr} {place : Int} {hs : Heads} {n : Nat} {ls : List Ln} {whole srcs : List Int} {E : XK} (ha : EvR ta σ W rStepsD (stepsM n ls whole)) (hi : σ[i]? = some (some (.ref p))) (o : OwnD W p rInt hs) (hb : EvR tb σ W (rList rInt) srcs) (hc : EvR tc σ W rInt place) (pi : PartIn n ls whole srcs place) (hk : MostOk n ls whole srcs place hs) :
    EvN (tCall SpUsedW [] E (tCons ta (tCons (tVar i) (tCons tb (tCons tc tNil))))) σ W (rList (rList rInt)) (WaysOk ls whole srcs place hs) := fun W1 l Q q =>
  ha W1 l _ fun v W2 l2 hv => ⟨_, hi, hb W2 (l.trans l2) _ fun u W3 l3 hu => hc W3 ((l.trans l2).trans l3) _ fun w W4 l4 hw => by
    have hw : w = .int place := hw
    subst hw
    obtain ⟨kvs, o1, o2⟩ := (o.up (((l.trans l2).trans l3).trans l4)).ex
    exact ⟨W4.G, v, u, p, kvs, place, n, ls, whole, srcs, hs, rfl, W4.gh, rStepsD.mono (l3.ex.trans l4.ex) hv, (rList rInt).mono l4.ex hu, o1.g, o1.h, o2, pi, hk, fun z W5 zs hz hw y => q z (W4.backE o1 W5) zs (((l2.trans l3).trans l4).trans (Wd.backE_le o1 W5 y)) hz hw⟩⟩
/-- dict(d), d of one's own -/
theorem q_dcopy {i j : Nat} {p : Addr} {xs : List (Int × α)} {rd : List V → Hp → VK → Prop} (he : rd = fun xs H Q => ∃ (a : Addr) (kvs : List (Key × V)), xs = [V.ref a] ∧ Rd H a (.dK kvs) ∧ ∀ p, H p = none → Q (.ref p) (upd H p (.dK kvs))) (hi : σ[i]? = some (some (.ref p))) (o : OwnD W p r xs)
    (k : ∀ q (W1 : Wd F), Le W W1 → W.H q = none → OwnD W1 q r xs → tz D (σ.set j (some (.ref q))) W1.H) : tSeq (tAsg (tCB rd (tCons (tVar i) tNil)) (gName j)) tz D σ W.H := by
  subst he
  obtain ⟨kvs, h1, h2⟩ := o.ex
  exact ⟨_, hi, p, kvs, rfl, .inl h1.h, fun q hq => k q (W.own q _ hq) (W.own_le hq) hq ⟨kvs, W.own_at hq, h2⟩⟩
end
end Q

namespace Q
open PySem L2
local macro_rules | `(tactic| walk_at "up") => do
  let l := Lean.mkIdent `l
  let mut ts : Array (Lean.TSyntax `tactic) := #[]
  for i in [1, 2, 3, 4, 5, 6, 7, 8, 9, 10, 11, 12, 13, 14, 15, 16] do
    let h := Lean.mkIdent (Lean.Name.mkSimple s!"h{i}")
    ts := ts.push (← `(tactic| try replace $h:ident := Rp.up (Le.ex $l) $h))
    ts := ts.push (← `(tactic| try replace $h:ident := Rp.up (Wk.ex $l) $h))
    ts := ts.push (← `(tactic| try replace $h:ident := Rp.up (Kp.ex $l) $h))
  for i in [1, 2, 3, 4] do
    let h := Lean.mkIdent (Lean.Name.mkSimple s!"o{i}")
    ts := ts.push (← `(tactic| try replace $h:ident := OwnL.up $l $h))
    ts := ts.push (← `(tactic| try replace $h:ident := OwnD.up $l $h))
  `(tactic| ($[$ts:tactic];*))
local macro_rules | `(tactic| walk_at "cm") => `(tactic| first | exact Or.inl ⟨by omega, by omega⟩ | exact Or.inr ⟨by omega, by omega⟩)
local macro_rules | `(tactic| walk_at "ev") => `(tactic| repeat' first
  | exact ev_var rfl (by first | assumption | rfl)
  | exact ev_int | exact ev_bl | exact ev_str | exact ev_non
  | (refine' ev_addA ?_ ?_) | (refine' ev_sub ?_ ?_)
  | (refine' ev_mulA ?_ ?_ ?_; rotate_left 2; walk_at "cm")
  | (refine' ev_mod ?_ ?_ ?_; rotate_left 2; omega)
  | (refine' ev_lt ?_ ?_) | (refine' ev_le ?_ ?_) | (refine' ev_gt ?_ ?_) | (refine' ev_ge ?_ ?_)
  | (refine' ev_lenA ?_) | (refine' ev_in ?_ ?_) | (refine' ev_nin ?_ ?_)
  | (refine' ev_jx0 ?_) | (refine' ev_jx1 ?_) | (refine' ev_jx2 ?_) | (refine' ev_ix0 ?_) | (refine' ev_ix1 ?_)
  | (refine ev_chain_lelt ?_ ?_ ?_) | (refine ev_chain_lele ?_ ?_ ?_)
  | (refine' et_r ?_) | (refine' et_b ?_) | (refine' et_not ?_) | (refine' et_and ?_ fun _ => ?_) | (refine' et_or ?_ fun _ => ?_)
  | (refine' ev_pow ?_ ?_ ⟨by decide, by decide, by decide⟩)
  | (refine' ev_t2 ?_ ?_) | (refine' ev_t3 ?_ ?_ ?_)
  | exact et_yes)

section
variable {P : Program} {w : World} {K : PySem.W.Frag} {mg : Str → Option Value} {base : Heap}
abbrev SpReached : Sp := FnN2 rStepsD (rList rInt) rCameD (fun st ss => StepsOk st ∧ ss.Nodup ∧ ∀ k ∈ ss, k ∈ keysD st) CameR
theorem ok_reached (T : Txt K mg) : FnOk P w K mg base CX0 1 T.d_reached.f T.d_reached.fd ["steps", "starts"] SpReached := by
  refine T.d_reached.F.ok sc_d_reached (fun vs H Q E h => ?_) (fun cdv A outer s H vs Q E hr h => ?_)
  · obtain ⟨G, v, w, x, y, rfl, _⟩ := h; rfl
  · obtain ⟨G, v, u, steps, ss, rfl, gh, h1, h2, ⟨ok, nd, hs⟩, k⟩ := h
    have hu := hu_of hr
    have i0 := CameI.init nd hs
    have b0 : ss.length ≤ 1000 := by
      have := i0.len
      have := ok.n
      simp at *
      omega
    refine ⟨_, (pss_cons (ps_setDc (i := 2) (own := [("place", 7)]) (g := gName 7) rfl sc_d_reached.nd rfl rfl (swD rfl rfl rfl (by decide +kernel)) (kPiList K (pv 1)) (blkOk_by (N := n_d_reached) (sc := defScope s_d_reached) (by decide +kernel)) (fun _ _ _ _ _ => (pg_name (i := 7) sc_d_reached.nd rfl (.inl rfl))) (fun _ _ _ _ _ => pts_nil) (fun _ _ _ _ _ => (pv 7)) (fun _ _ _ _ _ => pe_non))
      (pss_cons (ps_set (i := 3) sc_d_reached.nd rfl (.inl rfl) (pe_callTy (kList K) (by rfl) T.z_list PyProof.Rows.boot_list (pa_cons (pv 1) pa_nil)))
      (pss_cons (ps_set (i := 4) sc_d_reached.nd rfl (.inl rfl) pe_int)
      (pss_cons (ps_while PassesOwn.never (pt_cmpR op_lt (pv 4) (pe_callB (kLen K) (by rfl) T.z_len PySem.boot_len (pa_cons (pv 3) pa_nil)) (nomark _)) (pss_cons (ps_set (i := 5) sc_d_reached.nd rfl (.inl rfl) (pe_ix (kIx K) (pv 3) (pv 4) (fun _ _ => rfl)))
      (pss_cons (ps_for PassesOwn.never rfl (kPiList K (pe_dget hu (pv 0) (pv 5) (fun _ _ => rfl))) (kTupT K rfl (pgs_cons (pg_name (i := 6) sc_d_reached.nd rfl (.inl rfl)) (pgs_cons (pg_name (i := 7) sc_d_reached.nd rfl (.inl rfl)) pgs_nil))) (pss_one (ps_if (pt_cmp (pc_dnotin hu (pv 7) (pv 2))) (pss_cons (ps_dput hu (pv 2) (pv 7) (pe_tup (pa_cons (pv 6) (pa_cons (pv 5) pa_nil))) rfl)
      (pss_one (ps_expr (kBm K PySem.F.plainAttrs_list PySem.F.slot_list_append PySem.F.type_list_append mt_append (pv 3) (pa_cons (pv 7) pa_nil))))) pss_nil)))
      (pss_one (ps_aug (i := 4) sc_d_reached.nd rfl (.inl rfl) pe_int ip_add)))))
      (pss_one (ps_ret (pv 2))))))), ?_⟩
    refine q_asgOD (W := Wd.in G H gh) (r := rOpt rPr) (eod_dc (r := rInt) (s := rOpt rPr) (fun x => x) (fun _ => none) (ev_var rfl h2) (by omega) (by simpa using nd) (fun _ => rfl) (fun i x v W1 l hx hv => ev_var rfl hv) (fun i x v W1 l hx hv => ev_nonO)) fun pc W l f1 o1 => ?_
    walk_at "up"
    refine q_asgO (eo_list (ev_var rfl h2)) fun pq W l f2 o2 => ?_
    have ne : pc ≠ pq := o1.ne f2
    walk_at "up"
    refine q_asg (r := rInt) ev_int fun v4 W l e4 => ?_
    cases e4
    walk_at "up"
    refine q_while (fun m σ W => ∃ zs k5 k6 k7, ∃ at_ : Nat, σ = [some v, some u, some (.ref pc), some (.ref pq), some (.int at_), k5, k6, k7] ∧ OwnD W pc (rOpt rPr) zs ∧ OwnL W pq rInt (keysD zs) ∧ CameI steps ss zs ∧ Clo steps zs at_ ∧ at_ ≤ zs.length ∧ m = 1000 - at_) (m0 := 1000) ⟨_, none, none, none, 0, rfl, o1, by rw [keys_starts]; exact o2, i0, fun i b st x hi => absurd hi (Nat.not_lt_zero _), Nat.zero_le _, rfl⟩ ?_
    rintro m σ W lw ⟨zs, k5, k6, k7, at_, rfl, o1, o2, ci, cl, ha, rfl⟩
    have l := lw
    walk_at "up"
    have hz := ci.len
    have hn := ok.n
    have kl : (keysD zs).length = zs.length := by simp [keysD]
    refine ⟨decide ((at_ : Int) < ((keysD zs).length : Nat)), lentB o2 fun W' kp hr => by walk_at "ev", fun hb W1 l1 => ?_, fun hb W1 l1 => ?_⟩
    · have hb : at_ < zs.length := by
        have := of_decide_eq_true hb
        omega
      have l := l1
      walk_at "up"
      obtain ⟨b, hbb⟩ : ∃ b, (keysD zs)[at_]? = some b := ⟨_, List.getElem?_eq_getElem (by omega)⟩
      have hbm := List.mem_of_getElem? hbb
      obtain ⟨st, hst⟩ := dlook_isSome.mp (ci.ks b hbm)
      refine q_asg (r := rInt) (x := b) (lentR flat_int o2 fun W' kp hr => ev_ixL (ev_var rfl hr) (ev_var rfl rfl) ⟨by omega, by simpa using hbb⟩) fun v5 W l3 e5 => ?_
      cases e5
      have l := l3
      walk_at "up"
      refine q_forL (r := rPr) (xs := st) (ev_dget (ev_var rfl h1) (ev_var rfl rfl) hst) fun W l2 => ?_
      have l := l2
      walk_at "up"
      refine ⟨fun i σ W => ∃ zs' k6 k7, σ = [some v, some u, some (.ref pc), some (.ref pq), some (.int at_), some (.int b), k6, k7] ∧ OwnD W pc (rOpt rPr) zs' ∧ OwnL W pq rInt (keysD zs') ∧ CameI steps ss zs' ∧ Clo steps zs' at_ ∧ (∃ ys, zs' = zs ++ ys) ∧ ∀ x ∈ st.take i, x.2 ∈ keysD zs', ⟨zs, k6, k7, rfl, o1, o2, ci, cl, ⟨[], by simp⟩, by simp⟩, ?_, ?_⟩
      · rintro i x y σ W l hi hv ⟨zs', k6', k7', rfl, o1, o2, ci', cl', ⟨ys, hys⟩, ht⟩
        refine g_t2 (W := W) hv fun u1 u2 e1 e2 => ?_
        cases e1; cases e2
        walk_at "up"
        have hxm := List.mem_of_getElem? hi
        have hz' := ci'.len
        have bm : b ∈ keysD zs' := by rw [hys]; simp only [keysD, List.map_append]; exact List.mem_append_left _ hbm
        have lz : at_ ≤ zs'.length := by rw [hys, List.length_append]; omega
        refine s_when (W := W) (b := !(dlook zs' x.2).isSome) (et_b (ev_ndnin (ev_var rfl rfl) rfl o1)) (fun hb W1 l1 => ?_) (fun hb W1 l1 => ?_)
        · have hq : x.2 ∉ keysD zs' := by
            intro hm
            obtain ⟨v, e⟩ := dlook_isSome.mp hm
            rw [e] at hb
            exact absurd hb (by simp)
          have o1' := o1.up l1
          have o2' := o2.up l1
          refine q_dput (W := W1) (r := rOpt rPr) (x := some (x.1, b)) rfl o1' (ev_var rfl rfl) (ev_some (ev_t2 (ev_var rfl rfl) (ev_var rfl rfl))) (by omega) fun W2 kp2 o1' => ?_
          rw [dput_new (dlook_none.mpr hq)] at o1'
          refine s_app (W := W2) rfl (o2'.kp kp2 ne.symm) (ev_var rfl rfl) (by rw [show (keysD zs').length = zs'.length by simp [keysD]]; omega) fun W3 kp3 o2' => ?_
          refine ⟨W3, rfl, ⟨l.ex.trans (l1.ex.trans (kp2.ex.trans kp3.ex))⟩, _, _, _, rfl, o1'.kp kp3 ne, by rw [keys_app]; exact o2', ci'.add bm hst hxm hq (ok.t b st x hst hxm), cl'.add lz, ⟨ys ++ [(x.2, some (x.1, b))], by rw [hys]; simp⟩, ?_⟩
          intro y hy
          rw [List.take_add_one, hi, List.mem_append] at hy
          rw [keys_app, List.mem_append, List.mem_singleton]
          rcases hy with hy | hy
          · exact .inl (ht y hy)
          · exact .inr (by rw [List.mem_singleton.mp hy])
        · refine ⟨W1, rfl, ⟨l.ex.trans l1.ex⟩, _, _, _, rfl, o1.up l1, o2.up l1, ci', cl', ⟨ys, hys⟩, ?_⟩
          intro y hy
          rw [List.take_add_one, hi, List.mem_append] at hy
          rcases hy with hy | hy
          · exact ht y hy
          · rw [List.mem_singleton.mp hy]
            refine dlook_isSome.mpr ?_
            cases e : dlook zs' x.2 with
            | some v => exact ⟨v, rfl⟩
            | none => rw [e] at hb; exact absurd hb (by simp)
      · rintro σ W l4 ⟨zs', k6', k7', rfl, o1, o2, ci', cl', ⟨ys, hys⟩, ht⟩
        rw [List.take_length] at ht
        refine s_augI (b := 1) rfl ev_int fun W1 l5 => ?_
        refine ⟨W1, rfl, ⟨lw.ex.trans (l1.ex.trans (l3.ex.trans (l2.ex.trans (l4.ex.trans l5.ex))))⟩, 1000 - (at_ + 1), by omega, zs', _, _, _, at_ + 1, rfl, o1.up l5, o2.up l5, ci', ?_, by rw [hys, List.length_append]; omega, rfl⟩
        · intro i b' st' x hi hb' hs' hx
          by_cases e : i < at_
          · exact cl' i b' st' x e hb' hs' hx
          · have e : i = at_ := by omega
            subst e
            have : b' = b := by
              rw [hys] at hb'
              simp only [keysD, List.map_append] at hb'
              rw [List.getElem?_append_left (by simpa using hb)] at hb'
              have := hb'.symm.trans hbb
              exact Option.some.inj this
            subst this
            rw [hst] at hs'
            cases hs'
            exact ht x hx
    · have hb : at_ = zs.length := by
        have := of_decide_eq_false hb
        omega
      subst hb
      have l := l1
      walk_at "up"
      obtain ⟨W2, e2, kp, r2⟩ := o1.fz
      rw [← e2]
      exact s_ret (r := rCameD) (ev_var rfl r2) fun v W3 hv => k v W3 zs hv (cl.done ci)
end
end Q

namespace Q
open PySem L2
local macro_rules | `(tactic| walk_at "up") => do
  let l := Lean.mkIdent `l
  let mut ts : Array (Lean.TSyntax `tactic) := #[]
  for i in [1, 2, 3, 4, 5, 6, 7, 8, 9, 10, 11, 12, 13, 14, 15, 16] do
    let h := Lean.mkIdent (Lean.Name.mkSimple s!"h{i}")
    ts := ts.push (← `(tactic| try replace $h:ident := Rp.up (Le.ex $l) $h))
    ts := ts.push (← `(tactic| try replace $h:ident := Rp.up (Wk.ex $l) $h))
    ts := ts.push (← `(tactic| try replace $h:ident := Rp.up (Kp.ex $l) $h))
  for i in [1, 2, 3, 4] do
    let h := Lean.mkIdent (Lean.Name.mkSimple s!"o{i}")
    ts := ts.push (← `(tactic| try replace $h:ident := OwnL.up $l $h))
    ts := ts.push (← `(tactic| try replace $h:ident := OwnD.up $l $h))
  `(tactic| ($[$ts:tactic];*))
local macro_rules | `(tactic| walk_at "cm") => `(tactic| first | exact Or.inl ⟨by omega, by omega⟩ | exact Or.inr ⟨by omega, by omega⟩)
local macro_rules | `(tactic| walk_at "ev") => `(tactic| repeat' first
  | exact ev_var rfl (by first | assumption | rfl)
  | exact ev_int | exact ev_bl | exact ev_str | exact ev_non
  | (refine' ev_addA ?_ ?_) | (refine' ev_sub ?_ ?_)
  | (refine' ev_mulA ?_ ?_ ?_; rotate_left 2; walk_at "cm")
  | (refine' ev_mod ?_ ?_ ?_; rotate_left 2; omega)
  | (refine' ev_lt ?_ ?_) | (refine' ev_le ?_ ?_) | (refine' ev_gt ?_ ?_) | (refine' ev_ge ?_ ?_)
  | (refine' ev_lenA ?_) | (refine' ev_in ?_ ?_) | (refine' ev_nin ?_ ?_)
  | (refine' ev_jx0 ?_) | (refine' ev_jx1 ?_) | (refine' ev_jx2 ?_) | (refine' ev_ix0 ?_) | (refine' ev_ix1 ?_)
  | (refine ev_chain_lelt ?_ ?_ ?_) | (refine ev_chain_lele ?_ ?_ ?_)
  | (refine' et_r ?_) | (refine' et_b ?_) | (refine' et_not ?_) | (refine' et_and ?_ fun _ => ?_) | (refine' et_or ?_ fun _ => ?_)
  | (refine' ev_pow ?_ ?_ ⟨by decide, by decide, by decide⟩)
  | (refine' ev_t2 ?_ ?_) | (refine' ev_t3 ?_ ?_ ?_)
  | exact et_yes)

section
variable {P : Program} {w : World} {K : PySem.W.Frag} {mg : Str → Option Value} {base : Heap}
abbrev SpWhole (C : Addr) : Sp := Fn2 (rNet C) (rList rInt) (rList rInt) (fun n b => n.lines.length ≤ 10) (fun n b => (rg n.lines.length).filter fun l => !decide (l ∈ b))
theorem ok_whole_lines (T : Txt K mg) : FnOk P w K mg base CX0 2 T.d_whole_lines.f T.d_whole_lines.fd ["net", "broken"] (SpWhole T.C_Net) := by
  have G_m_Net_lines : FnOk P w K mg base CX0 1 T.m_Net_lines.f T.m_Net_lines.fd ["self"] (SpLines T.C_Net) := ok_lines T
  refine T.d_whole_lines.F.ok sc_d_whole_lines (fun vs H Q E h => ?_) (fun cdv A outer s H vs Q E hr h => ?_)
  · obtain ⟨G, v, w, x, y, rfl, _⟩ := h; rfl
  · obtain ⟨G, v, u, n, b, rfl, gh, h1, h2, hl, k⟩ := h
    have hu := hu_of hr
    refine ⟨_, (pss_one (ps_ret (pe_lc (own := [("line", 2)]) (g := gName 2) (by rfl) sc_d_whole_lines.nd  (pi_range1 (by rfl) T.z_range (pa_cons (pe_callB (kLen K) (by rfl) T.z_len PySem.boot_len (pa_cons (pe_meth0 (pv 0) T.l_Net T.m_Net_lines.M G_m_Net_lines (hr.mono (by decide)) T.m_Net_lines.b .nil pass0) pa_nil)) pa_nil)) (blkOk_by (N := n_d_whole_lines) (sc := defScope s_d_whole_lines) (by decide +kernel)) (fun _ _ _ _ _ => (pg_name (i := 2) sc_d_whole_lines.nd rfl (.inl rfl))) (fun _ _ _ _ _ => (pts_one (pt_cmpR (kNotIn K) (pv 2) (pv 1) (by rfl)))) (fun _ _ _ _ _ => (pv 2))))), ?_⟩
    refine s_ret (W := Wd.in G H gh) (r := rList rInt) (EvO.fz (eo_lcR (s := rInt) (n := ((n.lines.length : Nat) : Int)) (fun l => !decide (l ∈ b)) (fun l => l) (ev_lenA (r := rLine) (ev_meth0 nL1 nL2 nL3 (ev_var rfl h1) trivial)) (by omega) (fun _ => rfl) (fun m W1 l a1 a2 => ?_) (fun m W1 l a1 a2 _ => ev_var rfl rfl))) fun v W e => k v W (by simpa using e)
    walk_at "up"
    exact et_r (ev_nin (ev_var rfl rfl) (ev_var rfl h2))
end
end Q

namespace Q
open PySem L2
local macro_rules | `(tactic| walk_at "up") => do
  let l := Lean.mkIdent `l
  let mut ts : Array (Lean.TSyntax `tactic) := #[]
  for i in [1, 2, 3, 4, 5, 6, 7, 8, 9, 10, 11, 12, 13, 14, 15, 16] do
    let h := Lean.mkIdent (Lean.Name.mkSimple s!"h{i}")
    ts := ts.push (← `(tactic| try replace $h:ident := Rp.up (Le.ex $l) $h))
    ts := ts.push (← `(tactic| try replace $h:ident := Rp.up (Wk.ex $l) $h))
    ts := ts.push (← `(tactic| try replace $h:ident := Rp.up (Kp.ex $l) $h))
  for i in [1, 2, 3, 4] do
    let h := Lean.mkIdent (Lean.Name.mkSimple s!"o{i}")
    ts := ts.push (← `(tactic| try replace $h:ident := OwnL.up $l $h))
    ts := ts.push (← `(tactic| try replace $h:ident := OwnD.up $l $h))
  `(tactic| ($[$ts:tactic];*))
local macro_rules | `(tactic| walk_at "cm") => `(tactic| first | exact Or.inl ⟨by omega, by omega⟩ | exact Or.inr ⟨by omega, by omega⟩)
local macro_rules | `(tactic| walk_at "ev") => `(tactic| repeat' first
  | exact ev_var rfl (by first | assumption | rfl)
  | exact ev_int | exact ev_bl | exact ev_str | exact ev_non
  | (refine' ev_addA ?_ ?_) | (refine' ev_sub ?_ ?_)
  | (refine' ev_mulA ?_ ?_ ?_; rotate_left 2; walk_at "cm")
  | (refine' ev_mod ?_ ?_ ?_; rotate_left 2; omega)
  | (refine' ev_lt ?_ ?_) | (refine' ev_le ?_ ?_) | (refine' ev_gt ?_ ?_) | (refine' ev_ge ?_ ?_)
  | (refine' ev_lenA ?_) | (refine' ev_in ?_ ?_) | (refine' ev_nin ?_ ?_)
  | (refine' ev_jx0 ?_) | (refine' ev_jx1 ?_) | (refine' ev_jx2 ?_) | (refine' ev_ix0 ?_) | (refine' ev_ix1 ?_)
  | (refine ev_chain_lelt ?_ ?_ ?_) | (refine ev_chain_lele ?_ ?_ ?_)
  | (refine' et_r ?_) | (refine' et_b ?_) | (refine' et_not ?_) | (refine' et_and ?_ fun _ => ?_) | (refine' et_or ?_ fun _ => ?_)
  | (refine' ev_pow ?_ ?_ ⟨by decide, by decide, by decide⟩)
  | (refine' ev_t2 ?_ ?_) | (refine' ev_t3 ?_ ?_ ?_)
  | exact et_yes)

section
variable {P : Program} {w : World} {K : PySem.W.Frag} {mg : Str → Option Value} {base : Heap}
/-- a net that the defs may be asked about -/
structure NetG (n : NetD) : Prop where
  l : LinesOk n.needs.length n.lines
  s1 : n.sources.Nodup
  s2 : ∀ x ∈ n.sources, 0 ≤ x ∧ x < (n.needs.length : Int)
end
end Q

namespace Q
open PySem L2
local macro_rules | `(tactic| walk_at "up") => do
  let l := Lean.mkIdent `l
  let mut ts : Array (Lean.TSyntax `tactic) := #[]
  for i in [1, 2, 3, 4, 5, 6, 7, 8, 9, 10, 11, 12, 13, 14, 15, 16] do
    let h := Lean.mkIdent (Lean.Name.mkSimple s!"h{i}")
    ts := ts.push (← `(tactic| try replace $h:ident := Rp.up (Le.ex $l) $h))
    ts := ts.push (← `(tactic| try replace $h:ident := Rp.up (Wk.ex $l) $h))
    ts := ts.push (← `(tactic| try replace $h:ident := Rp.up (Kp.ex $l) $h))
  for i in [1, 2, 3, 4] do
    let h := Lean.mkIdent (Lean.Name.mkSimple s!"o{i}")
    ts := ts.push (← `(tactic| try replace $h:ident := OwnL.up $l $h))
    ts := ts.push (← `(tactic| try replace $h:ident := OwnD.up $l $h))
  `(tactic| ($[$ts:tactic];*))
local macro_rules | `(tactic| walk_at "cm") => `(tactic| first | exact Or.inl ⟨by omega, by omega⟩ | exact Or.inr ⟨by omega, by omega⟩)
local macro_rules | `(tactic| walk_at "ev") => `(tactic| repeat' first
  | exact ev_var rfl (by first | assumption | rfl)
  | exact ev_int | exact ev_bl | exact ev_str | exact ev_non
  | (refine' ev_addA ?_ ?_) | (refine' ev_sub ?_ ?_)
  | (refine' ev_mulA ?_ ?_ ?_; rotate_left 2; walk_at "cm")
  | (refine' ev_mod ?_ ?_ ?_; rotate_left 2; omega)
  | (refine' ev_lt ?_ ?_) | (refine' ev_le ?_ ?_) | (refine' ev_gt ?_ ?_) | (refine' ev_ge ?_ ?_)
  | (refine' ev_lenA ?_) | (refine' ev_in ?_ ?_) | (refine' ev_nin ?_ ?_)
  | (refine' ev_jx0 ?_) | (refine' ev_jx1 ?_) | (refine' ev_jx2 ?_) | (refine' ev_ix0 ?_) | (refine' ev_ix1 ?_)
  | (refine ev_chain_lelt ?_ ?_ ?_) | (refine ev_chain_lele ?_ ?_ ?_)
  | (refine' et_r ?_) | (refine' et_b ?_) | (refine' et_not ?_) | (refine' et_and ?_ fun _ => ?_) | (refine' et_or ?_ fun _ => ?_)
  | (refine' ev_pow ?_ ?_ ⟨by decide, by decide, by decide⟩)
  | (refine' ev_t2 ?_ ?_) | (refine' ev_t3 ?_ ?_ ?_)
  | exact et_yes)

section
variable {P : Program} {w : World} {K : PySem.W.Frag} {mg : Str → Option Value} {base : Heap}
def spLaw (K : PySem.W.Frag) : Sp := fun vs H Q _ => ∃ (a : Addr) (ns : List Int), vs = [.ref a] ∧ SqL K H a (ns.map V.int) ∧ ns.length ≤ 63 ∧ ∀ H', Q (.bl true) H'
theorem rows_lines {a b : Int} {n : Rows} (h : RowsOk a b n) (ha : a ≤ 10) (hb : b ≤ 10) : LinesOk n.1.length n.2.2 := ⟨h.n1.1, by have := h.n1.2; omega, by have := h.l1; omega, fun x hx => let ⟨p, q, r, _⟩ := h.l2 x hx; ⟨p, q, r⟩⟩
theorem rows_net {a b : Int} {n : Rows} (h : RowsOk a b n) (ha : a ≤ 10) (hb : b ≤ 10) : NetOk n.1 n.2.1 n.2.2 := ⟨⟨h.n1.1, by have := h.n1.2; omega⟩, h.n2, h.s1, h.s2, by have := h.l1; omega, h.l2⟩
theorem rows_src {a b : Int} {n : Rows} (h : RowsOk a b n) (ha : a ≤ 10) : n.2.1.length ≤ 10 := by
  have := nodup_len h.s1 h.s2
  have := h.n1.2
  omega
theorem net_g {a b : Int} {n : Rows} {m : NetD} (h : RowsOk a b n) (ha : a ≤ 10) (hb : b ≤ 10) (e1 : m.needs = n.1) (e2 : m.lines = n.2.2) (e3 : m.sources.Perm n.2.1) : NetG m := by
  refine ⟨?_, ?_, ?_⟩
  · rw [e1, e2]; exact rows_lines h ha hb
  · exact e3.nodup_iff.mpr h.s1
  · intro x hx
    rw [e1]
    exact h.s2 x (e3.mem_iff.mp hx)
end
end Q

namespace Q
open PySem L2
local macro_rules | `(tactic| walk_at "up") => do
  let l := Lean.mkIdent `l
  let mut ts : Array (Lean.TSyntax `tactic) := #[]
  for i in [1, 2, 3, 4, 5, 6, 7, 8, 9, 10, 11, 12, 13, 14, 15, 16] do
    let h := Lean.mkIdent (Lean.Name.mkSimple s!"h{i}")
    ts := ts.push (← `(tactic| try replace $h:ident := Rp.up (Le.ex $l) $h))
    ts := ts.push (← `(tactic| try replace $h:ident := Rp.up (Wk.ex $l) $h))
    ts := ts.push (← `(tactic| try replace $h:ident := Rp.up (Kp.ex $l) $h))
  for i in [1, 2, 3, 4] do
    let h := Lean.mkIdent (Lean.Name.mkSimple s!"o{i}")
    ts := ts.push (← `(tactic| try replace $h:ident := OwnL.up $l $h))
    ts := ts.push (← `(tactic| try replace $h:ident := OwnD.up $l $h))
  `(tactic| ($[$ts:tactic];*))
local macro_rules | `(tactic| walk_at "cm") => `(tactic| first | exact Or.inl ⟨by omega, by omega⟩ | exact Or.inr ⟨by omega, by omega⟩)
local macro_rules | `(tactic| walk_at "ev") => `(tactic| repeat' first
  | exact ev_var rfl (by first | assumption | rfl)
  | exact ev_int | exact ev_bl | exact ev_str | exact ev_non
  | (refine' ev_addA ?_ ?_) | (refine' ev_sub ?_ ?_)
  | (refine' ev_mulA ?_ ?_ ?_; rotate_left 2; walk_at "cm")
  | (refine' ev_mod ?_ ?_ ?_; rotate_left 2; omega)
  | (refine' ev_lt ?_ ?_) | (refine' ev_le ?_ ?_) | (refine' ev_gt ?_ ?_) | (refine' ev_ge ?_ ?_)
  | (refine' ev_lenA ?_) | (refine' ev_in ?_ ?_) | (refine' ev_nin ?_ ?_)
  | (refine' ev_jx0 ?_) | (refine' ev_jx1 ?_) | (refine' ev_jx2 ?_) | (refine' ev_ix0 ?_) | (refine' ev_ix1 ?_)
  | (refine ev_chain_lelt ?_ ?_ ?_) | (refine ev_chain_lele ?_ ?_ ?_)
  | (refine' et_r ?_) | (refine' et_b ?_) | (refine' et_not ?_) | (refine' et_and ?_ fun _ => ?_) | (refine' et_or ?_ fun _ => ?_)
  | (refine' ev_pow ?_ ?_ ⟨by decide, by decide, by decide⟩)
  | (refine' ev_t2 ?_ ?_) | (refine' ev_t3 ?_ ?_ ?_)
  | exact et_yes)

section
variable {P : Program} {w : World} {K : PySem.W.Frag} {mg : Str → Option Value} {base : Heap}
abbrev ledN (n : NetD) (b : List Int) : List Int := ledM n.needs.length n.lines (wholeM n.lines.length b) n.sources
theorem net_led {n : Rows} {m : NetD} {b : List Int} (e1 : m.needs = n.1) (e2 : m.lines = n.2.2) (e3 : m.sources.Perm n.2.1) : ledN m b = ledM n.1.length n.2.2 (wholeM n.2.2.length b) n.2.1 := by
  unfold ledN
  rw [e1, e2]
  exact ledM_perm fun _ => e3.mem_iff
abbrev SpKept (C : Addr) : Sp := FnN2 (rNet C) (rList rInt) (rList rInt) (fun n b => NetG n) (fun n b zs => zs.length = (ledN n b).length)
theorem ok_kept_places (T : Txt K mg) : FnOk P w K mg base CX0 3 T.d_kept_places.f T.d_kept_places.fd ["net", "broken"] (SpKept T.C_Net) := by
  have G_m_Net_sources : FnOk P w K mg base CX0 1 T.m_Net_sources.f T.m_Net_sources.fd ["self"] (SpSources T.C_Net) := ok_sources T
  have G_d_reached : FnOk P w K mg base CX0 1 T.d_reached.f T.d_reached.fd ["steps", "starts"] SpReached := ok_reached T
  have G_d_steps_over : FnOk P w K mg base CX0 2 T.d_steps_over.f T.d_steps_over.fd ["net", "numbers"] (SpSteps T.C_Net) := ok_steps_over T
  have G_d_whole_lines : FnOk P w K mg base CX0 2 T.d_whole_lines.f T.d_whole_lines.fd ["net", "broken"] (SpWhole T.C_Net) := ok_whole_lines T
  refine T.d_kept_places.F.ok sc_d_kept_places (fun vs H Q E h => ?_) (fun cdv A outer s H vs Q E hr h => ?_)
  · obtain ⟨G, v, w, x, y, rfl, _⟩ := h; rfl
  · obtain ⟨G, v, u, n, b, rfl, gh, h1, h2, ok, k⟩ := h
    have hu := hu_of hr
    refine ⟨_, (pss_one (ps_ret (pe_callTy (call_list_dK rfl) (by rfl) T.z_list PyProof.Rows.boot_list (pa_cons (pe_call G_d_reached (hr.mono (by decide)) (by rfl) T.d_reached.m T.d_reached.F.kp T.d_reached.b .nil pass0 (pa_cons (pe_call G_d_steps_over (hr.mono (by decide)) (by rfl) T.d_steps_over.m T.d_steps_over.F.kp T.d_steps_over.b .nil pass0 (pa_cons (pv 0) (pa_cons (pe_call G_d_whole_lines (hr.mono (by decide)) (by rfl) T.d_whole_lines.m T.d_whole_lines.F.kp T.d_whole_lines.b .nil pass0 (pa_cons (pv 0) (pa_cons (pv 1) pa_nil))) pa_nil))) (pa_cons (pe_meth0 (pv 0) T.l_Net T.m_Net_sources.M G_m_Net_sources (hr.mono (by decide)) T.m_Net_sources.b .nil pass0) pa_nil))) pa_nil)))), ?_⟩
    have wl : (wholeM n.lines.length b).length ≤ 1000 := Nat.le_trans wholeM_len (by have := ok.l.l1; omega)
    refine s_retN (W := Wd.in G H gh) (r := rList rInt) (EvON.fz (eon_keys (ev_callN2 (r := rStepsD) (s := rList rInt) (t := rCameD) (x := stepsM n.needs.length n.lines (wholeM n.lines.length b)) (y := n.sources) (ev_steps (ev_var rfl h1) (ev_call2 (r := rNet T.C_Net) (s := rList rInt) (t := rList rInt) (ev_var rfl h1) (ev_var rfl h2) ok.l.l1) ok.l wholeM_nums wl) (ev_meth0 nS1 nS2 nS3 (ev_var rfl h1) trivial) ⟨stepsM_ok ok.l wholeM_nums, ok.s1, fun x hx => by rw [stepsM_keys, mem_rg]; exact ok.s2 x hx⟩))) fun v W zs e hz => k v W zs e ?_
    obtain ⟨xs, hc, rfl⟩ := hz
    exact nodup_len_eq hc.i.nd ledM_nodup (reached_led ok.l wholeM_nums ok.s2 hc)
abbrev SpKeeps (C : Addr) : Sp := Fn2 (rNet C) (rList rInt) rBool (fun n b => NetG n) (fun n b => decide ((ledN n b).length = n.needs.length))
theorem ok_keeps (T : Txt K mg) : FnOk P w K mg base CX0 4 T.d_keeps.f T.d_keeps.fd ["net", "broken"] (SpKeeps T.C_Net) := by
  have G_m_Net_places : FnOk P w K mg base CX0 1 T.m_Net_places.f T.m_Net_places.fd ["self"] (SpPlaces T.C_Net) := ok_places T
  have G_d_kept_places : FnOk P w K mg base CX0 3 T.d_kept_places.f T.d_kept_places.fd ["net", "broken"] (SpKept T.C_Net) := ok_kept_places T
  refine T.d_keeps.F.ok sc_d_keeps (fun vs H Q E h => ?_) (fun cdv A outer s H vs Q E hr h => ?_)
  · obtain ⟨G, v, w, x, y, rfl, _⟩ := h; rfl
  · obtain ⟨G, v, u, n, b, rfl, gh, h1, h2, ok, k⟩ := h
    have hu := hu_of hr
    refine ⟨_, (pss_one (ps_ret (pe_cmpR (kEq K hr.units) (pe_callB (kLen K) (by rfl) T.z_len PySem.boot_len (pa_cons (pe_call G_d_kept_places (hr.mono (by decide)) (by rfl) T.d_kept_places.m T.d_kept_places.F.kp T.d_kept_places.b .nil pass0 (pa_cons (pv 0) (pa_cons (pv 1) pa_nil))) pa_nil)) (pe_callB (kLen K) (by rfl) T.z_len PySem.boot_len (pa_cons (pe_meth0 (pv 0) T.l_Net T.m_Net_places.M G_m_Net_places (hr.mono (by decide)) T.m_Net_places.b .nil pass0) pa_nil)) (nomark _)))), ?_⟩
    refine s_retN (W := Wd.in G H gh) (r := rBool) (P := fun c => c = decide ((ledN n b).length = n.needs.length)) (ev_eqN (P := fun m => m = ((ledN n b).length : Nat)) (P' := fun m => m = (n.needs.length : Nat)) (ev_lenAN (ev_callN2 (r := rNet T.C_Net) (s := rList rInt) (t := rList rInt) (ev_var rfl h1) (ev_var rfl h2) ok) (fun zs hz => by rw [hz])) ((ev_lenA (r := rInt) (ev_meth0 nP1 nP2 nP3 (ev_var rfl h1) (by have := ok.l.n2; omega))).n.imp fun m e => by rw [e, rg_len]; simp) (fun x y e1 e2 => by rw [e1, e2]; apply decide_eq_decide.mpr; omega)) fun v W c e hc => k v W (by rw [hc] at e; exact e)
def weakM (n : NetD) (b : List Int) : List Int := (wholeM n.lines.length b).filter fun l => decide ((ledN n (b ++ [l])).length < (ledN n b).length)
abbrev SpWeak (C : Addr) : Sp := Fn2 (rNet C) (rList rInt) (rList rInt) (fun n b => NetG n ∧ b.length ≤ 1000) weakM
theorem ok_weak (T : Txt K mg) : FnOk P w K mg base CX0 4 T.d_weak.f T.d_weak.fd ["net", "broken"] (SpWeak T.C_Net) := by
  have G_d_kept_places : FnOk P w K mg base CX0 3 T.d_kept_places.f T.d_kept_places.fd ["net", "broken"] (SpKept T.C_Net) := ok_kept_places T
  have G_d_whole_lines : FnOk P w K mg base CX0 2 T.d_whole_lines.f T.d_whole_lines.fd ["net", "broken"] (SpWhole T.C_Net) := ok_whole_lines T
  refine T.d_weak.F.ok sc_d_weak (fun vs H Q E h => ?_) (fun cdv A outer s H vs Q E hr h => ?_)
  · obtain ⟨G, v, w, x, y, rfl, _⟩ := h; rfl
  · obtain ⟨G, v, u, n, b, rfl, gh, h1, h2, ⟨ok, bl⟩, k⟩ := h
    have hu := hu_of hr
    refine ⟨_, (pss_cons (ps_set (i := 2) sc_d_weak.nd rfl (.inr rfl) (pe_callB (kLen K) (by rfl) T.z_len PySem.boot_len (pa_cons (pe_call G_d_kept_places (hr.mono (by decide)) (by rfl) T.d_kept_places.m T.d_kept_places.F.kp T.d_kept_places.b .nil pass0 (pa_cons (pv 0) (pa_cons (pv 1) pa_nil))) pa_nil)))
      (pss_one (ps_ret (pe_lc (own := [("line", 3)]) (g := gName 3) (by rfl) sc_d_weak.nd  (kPiList K (pe_call G_d_whole_lines (hr.mono (by decide)) (by rfl) T.d_whole_lines.m T.d_whole_lines.F.kp T.d_whole_lines.b .nil pass0 (pa_cons (pv 0) (pa_cons (pv 1) pa_nil)))) (blkOk_by (N := n_d_weak) (sc := defScope s_d_weak) (by decide +kernel)) (fun _ _ _ _ _ => (pg_name (i := 3) sc_d_weak.nd rfl (.inl rfl))) (fun _ _ _ _ _ => (pts_one (pt_cmpR op_lt (pe_callB (kLen K) (by rfl) T.z_len PySem.boot_len (pa_cons (pe_call G_d_kept_places (hr.mono (by decide)) (by rfl) T.d_kept_places.m T.d_kept_places.F.kp T.d_kept_places.b .nil pass0 (pa_cons (pv 0) (pa_cons (pe_op op_addA (pv 1) (pe_lst (pa_cons (pv 3) pa_nil))) pa_nil))) pa_nil)) (pv 2) (nomark _)))) (fun _ _ _ _ _ => (pv 3)))))), ?_⟩
    refine q_asgN (W := Wd.in G H gh) (r := rInt) (P := fun m => m = ((ledN n b).length : Nat)) (ev_lenAN (ev_callN2 (r := rNet T.C_Net) (s := rList rInt) (t := rList rInt) (ev_var rfl h1) (ev_var rfl h2) ok) (fun zs hz => by rw [hz])) fun v3 W m l e hm => ?_
    cases e
    subst hm
    walk_at "up"
    refine s_retN (r := rList rInt) (P := fun zs => zs = weakM n b) (EvON.fz (EvON.imp (eon_lcL (r := rInt) (s := rInt) (R := fun x o => o = if decide ((ledN n (b ++ [x])).length < (ledN n b).length) then some x else none) (ev_call2 (r := rNet T.C_Net) (s := rList rInt) (t := rList rInt) (ev_var rfl h1) (ev_var rfl h2) ok.l.l1) (by have := ok.l.l1; have := wholeM_len (k := n.lines.length) (b := b); unfold wholeM at this; omega) (fun _ => rfl) (fun i x v W1 l hi e => ?_)) fun zs h => by rw [lcr_fm (g := id) h]; exact List.map_id _)) fun v W zs e hz => k v W (by rw [hz] at e; exact e)
    cases e
    walk_at "up"
    refine EvC.imp (EvC.sel (P := fun c => c = decide ((ledN n (b ++ [x])).length < (ledN n b).length)) (et_rN (ev_ltN (P := fun m => m = ((ledN n (b ++ [x])).length : Nat)) (ev_lenAN (ev_callN2 (r := rNet T.C_Net) (s := rList rInt) (t := rList rInt) (ev_var rfl h1) (EvO.fz (eo_catA (r := rInt) (ev_var rfl h2) (EvO.fz (eo_lst (el_cons (ev_var rfl rfl) el_nil) (by simp))) (by simp; omega))) ok) (fun zs hz => by rw [hz])) (EvR.n (ev_var rfl rfl)) (fun x y e1 e2 => by rw [e1, e2]; apply decide_eq_decide.mpr; omega))) (ev_var rfl rfl)) fun o ho => ?_
    rcases ho with ⟨rfl, h⟩ | ⟨rfl, h⟩ <;> rw [← h] <;> rfl
end
end Q

namespace Q
open PySem L2
local macro_rules | `(tactic| walk_at "up") => do
  let l := Lean.mkIdent `l
  let mut ts : Array (Lean.TSyntax `tactic) := #[]
  for i in [1, 2, 3, 4, 5, 6, 7, 8, 9, 10, 11, 12, 13, 14, 15, 16] do
    let h := Lean.mkIdent (Lean.Name.mkSimple s!"h{i}")
    ts := ts.push (← `(tactic| try replace $h:ident := Rp.up (Le.ex $l) $h))
    ts := ts.push (← `(tactic| try replace $h:ident := Rp.up (Wk.ex $l) $h))
    ts := ts.push (← `(tactic| try replace $h:ident := Rp.up (Kp.ex $l) $h))
  for i in [1, 2, 3, 4] do
    let h := Lean.mkIdent (Lean.Name.mkSimple s!"o{i}")
    ts := ts.push (← `(tactic| try replace $h:ident := OwnL.up $l $h))
    ts := ts.push (← `(tactic| try replace $h:ident := OwnD.up $l $h))
  `(tactic| ($[$ts:tactic];*))
local macro_rules | `(tactic| walk_at "cm") => `(tactic| first | exact Or.inl ⟨by omega, by omega⟩ | exact Or.inr ⟨by omega, by omega⟩)
local macro_rules | `(tactic| walk_at "ev") => `(tactic| repeat' first
  | exact ev_var rfl (by first | assumption | rfl)
  | exact ev_int | exact ev_bl | exact ev_str | exact ev_non
  | (refine' ev_addA ?_ ?_) | (refine' ev_sub ?_ ?_)
  | (refine' ev_mulA ?_ ?_ ?_; rotate_left 2; walk_at "cm")
  | (refine' ev_mod ?_ ?_ ?_; rotate_left 2; omega)
  | (refine' ev_lt ?_ ?_) | (refine' ev_le ?_ ?_) | (refine' ev_gt ?_ ?_) | (refine' ev_ge ?_ ?_)
  | (refine' ev_lenA ?_) | (refine' ev_in ?_ ?_) | (refine' ev_nin ?_ ?_)
  | (refine' ev_jx0 ?_) | (refine' ev_jx1 ?_) | (refine' ev_jx2 ?_) | (refine' ev_ix0 ?_) | (refine' ev_ix1 ?_)
  | (refine ev_chain_lelt ?_ ?_ ?_) | (refine ev_chain_lele ?_ ?_ ?_)
  | (refine' et_r ?_) | (refine' et_b ?_) | (refine' et_not ?_) | (refine' et_and ?_ fun _ => ?_) | (refine' et_or ?_ fun _ => ?_)
  | (refine' ev_pow ?_ ?_ ⟨by decide, by decide, by decide⟩)
  | (refine' ev_t2 ?_ ?_) | (refine' ev_t3 ?_ ?_ ?_)
  | exact et_yes)

section
variable {P : Program} {w : World} {K : PySem.W.Frag} {mg : Str → Option Value} {base : Heap}
theorem ok_way_to (T : Txt K mg) : FnOk P w K mg base CX0 1 T.d_way_to.f T.d_way_to.fd ["came", "place"] SpWayTo := by
  refine T.d_way_to.F.ok sc_d_way_to (fun vs H Q E h => ?_) (fun cdv A outer s H vs Q E hr h => ?_)
  · obtain ⟨G, v, w, x, y, rfl, _⟩ := h; rfl
  · obtain ⟨G, v, u, came, p0, rfl, gh, h1, e2, ⟨⟨steps, srcs, ci⟩, cl, hp⟩, k⟩ := h
    cases e2
    have hu := hu_of hr
    refine ⟨_, (pss_cons (ps_set (i := 2) sc_d_way_to.nd rfl (.inl rfl) (pe_lst pa_nil))
      (pss_cons (ps_while PassesOwn.never (pt_cmpR op_notN (pe_dget hu (pv 0) (pv 1) (fun _ _ => rfl)) pe_non (nomark _)) (pss_cons (ps_asg (pe_dget hu (pv 0) (pv 1) (fun _ _ => rfl)) (kTupT K rfl (pgs_cons (pg_name (i := 3) sc_d_way_to.nd rfl (.inl rfl)) (pgs_cons (pg_name (i := 1) sc_d_way_to.nd rfl (.inl rfl)) pgs_nil))))
      (pss_one (ps_expr (kBm K PySem.F.plainAttrs_list PySem.F.slot_list_append PySem.F.type_list_append mt_append (pv 2) (pa_cons (pv 3) pa_nil))))))
      (pss_one (ps_ret (kRev K (pv 2)))))), ?_⟩
    refine q_asgO (W := Wd.in G H gh) (r := rInt) (xs := []) (eo_lst el_nil (Nat.zero_le _)) fun pw W l f o1 => ?_
    walk_at "up"
    obtain ⟨i0, hi0, ei0⟩ := List.getElem_of_mem hp
    have ib : i0 < 1000 := by simp [keysD] at hi0; omega
    refine q_while (fun m σ W => ∃ q xs k3, ∃ i : Nat, σ = [some v, some (.int q), some (.ref pw), k3] ∧ OwnL W pw rInt xs ∧ (keysD came)[i]? = some q ∧ WayB came p0 xs q ∧ xs.length + i ≤ i0 ∧ m = i) (m0 := i0) ⟨p0, [], none, i0, rfl, o1, by rw [List.getElem?_eq_getElem hi0, ei0], .nil, by simp, rfl⟩ ?_
    rintro m σ W lw ⟨q, xs, k3, i, rfl, o1, hq, wb, hl, rfl⟩
    have l := lw
    walk_at "up"
    rcases ci.at hq with ⟨e, _⟩ | ⟨l', b, st, j, e, hj, hb, _, _⟩
    · refine ⟨false, et_r (ev_notNO (x := none) rfl rfl nn_t2 (ev_dget (ev_var rfl h1) (ev_var rfl rfl) e)), (fun z => nomatch z), fun _ W1 l1 => ?_⟩
      have l := l1
      walk_at "up"
      obtain ⟨W2, e2, kp, r2⟩ := o1.fz
      rw [← e2]
      refine s_retN (r := rList rInt) (P := fun zs => zs = xs.reverse) (EvON.imp (eon_revN (EvR.n (ev_var rfl r2))) fun zs hz => by obtain ⟨ys, rfl, rfl⟩ := hz; rfl).fz fun v W zs hv hz => k v W zs hv ⟨q, by rw [hz, List.reverse_reverse]; exact wb, e⟩
    · refine ⟨true, et_r (ev_notNO (x := some (l', b)) rfl rfl nn_t2 (ev_dget (ev_var rfl h1) (ev_var rfl rfl) e)), fun _ W1 l1 => ?_, (fun z => nomatch z)⟩
      have l := l1
      walk_at "up"
      refine q_asg2 (r := rInt) (s := rInt) (x := (l', b)) (ev_unsome (ev_dget (ev_var rfl h1) (ev_var rfl rfl) e)) fun u1 u2 W2 l2 e1 e2 => ?_
      cases e1; cases e2
      refine s_app rfl (o1.up l2) (ev_var rfl rfl) (by omega) fun W3 kp o2 => ?_
      exact ⟨W3, rfl, ⟨lw.ex.trans (l1.ex.trans (l2.ex.trans kp.ex))⟩, j, hj, b, _, _, j, rfl, o2, hb, .snoc wb e, by simp; omega, rfl⟩
theorem ok_spare (T : Txt K mg) : FnOk P w K mg base CX0 1 T.d_spare_steps.f T.d_spare_steps.fd ["steps", "heads"] (SpSel spareF) := by
  refine T.d_spare_steps.F.ok sc_d_spare_steps (fun vs H Q E h => ?_) (fun cdv A outer s H vs Q E hr h => ?_)
  · obtain ⟨G, v, p, kvs, steps, hs, rfl, _⟩ := h; rfl
  · obtain ⟨G, v, p, kvs, steps, hs, rfl, gh, h1, g1, g2, g3, ok, k⟩ := h
    have hu := hu_of hr
    refine ⟨_, (pss_one (ps_ret (pe_lock (pe_dc (own := [("place", 2)]) (g := gName 2) (by rfl) sc_d_spare_steps.nd  (pi_keys (pv 0)) (blkOk_by (N := n_d_spare_steps) (sc := defScope s_d_spare_steps) (by decide +kernel)) (fun _ _ _ _ _ => (pg_name (i := 2) sc_d_spare_steps.nd rfl (.inl rfl))) (fun _ _ _ _ _ => pts_nil) (fun _ _ _ _ _ => (pv 2)) (fun _ _ _ _ _ => (pe_lc (own := [("step", 3)]) (g := gName 3) (by rfl) sc_d_spare_steps.nd  (kPiList K (pe_dget hu (pv 0) (pv 2) (fun _ _ => rfl))) (blkOk_by (N := n_d_spare_steps) (sc := retSc s_d_spare_steps) (by decide +kernel)) (fun _ _ _ _ _ => (pg_name (i := 3) sc_d_spare_steps.nd rfl (.inl rfl))) (fun _ _ _ _ _ => (pts_one (pt_cmpR (kNe K hr.units) (pe_dget1 hu (pv 1) (pe_ix (kIx K) (pv 3) pe_int (fun _ _ => rfl)) ⟨by rfl, by rfl, by rfl, by rfl⟩) (pe_ix (kIx K) (pv 3) pe_int (fun _ _ => rfl)) (nomark _)))) (fun _ _ _ _ _ => (pv 3)))))))), ?_⟩
    have ow : Own (Wd.inE G H p gh) p (.dK kvs) := ⟨g1, g2, cut_same⟩
    have o1 : OwnD (Wd.inE G H p gh) p rInt hs := ⟨kvs, ow, g3⟩
    obtain ⟨d, kvs0, rfl, hd, hr0⟩ := h1
    refine (show EvR _ _ (Wd.inE G H p gh) rStepsD (selM (spareF hs) steps) from ev_lock hd (ntz_dict ntz_pairs) fun W1 l e od => EvOD.fz (eod_dcK (r := rList rPr) (s := rList rPr) (fun x => x.2.filter (spareF hs)) rfl upd_same (ntk_pairs.dr e ⟨_, rfl⟩ (hr0.mono l.ex)) (by have := ok.ok.n; omega) ok.nd (fun _ => rfl) (fun _ => rfl) fun m x W2 l2 hx => ?_)) (Wd.inE G H p gh) (Le.refl _) _ fun u W l hu => k u W hu (ow.up l)
    have hx2 : dlook steps x.1 = some x.2 := dlook_of_mem ok.nd (List.mem_of_getElem? hx)
    have bx := ok.b _ _ hx2
    have hdr : DictR (rList rPr) (W1.lk d (.dK kvs0) (.frz od (.dK kvs0)) e).G kvs0 steps := ntk_pairs.dr e ⟨_, rfl⟩ (hr0.mono l.ex)
    refine EvO.fz (EvO.is (eo_lcL (r := rPr) (s := rPr) (spareF hs) id (ev_dgetL (d := d) (od := od) (kvs := kvs0) rfl (l2.ex _ _ upd_same) (hdr.mono l2.ex) (ev_var rfl rfl) hx2) (by omega) (fun _ => rfl) (fun c y v W3 l3 hy hv => ?_) (fun c y v W3 l3 hy hv _ => ev_var rfl hv)) (by simp))
    have o3 : OwnD W3 p rInt hs := (((o1.up l).lk nt_int e).up l2).up l3
    exact et_r (ev_neO (ev_oget rfl o3 (ev_ix0 (x := y.1) (y := y.2) (ev_var rfl hv))) (ev_ix1 (x := y.1) (y := y.2) (ev_var rfl hv)))
theorem ok_used (T : Txt K mg) : FnOk P w K mg base CX0 1 T.d_used_steps.f T.d_used_steps.fd ["steps", "heads"] (SpSel usedF) := by
  refine T.d_used_steps.F.ok sc_d_used_steps (fun vs H Q E h => ?_) (fun cdv A outer s H vs Q E hr h => ?_)
  · obtain ⟨G, v, p, kvs, steps, hs, rfl, _⟩ := h; rfl
  · obtain ⟨G, v, p, kvs, steps, hs, rfl, gh, h1, g1, g2, g3, ok, k⟩ := h
    have hu := hu_of hr
    refine ⟨_, (pss_one (ps_ret (pe_lock (pe_dc (own := [("place", 2)]) (g := gName 2) (by rfl) sc_d_used_steps.nd  (pi_keys (pv 0)) (blkOk_by (N := n_d_used_steps) (sc := defScope s_d_used_steps) (by decide +kernel)) (fun _ _ _ _ _ => (pg_name (i := 2) sc_d_used_steps.nd rfl (.inl rfl))) (fun _ _ _ _ _ => pts_nil) (fun _ _ _ _ _ => (pv 2)) (fun _ _ _ _ _ => (pe_lc (own := [("step", 3)]) (g := gName 3) (by rfl) sc_d_used_steps.nd  (kPiList K (pe_dget hu (pv 0) (pv 2) (fun _ _ => rfl))) (blkOk_by (N := n_d_used_steps) (sc := retSc s_d_used_steps) (by decide +kernel)) (fun _ _ _ _ _ => (pg_name (i := 3) sc_d_used_steps.nd rfl (.inl rfl))) (fun _ _ _ _ _ => (pts_one (pt_cmpR (kEq K hr.units) (pe_dget1 hu (pv 1) (pe_ix (kIx K) (pv 3) pe_int (fun _ _ => rfl)) ⟨by rfl, by rfl, by rfl, by rfl⟩) (pe_ix (kIx K) (pv 3) pe_int (fun _ _ => rfl)) (nomark _)))) (fun _ _ _ _ _ => (pv 3)))))))), ?_⟩
    have ow : Own (Wd.inE G H p gh) p (.dK kvs) := ⟨g1, g2, cut_same⟩
    have o1 : OwnD (Wd.inE G H p gh) p rInt hs := ⟨kvs, ow, g3⟩
    obtain ⟨d, kvs0, rfl, hd, hr0⟩ := h1
    refine (show EvR _ _ (Wd.inE G H p gh) rStepsD (selM (usedF hs) steps) from ev_lock hd (ntz_dict ntz_pairs) fun W1 l e od => EvOD.fz (eod_dcK (r := rList rPr) (s := rList rPr) (fun x => x.2.filter (usedF hs)) rfl upd_same (ntk_pairs.dr e ⟨_, rfl⟩ (hr0.mono l.ex)) (by have := ok.ok.n; omega) ok.nd (fun _ => rfl) (fun _ => rfl) fun m x W2 l2 hx => ?_)) (Wd.inE G H p gh) (Le.refl _) _ fun u W l hu => k u W hu (ow.up l)
    have hx2 : dlook steps x.1 = some x.2 := dlook_of_mem ok.nd (List.mem_of_getElem? hx)
    have bx := ok.b _ _ hx2
    have hdr : DictR (rList rPr) (W1.lk d (.dK kvs0) (.frz od (.dK kvs0)) e).G kvs0 steps := ntk_pairs.dr e ⟨_, rfl⟩ (hr0.mono l.ex)
    refine EvO.fz (EvO.is (eo_lcL (r := rPr) (s := rPr) (usedF hs) id (ev_dgetL (d := d) (od := od) (kvs := kvs0) rfl (l2.ex _ _ upd_same) (hdr.mono l2.ex) (ev_var rfl rfl) hx2) (by omega) (fun _ => rfl) (fun c y v W3 l3 hy hv => ?_) (fun c y v W3 l3 hy hv _ => ev_var rfl hv)) (by simp))
    have o3 : OwnD W3 p rInt hs := (((o1.up l).lk nt_int e).up l2).up l3
    exact et_r (ev_eqO (ev_oget rfl o3 (ev_ix0 (x := y.1) (y := y.2) (ev_var rfl hv))) (ev_ix1 (x := y.1) (y := y.2) (ev_var rfl hv)))
theorem ok_use_way (T : Txt K mg) : FnOk P w K mg base CX0 1 T.d_use_way.f T.d_use_way.fd ["heads", "came", "place"] SpUse := by
  refine T.d_use_way.F.ok sc_d_use_way (fun vs H Q E h => ?_) (fun cdv A outer s H vs Q E hr h => ?_)
  · obtain ⟨G, p, kvs, v, place, hs, came, n, ls, whole, srcs, rfl, _⟩ := h; rfl
  · obtain ⟨G, p, kvs, v, place, hs, came, n, ls, whole, srcs, rfl, gh, g1, g2, g3, h1, lk, nb, wl, ci, ho, hp, k⟩ := h
    have hu := hu_of hr
    refine ⟨_, (pss_one (ps_while PassesOwn.never (pt_cmpR op_notN (pe_dget hu (pv 1) (pv 2) (fun _ _ => rfl)) pe_non (nomark _)) (pss_cons (ps_asg (pe_dget hu (pv 1) (pv 2) (fun _ _ => rfl)) (kTupT K rfl (pgs_cons (pg_name (i := 3) sc_d_use_way.nd rfl (.inl rfl)) (pgs_cons (pg_name (i := 4) sc_d_use_way.nd rfl (.inl rfl)) pgs_nil))))
      (pss_cons (ps_if (pt_cmp (pc_din hu (pv 3) (pv 0))) (pss_one (ps_ddel (pv 0) (pv 3))) (pss_one (ps_dput hu (pv 0) (pv 3) (pv 2) rfl)))
      (pss_one (ps_set (i := 2) sc_d_use_way.nd rfl (.inl rfl) (pv 4))))))), ?_⟩
    have o1 : OwnD (Wd.inE G H p gh) p rInt hs := inE_own g1 g2 g3
    obtain ⟨i0, hi0, ei0⟩ := List.getElem_of_mem hp
    refine s_while (W := Wd.inE G H p gh) (fun m σ W => ∃ q xs k3 k4, ∃ i : Nat, σ = [some (.ref p), some v, some (.int q), k3, k4] ∧ OwnD W p rInt xs ∧ UseI ls whole srcs hs came place i q xs ∧ m = i) (m0 := i0) ⟨place, hs, none, none, i0, rfl, o1, .start ho (by rw [List.getElem?_eq_getElem hi0, ei0]), rfl⟩ ?_
    rintro m σ W lw ⟨q, xs, k3, k4, i, rfl, o1, ui, rfl⟩
    have l := lw
    replace h1 := Rp.up lw.ex h1
    have hxl := ui.ok.len
    rcases ci.at ui.at_ with ⟨e, _⟩ | ⟨l', b, st, j', e, hj', hb, _, _⟩
    · refine ⟨false, et_r (ev_notNO (x := none) rfl rfl nn_t2 (ev_dget (ev_var rfl h1) (ev_var rfl rfl) e)), (fun z => nomatch z), fun _ W1 l1 => ?_⟩
      obtain ⟨a1, a2⟩ := ui.done ci e
      exact k W1 xs (o1.up l1) a1 a2
    · refine ⟨true, et_r (ev_notNO (x := some (l', b)) rfl rfl nn_t2 (ev_dget (ev_var rfl h1) (ev_var rfl rfl) e)), fun _ W1 l1 => ?_, (fun z => nomatch z)⟩
      replace h1 := Rp.up l1.ex h1
      obtain ⟨j, hj, t1, t2⟩ := ui.turn lk nb ci e
      refine q_asg2 (r := rInt) (s := rInt) (x := (l', b)) (ev_unsome (ev_dget (ev_var rfl h1) (ev_var rfl rfl) e)) fun u1 u2 W2 l2 e1 e2 => ?_
      cases e1; cases e2
      have o2 := (o1.up l1).up l2
      refine q_if (W := W2) (b := (dlook xs l').isSome) (et_b (ev_odin (ev_var rfl rfl) rfl o2)) (fun hb W3 l3 => ?_) (fun hb W3 l3 => ?_)
      · obtain ⟨⟨hh, eh⟩, un⟩ := t1 hb
        refine s_ddel rfl (o2.up l3) (ev_var rfl rfl) eh fun W4 kp o4 => ?_
        refine s_asg (r := rInt) (x := b) (ev_var rfl rfl) fun u W5 l5 e5 => ?_
        cases e5
        exact ⟨W5, rfl, ⟨lw.ex.trans (l1.ex.trans (l2.ex.trans (l3.ex.trans (kp.ex.trans l5.ex))))⟩, j, hj, b, _, _, _, j, rfl, o4.up l5, un, rfl⟩
      · have un := t2 hb
        refine s_dput rfl (o2.up l3) (ev_var rfl rfl) (x := q) (r := rInt) (ev_var rfl rfl) (by omega) fun W4 kp o4 => ?_
        refine s_asg (r := rInt) (x := b) (ev_var rfl rfl) fun u W5 l5 e5 => ?_
        cases e5
        exact ⟨W5, rfl, ⟨lw.ex.trans (l1.ex.trans (l2.ex.trans (l3.ex.trans (kp.ex.trans l5.ex))))⟩, j, hj, b, _, _, _, j, rfl, o4.up l5, un, rfl⟩
end
end Q

namespace Q
open PySem L2
local macro_rules | `(tactic| walk_at "up") => do
  let l := Lean.mkIdent `l
  let mut ts : Array (Lean.TSyntax `tactic) := #[]
  for i in [1, 2, 3, 4, 5, 6, 7, 8, 9, 10, 11, 12, 13, 14, 15, 16] do
    let h := Lean.mkIdent (Lean.Name.mkSimple s!"h{i}")
    ts := ts.push (← `(tactic| try replace $h:ident := Rp.up (Le.ex $l) $h))
    ts := ts.push (← `(tactic| try replace $h:ident := Rp.up (Wk.ex $l) $h))
    ts := ts.push (← `(tactic| try replace $h:ident := Rp.up (Kp.ex $l) $h))
  for i in [1, 2, 3, 4] do
    let h := Lean.mkIdent (Lean.Name.mkSimple s!"o{i}")
    ts := ts.push (← `(tactic| try replace $h:ident := OwnL.up $l $h))
    ts := ts.push (← `(tactic| try replace $h:ident := OwnD.up $l $h))
  `(tactic| ($[$ts:tactic];*))
local macro_rules | `(tactic| walk_at "cm") => `(tactic| first | exact Or.inl ⟨by omega, by omega⟩ | exact Or.inr ⟨by omega, by omega⟩)
local macro_rules | `(tactic| walk_at "ev") => `(tactic| repeat' first
  | exact ev_var rfl (by first | assumption | rfl)
  | exact ev_int | exact ev_bl | exact ev_str | exact ev_non
  | (refine' ev_addA ?_ ?_) | (refine' ev_sub ?_ ?_)
  | (refine' ev_mulA ?_ ?_ ?_; rotate_left 2; walk_at "cm")
  | (refine' ev_mod ?_ ?_ ?_; rotate_left 2; omega)
  | (refine' ev_lt ?_ ?_) | (refine' ev_le ?_ ?_) | (refine' ev_gt ?_ ?_) | (refine' ev_ge ?_ ?_)
  | (refine' ev_lenA ?_) | (refine' ev_in ?_ ?_) | (refine' ev_nin ?_ ?_)
  | (refine' ev_jx0 ?_) | (refine' ev_jx1 ?_) | (refine' ev_jx2 ?_) | (refine' ev_ix0 ?_) | (refine' ev_ix1 ?_)
  | (refine ev_chain_lelt ?_ ?_ ?_) | (refine ev_chain_lele ?_ ?_ ?_)
  | (refine' et_r ?_) | (refine' et_b ?_) | (refine' et_not ?_) | (refine' et_and ?_ fun _ => ?_) | (refine' et_or ?_ fun _ => ?_)
  | (refine' ev_pow ?_ ?_ ⟨by decide, by decide, by decide⟩)
  | (refine' ev_t2 ?_ ?_) | (refine' ev_t3 ?_ ?_ ?_)
  | exact et_yes)

section
variable {P : Program} {w : World} {K : PySem.W.Frag} {mg : Str → Option Value} {base : Heap}
theorem ok_most_used (T : Txt K mg) : FnOk P w K mg base CX0 2 T.d_most_used.f T.d_most_used.fd ["steps", "sources", "place"] SpMost := by
  have G_d_reached : FnOk P w K mg base CX0 1 T.d_reached.f T.d_reached.fd ["steps", "starts"] SpReached := ok_reached T
  have G_d_spare_steps : FnOk P w K mg base CX0 1 T.d_spare_steps.f T.d_spare_steps.fd ["steps", "heads"] (SpSel spareF) := ok_spare T
  have G_d_use_way : FnOk P w K mg base CX0 1 T.d_use_way.f T.d_use_way.fd ["heads", "came", "place"] SpUse := ok_use_way T
  refine T.d_most_used.F.ok sc_d_most_used (fun vs H Q E h => ?_) (fun cdv A outer s H vs Q E hr h => ?_)
  · obtain ⟨G, v, u, place, n, ls, whole, srcs, rfl, _⟩ := h; rfl
  · obtain ⟨G, v, u, place, n, ls, whole, srcs, rfl, gh, h1, h2, pi, k⟩ := h
    have hu := hu_of hr
    refine ⟨_, (pss_cons (ps_set (i := 3) sc_d_most_used.nd rfl (.inl rfl) pe_dnewK)
      (pss_cons (ps_set (i := 4) sc_d_most_used.nd rfl (.inl rfl) (pe_call G_d_reached (hr.mono (by decide)) (by rfl) T.d_reached.m T.d_reached.F.kp T.d_reached.b .nil pass0 (pa_cons (pe_call G_d_spare_steps (hr.mono (by decide)) (by rfl) T.d_spare_steps.m T.d_spare_steps.F.kp T.d_spare_steps.b .nil pass0 (pa_cons (pv 0) (pa_cons (pv 3) pa_nil))) (pa_cons (pv 1) pa_nil))))
      (pss_cons (ps_while PassesOwn.never (pt_cmp (pc_din hu (pv 2) (pv 4))) (pss_cons (ps_expr (pe_call G_d_use_way (hr.mono (by decide)) (by rfl) T.d_use_way.m T.d_use_way.F.kp T.d_use_way.b .nil pass0 (pa_cons (pv 3) (pa_cons (pv 4) (pa_cons (pv 2) pa_nil)))))
      (pss_one (ps_set (i := 4) sc_d_most_used.nd rfl (.inl rfl) (pe_call G_d_reached (hr.mono (by decide)) (by rfl) T.d_reached.m T.d_reached.F.kp T.d_reached.b .nil pass0 (pa_cons (pe_call G_d_spare_steps (hr.mono (by decide)) (by rfl) T.d_spare_steps.m T.d_spare_steps.F.kp T.d_spare_steps.b .nil pass0 (pa_cons (pv 0) (pa_cons (pv 3) pa_nil))) (pa_cons (pv 1) pa_nil)))))))
      (pss_one (ps_ret (pv 3)))))), ?_⟩
    refine q_asgD0 (r := rInt) (W := Wd.in G H gh) _ rfl fun p W l f o1 => ?_
    walk_at "up"
    refine q_asgN (ev_callN2 (r := rStepsD) (s := rList rInt) (t := rCameD) (ev_sel (ev_var rfl h1) rfl o1 pi.sg) (ev_var rfl h2) ⟨selM_ok pi.sg.ok, pi.s1, pi.ks⟩) fun v4 W came l h4 hc => ?_
    walk_at "up"
    refine q_while (fun m σ W => ∃ hs v4 came, ∃ k : Nat, σ = [some v, some u, some (.int place), some (.ref p), some v4] ∧ OwnD W p rInt hs ∧ rCameD.rel W.G v4 came ∧ HeadsOk ls whole hs ∧ Flow ls srcs place hs k ∧ CameR (selM (spareF hs) (stepsM n ls whole)) srcs came ∧ m = whole.length - k) (m0 := whole.length) ⟨[], v4, came, 0, rfl, o1, h4, ⟨List.nodup_nil, fun x hx => absurd hx List.not_mem_nil⟩, .nil, hc, rfl⟩ ?_
    rintro m σ W lw ⟨hs, v4, came, k0, rfl, o1, h4, ho, fl, cr, rfl⟩
    have l := lw
    replace h1 := Rp.up lw.ex h1
    replace h2 := Rp.up lw.ex h2
    refine ⟨(dlook came place).isSome, et_b (ev_din (ev_var rfl rfl) (ev_var rfl h4)), fun hb W1 l1 => ?_, fun hb W1 l1 => ?_⟩
    · have hp : place ∈ keysD came := by rw [dlook_some] at hb; exact of_decide_eq_true hb
      have l := l1
      walk_at "up"
      refine q_use (W := W1) rfl o1 (ev_var rfl h4) (ev_var rfl rfl) pi cr.i ho hp fun W2 hs' kp o2 ho' fl' => ?_
      have l := kp
      replace h1 := Rp.up kp.ex h1
      replace h2 := Rp.up kp.ex h2
      refine s_asgN (W := W2) (ev_callN2 (r := rStepsD) (s := rList rInt) (t := rCameD) (ev_sel (ev_var rfl h1) rfl o2 pi.sg) (ev_var rfl h2) ⟨selM_ok pi.sg.ok, pi.s1, pi.ks⟩) fun v5 W3 came' l3 h5 hc' => ?_
      have bd := (fl' k0 fl).bound ho' pi.p1
      exact ⟨W3, rfl, ⟨lw.ex.trans (l1.ex.trans (kp.ex.trans l3.ex))⟩, whole.length - (k0 + 1), by omega, hs', v5, came', k0 + 1, rfl, o2.up l3, h5, ho', fl' k0 fl, hc', rfl⟩
    · have hp : place ∉ keysD came := fun z => by rw [dlook_some, decide_eq_true z] at hb; cases hb
      exact ⟨_, rfl, k p hs W1 (o1.up l1) ⟨ho, ⟨k0, fl⟩, ⟨came, cr, hp⟩⟩⟩
abbrev SpCut (C : Addr) : Sp := Fn3 (rNet C) (rList rInt) rCameD (rList rInt) (fun n w c => LinesOk n.needs.length n.lines ∧ Nums n.lines.length w ∧ w.length ≤ 1000) (fun n w c => cutM n.lines w c)
theorem ok_cut_lines (T : Txt K mg) : FnOk P w K mg base CX0 2 T.d_cut_lines.f T.d_cut_lines.fd ["net", "whole", "came"] (SpCut T.C_Net) := by
  have G_m_Net_lines : FnOk P w K mg base CX0 1 T.m_Net_lines.f T.m_Net_lines.fd ["self"] (SpLines T.C_Net) := ok_lines T
  refine T.d_cut_lines.F.ok sc_d_cut_lines (fun vs H Q E h => ?_) (fun cdv A outer s H vs Q E hr h => ?_)
  · obtain ⟨G, v, w, u, x, y, z, rfl, _⟩ := h; rfl
  · obtain ⟨G, v, u, y, n, wh, came, rfl, gh, h1, h2, h3, ⟨lk, nb, wl⟩, k⟩ := h
    have hu := hu_of hr
    refine ⟨_, (pss_cons (ps_set (i := 3) sc_d_cut_lines.nd rfl (.inr rfl) (pe_meth0 (pv 0) T.l_Net T.m_Net_lines.M G_m_Net_lines (hr.mono (by decide)) T.m_Net_lines.b .nil pass0))
      (pss_one (ps_ret (pe_lc (own := [("line", 4)]) (g := gName 4) (by rfl) sc_d_cut_lines.nd  (kPiList K (pv 1)) (blkOk_by (N := n_d_cut_lines) (sc := defScope s_d_cut_lines) (by decide +kernel)) (fun _ _ _ _ _ => (pg_name (i := 4) sc_d_cut_lines.nd rfl (.inl rfl))) (fun _ _ _ _ _ => (pts_one (pt_cmpR (kNe K hr.units) (pe_cmp (pc_din hu (pe_ix (kIx K) (pe_ix (kIx K) (pv 3) (pv 4) (fun _ _ => rfl)) pe_int (fun _ _ => rfl)) (pv 2)) rfl) (pe_cmp (pc_din hu (pe_ix (kIx K) (pe_ix (kIx K) (pv 3) (pv 4) (fun _ _ => rfl)) pe_int (fun _ _ => rfl)) (pv 2)) rfl) (nomark _)))) (fun _ _ _ _ _ => (pv 4)))))), ?_⟩
    refine q_asg (W := Wd.in G H gh) (r := rList rLine) (ev_meth0 nL1 nL2 nL3 (ev_var rfl h1) trivial) fun v3 W l h4 => ?_
    walk_at "up"
    refine s_ret (r := rList rInt) (x := cutM n.lines wh came) (EvO.fz (EvO.is (eo_lcL (r := rInt) (s := rInt) (fun l => !((dlook came (lineAt n.lines l).1).isSome == (dlook came (lineAt n.lines l).2.1).isSome)) id (ev_var rfl h2) (by omega) (fun _ => rfl) (fun i x v W1 l1 hi e => ?_) (fun i x v W1 l1 hi e _ => ev_var rfl e)) (by unfold cutM; simp))) k
    cases e
    replace h3 := Rp.up l1.ex h3
    replace h4 := Rp.up l1.ex h4
    have hx := nb x (List.mem_of_getElem? hi)
    refine EvB.is (et_r (ev_neA fl_bool (ev_din (ev_jx0 (ev_ixL (r := rLine) (x := lineAt n.lines x) (ev_var rfl h4) (ev_var rfl rfl) ⟨hx.1, lineAt_get hx⟩)) (ev_var rfl h3)) (ev_din (ev_jx1 (ev_ixL (r := rLine) (x := lineAt n.lines x) (ev_var rfl h4) (ev_var rfl rfl) ⟨hx.1, lineAt_get hx⟩)) (ev_var rfl h3)))) ?_
    cases (dlook came (lineAt n.lines x).1).isSome <;> cases (dlook came (lineAt n.lines x).2.1).isSome <;> rfl
theorem ok_used_ways (T : Txt K mg) : FnOk P w K mg base CX0 2 T.d_used_ways.f T.d_used_ways.fd ["steps", "heads", "sources", "place"] SpUsedW := by
  have G_d_reached : FnOk P w K mg base CX0 1 T.d_reached.f T.d_reached.fd ["steps", "starts"] SpReached := ok_reached T
  have G_d_used_steps : FnOk P w K mg base CX0 1 T.d_used_steps.f T.d_used_steps.fd ["steps", "heads"] (SpSel usedF) := ok_used T
  have G_d_way_to : FnOk P w K mg base CX0 1 T.d_way_to.f T.d_way_to.fd ["came", "place"] SpWayTo := ok_way_to T
  refine T.d_used_ways.F.ok sc_d_used_ways (fun vs H Q E h => ?_) (fun cdv A outer s H vs Q E hr h => ?_)
  · obtain ⟨G, v, u, p, kvs, place, n, ls, whole, srcs, hs, rfl, _⟩ := h; rfl
  · obtain ⟨G, v, u, p, kvs, place, n, ls, whole, srcs, hs, rfl, gh, h1, h2, g1, g2, g3, pi, mo, k⟩ := h
    have ho := mo.h
    obtain ⟨kf, fl⟩ := mo.f
    obtain ⟨came0, cr0, hp0⟩ := mo.c
    have hu := hu_of hr
    refine ⟨_, (pss_cons (ps_set (i := 4) sc_d_used_ways.nd rfl (.inl rfl) (pe_callTy call_dictD (by rfl) T.z_dict PyProof.Rows.boot_dict (pa_cons (pv 1) pa_nil)))
      (pss_cons (ps_set (i := 5) sc_d_used_ways.nd rfl (.inl rfl) (pe_lst pa_nil))
      (pss_cons (ps_set (i := 6) sc_d_used_ways.nd rfl (.inl rfl) (pe_call G_d_reached (hr.mono (by decide)) (by rfl) T.d_reached.m T.d_reached.F.kp T.d_reached.b .nil pass0 (pa_cons (pe_call G_d_used_steps (hr.mono (by decide)) (by rfl) T.d_used_steps.m T.d_used_steps.F.kp T.d_used_steps.b .nil pass0 (pa_cons (pv 0) (pa_cons (pv 4) pa_nil))) (pa_cons (pv 2) pa_nil))))
      (pss_cons (ps_while PassesOwn.never (pt_cmp (pc_din hu (pv 3) (pv 6))) (pss_cons (ps_set (i := 7) sc_d_used_ways.nd rfl (.inl rfl) (pe_call G_d_way_to (hr.mono (by decide)) (by rfl) T.d_way_to.m T.d_way_to.F.kp T.d_way_to.b .nil pass0 (pa_cons (pv 6) (pa_cons (pv 3) pa_nil))))
      (pss_cons (ps_for PassesOwn.never rfl (kPiList K (pv 7)) (pg_name (i := 8) sc_d_used_ways.nd rfl (.inl rfl)) (pss_one (ps_ddel (pv 4) (pv 8))))
      (pss_cons (ps_expr (kBm K PySem.F.plainAttrs_list PySem.F.slot_list_append PySem.F.type_list_append mt_append (pv 5) (pa_cons (pv 7) pa_nil)))
      (pss_one (ps_set (i := 6) sc_d_used_ways.nd rfl (.inl rfl) (pe_call G_d_reached (hr.mono (by decide)) (by rfl) T.d_reached.m T.d_reached.F.kp T.d_reached.b .nil pass0 (pa_cons (pe_call G_d_used_steps (hr.mono (by decide)) (by rfl) T.d_used_steps.m T.d_used_steps.F.kp T.d_used_steps.b .nil pass0 (pa_cons (pv 0) (pa_cons (pv 4) pa_nil))) (pa_cons (pv 2) pa_nil)))))))))
      (pss_one (ps_ret (pv 5))))))), ?_⟩
    have ow : Own (Wd.inE G H p gh) p (.dK kvs) := ⟨g1, g2, cut_same⟩
    have oo : OwnD (Wd.inE G H p gh) p rInt hs := ⟨kvs, ow, g3⟩
    refine q_dcopy (W := Wd.inE G H p gh) rfl rfl oo fun pl W l f o1 => ?_
    have npl : p ≠ pl := ow.ne f
    have ow := ow.up l
    walk_at "up"
    refine q_asgO (r := rList rInt) (xs := []) (eo_lst el_nil (Nat.zero_le _)) fun pw W l f o2 => ?_
    have npw : p ≠ pw := ow.ne f
    have nlw : pl ≠ pw := o1.ne f
    have ow := ow.up l
    walk_at "up"
    refine q_asgN (ev_callN2 (r := rStepsD) (s := rList rInt) (t := rCameD) (ev_sel (ev_var rfl h1) rfl o1 pi.sg) (ev_var rfl h2) ⟨selM_ok pi.sg.ok, pi.s1, pi.ks⟩) fun v6 W came l h6 hc => ?_
    have ow := ow.up l
    walk_at "up"
    refine q_while (fun m σ W => ∃ lf ws v6 came k7 k8, σ = [some v, some (.ref p), some u, some (.int place), some (.ref pl), some (.ref pw), some v6, k7, k8] ∧ Own W p (.dK kvs) ∧ OwnD W pl rInt lf ∧ OwnL W pw (rList rInt) ws ∧ rCameD.rel W.G v6 came ∧ WaysI ls whole srcs place hs kf lf ws ∧ CameR (selM (usedF lf) (stepsM n ls whole)) srcs came ∧ ws.length + lf.length ≤ whole.length ∧ m = lf.length) (m0 := hs.length) ⟨hs, [], v6, came, none, none, rfl, ow, o1, o2, h6, .start ho fl, hc, by have := ho.len; simpa using this, rfl⟩ ?_
    rintro m σ W lw ⟨lf, ws, v6, came, k7, k8, rfl, ow, o1, o2, h6, hl, cr, hb0, rfl⟩
    replace h1 := Rp.up lw.ex h1
    replace h2 := Rp.up lw.ex h2
    refine ⟨(dlook came place).isSome, et_b (ev_din (ev_var rfl rfl) (ev_var rfl h6)), fun hb W1 l1 => ?_, fun hb W1 l1 => ?_⟩
    · have hp : place ∈ keysD came := by rw [dlook_some] at hb; exact of_decide_eq_true hb
      have l := l1
      have ow := ow.up l
      walk_at "up"
      have cl : came.length ≤ 1000 := Nat.le_trans cr.i.len (by have := pi.sg.ok.n; unfold selM; simpa using this)
      refine q_asgN (W := W1) (ev_callN2 (r := rCameD) (s := rInt) (t := rList rInt) (ev_var rfl h6) (ev_var rfl rfl) ⟨⟨_, _, cr.i⟩, cl, hp⟩) fun v7 W2 way l2 h7 hway => ?_
      obtain ⟨s0, wb, es⟩ := hway
      have l := l2
      have ow := ow.up l
      walk_at "up"
      have hs0 : s0 ∈ keysD came := dlook_isSome.mpr ⟨_, es⟩
      obtain ⟨i0, hi0, ei0⟩ := List.getElem_of_mem hs0
      obtain ⟨wnd, win, _⟩ := wb.facts pi.l pi.w cr.i i0 (by rw [List.getElem?_eq_getElem hi0, ei0])
      have wne := wb.ne cr.i es pi.p1
      have wne' : way ≠ [] := fun z => wne (by rw [z]; rfl)
      have wnd : way.Nodup := by
        have := (List.reverse_perm way.reverse).nodup_iff.mpr wnd
        rwa [List.reverse_reverse] at this
      have win : ∀ l ∈ way, (dlook lf l).isSome = true := fun l hl => win l (List.mem_reverse.mpr hl)
      refine q_forL (r := rInt) (xs := way) (ev_var rfl h7) fun W3 l3 => ?_
      have l := l3
      have ow := ow.up l
      walk_at "up"
      refine ⟨fun i σ W => ∃ k8, σ = [some v, some (.ref p), some u, some (.int place), some (.ref pl), some (.ref pw), some v6, some v7, k8] ∧ Own W p (.dK kvs) ∧ OwnD W pl rInt (dropAll lf (way.take i)) ∧ OwnL W pw (rList rInt) ws, ⟨k8, rfl, ow, by rw [List.take_zero, dropAll_nil]; exact o1, o2⟩, ?_, ?_⟩
      · rintro i x y σ W4 l4 hi e ⟨k8', rfl, ow4, o4, o5⟩
        cases e
        have hx : x ∉ way.take i := fun hm => by
          obtain ⟨c, hc, ec⟩ := List.getElem_of_mem hm
          rw [List.getElem_take] at ec
          have hc' : c < i := by rw [List.length_take] at hc; omega
          have := idx_inj wnd hi (show way[c]? = some x by rw [List.getElem?_eq_getElem (by rw [List.length_take] at hc; omega), ec])
          omega
        have hl2 := win x (List.mem_of_getElem? hi)
        rw [← dropAll_look hx] at hl2
        obtain ⟨hh, eh⟩ : ∃ h, dlook (dropAll lf (way.take i)) x = some h := by
          cases e : dlook (dropAll lf (way.take i)) x with
          | none => rw [e] at hl2; cases hl2
          | some h => exact ⟨h, rfl⟩
        refine s_ddel (W := W4) rfl o4 (ev_var rfl rfl) eh fun W5 kp o6 => ?_
        refine ⟨W5, rfl, ⟨l4.ex.trans kp.ex⟩, _, rfl, kp.kp _ _ npl ow4, ?_, o5.kp kp nlw.symm⟩
        rw [List.take_add_one, hi]
        show OwnD W5 pl rInt (dropAll lf (way.take i ++ [x]))
        rw [dropAll_snoc]
        exact o6
      · rintro σ W4 l4 ⟨k8', rfl, ow4, o4, o5⟩
        rw [List.take_length] at o4
        replace h1 := Rp.up l4.ex h1
        replace h2 := Rp.up l4.ex h2
        replace h7 := Rp.up l4.ex h7
        have lt : (dropAll lf way).length < lf.length := by
          obtain ⟨x, xs, e⟩ := List.exists_cons_of_ne_nil (show way ≠ [] from fun z => wne (by rw [z]; rfl))
          exact dropAll_lt (l := x) (by rw [e]; simp) (win x (by rw [e]; simp))
        have wl := pi.wl
        refine q_app (W := W4) (r := rList rInt) (x := way) rfl o5 (ev_var rfl h7) (by omega) fun W5 kp o6 => ?_
        replace h1 := Rp.up kp.ex h1
        replace h2 := Rp.up kp.ex h2
        refine s_asgN (W := W5) (ev_callN2 (r := rStepsD) (s := rList rInt) (t := rCameD) (ev_sel (ev_var rfl h1) rfl (o4.kp kp nlw) pi.sg) (ev_var rfl h2) ⟨selM_ok pi.sg.ok, pi.s1, pi.ks⟩) fun v8 W6 came' l6 h8 hc' => ?_
        exact ⟨W6, rfl, ⟨lw.ex.trans (l1.ex.trans (l2.ex.trans (l3.ex.trans (l4.ex.trans (kp.ex.trans l6.ex)))))⟩, (dropAll lf way).length, lt, dropAll lf way, ws ++ [way], v8, came', _, _, rfl, (kp.kp _ _ npw ow4).up l6, (o4.kp kp nlw).up l6, o6.up l6, h8, hl.turn pi.l pi.w cr.i wb es wnd wne' win, hc', by rw [List.length_append]; simp; omega, rfl⟩
    · have ow := ow.up l1
      have hp : place ∉ keysD came := fun z => by rw [dlook_some, decide_eq_true z] at hb; cases hb
      obtain ⟨W2, e2, kp, r2⟩ := (o2.up l1).fz
      rw [← e2]
      have dn := hl.done pi.l pi.w ho cr hp cr0 hp0
      refine ⟨_, rfl, k _ W2 ws r2 ⟨fun k' f' => ?_, hl.nd, hl.wh, hl.ld⟩ (kp.kp _ _ npw ow)⟩
      have e1 := f' (fun p => decide (p ∈ srcs)) (fun s hs => by simpa using hs) (by simpa using pi.p1)
      have e2 := fl (fun p => decide (p ∈ srcs)) (fun s hs => by simpa using hs) (by simpa using pi.p1)
      omega
end
end Q

namespace Q
open PySem L2
local macro_rules | `(tactic| walk_at "up") => do
  let l := Lean.mkIdent `l
  let mut ts : Array (Lean.TSyntax `tactic) := #[]
  for i in [1, 2, 3, 4, 5, 6, 7, 8, 9, 10, 11, 12, 13, 14, 15, 16] do
    let h := Lean.mkIdent (Lean.Name.mkSimple s!"h{i}")
    ts := ts.push (← `(tactic| try replace $h:ident := Rp.up (Le.ex $l) $h))
    ts := ts.push (← `(tactic| try replace $h:ident := Rp.up (Wk.ex $l) $h))
    ts := ts.push (← `(tactic| try replace $h:ident := Rp.up (Kp.ex $l) $h))
  for i in [1, 2, 3, 4] do
    let h := Lean.mkIdent (Lean.Name.mkSimple s!"o{i}")
    ts := ts.push (← `(tactic| try replace $h:ident := OwnL.up $l $h))
    ts := ts.push (← `(tactic| try replace $h:ident := OwnD.up $l $h))
  `(tactic| ($[$ts:tactic];*))
local macro_rules | `(tactic| walk_at "cm") => `(tactic| first | exact Or.inl ⟨by omega, by omega⟩ | exact Or.inr ⟨by omega, by omega⟩)
local macro_rules | `(tactic| walk_at "ev") => `(tactic| repeat' first
  | exact ev_var rfl (by first | assumption | rfl)
  | exact ev_int | exact ev_bl | exact ev_str | exact ev_non
  | (refine' ev_addA ?_ ?_) | (refine' ev_sub ?_ ?_)
  | (refine' ev_mulA ?_ ?_ ?_; rotate_left 2; walk_at "cm")
  | (refine' ev_mod ?_ ?_ ?_; rotate_left 2; omega)
  | (refine' ev_lt ?_ ?_) | (refine' ev_le ?_ ?_) | (refine' ev_gt ?_ ?_) | (refine' ev_ge ?_ ?_)
  | (refine' ev_lenA ?_) | (refine' ev_in ?_ ?_) | (refine' ev_nin ?_ ?_)
  | (refine' ev_jx0 ?_) | (refine' ev_jx1 ?_) | (refine' ev_jx2 ?_) | (refine' ev_ix0 ?_) | (refine' ev_ix1 ?_)
  | (refine ev_chain_lelt ?_ ?_ ?_) | (refine ev_chain_lele ?_ ?_ ?_)
  | (refine' et_r ?_) | (refine' et_b ?_) | (refine' et_not ?_) | (refine' et_and ?_ fun _ => ?_) | (refine' et_or ?_ fun _ => ?_)
  | (refine' ev_pow ?_ ?_ ⟨by decide, by decide, by decide⟩)
  | (refine' ev_t2 ?_ ?_) | (refine' ev_t3 ?_ ?_ ?_)
  | exact et_yes)

section
variable {P : Program} {w : World} {K : PySem.W.Frag} {mg : Str → Option Value} {base : Heap}
abbrev SpParted (C : Addr) : Sp := FnN3 (rNet C) (rList rInt) rInt (rT2 (rList rInt) (rList (rList rInt))) (fun n b p => NetG n ∧ p ∉ n.sources ∧ 0 ≤ p ∧ p < (n.needs.length : Int)) (fun n b p z => CutOk n.needs.length n.lines (wholeM n.lines.length b) n.sources p z.1)
theorem ok_parted (T : Txt K mg) : FnOk P w K mg base CX0 3 T.d_parted.f T.d_parted.fd ["net", "broken", "place"] (SpParted T.C_Net) := by
  have G_m_Net_sources : FnOk P w K mg base CX0 1 T.m_Net_sources.f T.m_Net_sources.fd ["self"] (SpSources T.C_Net) := ok_sources T
  have G_d_reached : FnOk P w K mg base CX0 1 T.d_reached.f T.d_reached.fd ["steps", "starts"] SpReached := ok_reached T
  have G_d_steps_over : FnOk P w K mg base CX0 2 T.d_steps_over.f T.d_steps_over.fd ["net", "numbers"] (SpSteps T.C_Net) := ok_steps_over T
  have G_d_whole_lines : FnOk P w K mg base CX0 2 T.d_whole_lines.f T.d_whole_lines.fd ["net", "broken"] (SpWhole T.C_Net) := ok_whole_lines T
  have G_d_most_used : FnOk P w K mg base CX0 2 T.d_most_used.f T.d_most_used.fd ["steps", "sources", "place"] SpMost := ok_most_used T
  have G_d_spare_steps : FnOk P w K mg base CX0 1 T.d_spare_steps.f T.d_spare_steps.fd ["steps", "heads"] (SpSel spareF) := ok_spare T
  have G_d_cut_lines : FnOk P w K mg base CX0 2 T.d_cut_lines.f T.d_cut_lines.fd ["net", "whole", "came"] (SpCut T.C_Net) := ok_cut_lines T
  have G_d_used_ways : FnOk P w K mg base CX0 2 T.d_used_ways.f T.d_used_ways.fd ["steps", "heads", "sources", "place"] SpUsedW := ok_used_ways T
  refine T.d_parted.F.ok sc_d_parted (fun vs H Q E h => ?_) (fun cdv A outer s H vs Q E hr h => ?_)
  · obtain ⟨G, v, w, u, x, y, z, rfl, _⟩ := h; rfl
  · obtain ⟨G, v, u, y, n, b, p, rfl, gh, h1, h2, e3, ⟨ng, p1, p2⟩, k⟩ := h
    cases e3
    have hu := hu_of hr
    refine ⟨_, (pss_cons (ps_set (i := 3) sc_d_parted.nd rfl (.inl rfl) (pe_meth0 (pv 0) T.l_Net T.m_Net_sources.M G_m_Net_sources (hr.mono (by decide)) T.m_Net_sources.b .nil pass0))
      (pss_cons (ps_if (pt_cmpR (kIn K) (pv 2) (pv 3) (by rfl)) (pss_one ps_never) pss_nil)
      (pss_cons (ps_set (i := 4) sc_d_parted.nd rfl (.inl rfl) (pe_call G_d_whole_lines (hr.mono (by decide)) (by rfl) T.d_whole_lines.m T.d_whole_lines.F.kp T.d_whole_lines.b .nil pass0 (pa_cons (pv 0) (pa_cons (pv 1) pa_nil))))
      (pss_cons (ps_set (i := 5) sc_d_parted.nd rfl (.inl rfl) (pe_call G_d_steps_over (hr.mono (by decide)) (by rfl) T.d_steps_over.m T.d_steps_over.F.kp T.d_steps_over.b .nil pass0 (pa_cons (pv 0) (pa_cons (pv 4) pa_nil))))
      (pss_cons (ps_set (i := 6) sc_d_parted.nd rfl (.inl rfl) (pe_call G_d_most_used (hr.mono (by decide)) (by rfl) T.d_most_used.m T.d_most_used.F.kp T.d_most_used.b .nil pass0 (pa_cons (pv 5) (pa_cons (pv 3) (pa_cons (pv 2) pa_nil)))))
      (pss_one (ps_ret (pe_tup (pa_cons (pe_call G_d_cut_lines (hr.mono (by decide)) (by rfl) T.d_cut_lines.m T.d_cut_lines.F.kp T.d_cut_lines.b .nil pass0 (pa_cons (pv 0) (pa_cons (pv 4) (pa_cons (pe_call G_d_reached (hr.mono (by decide)) (by rfl) T.d_reached.m T.d_reached.F.kp T.d_reached.b .nil pass0 (pa_cons (pe_call G_d_spare_steps (hr.mono (by decide)) (by rfl) T.d_spare_steps.m T.d_spare_steps.F.kp T.d_spare_steps.b .nil pass0 (pa_cons (pv 5) (pa_cons (pv 6) pa_nil))) (pa_cons (pv 3) pa_nil))) pa_nil)))) (pa_cons (pe_call G_d_used_ways (hr.mono (by decide)) (by rfl) T.d_used_ways.m T.d_used_ways.F.kp T.d_used_ways.b .nil pass0 (pa_cons (pv 5) (pa_cons (pv 6) (pa_cons (pv 3) (pa_cons (pv 2) pa_nil))))) pa_nil)))))))))), ?_⟩
    have pi : PartIn n.needs.length n.lines (wholeM n.lines.length b) n.sources p := ⟨ng.l, wholeM_nums, (rg_nodup _).filter _, Nat.le_trans wholeM_len (by have := ng.l.l1; omega), ng.s1, ng.s2, p1, p2⟩
    refine q_asg (W := Wd.in G H gh) (r := rList rInt) (ev_meth0 nS1 nS2 nS3 (ev_var rfl h1) trivial) fun v3 W l h3 => ?_
    walk_at "up"
    refine q_when (b := decide (p ∈ n.sources)) (et_r (ev_in (ev_var rfl rfl) (ev_var rfl h3))) (fun hb => absurd (of_decide_eq_true hb) p1) fun _ W l => ?_
    walk_at "up"
    refine q_asg (r := rList rInt) (ev_call2 (r := rNet T.C_Net) (s := rList rInt) (t := rList rInt) (ev_var rfl h1) (ev_var rfl h2) ng.l.l1) fun v4 W l h4 => ?_
    walk_at "up"
    refine q_asg (r := rStepsD) (ev_steps (nums := wholeM n.lines.length b) (ev_var rfl h1) (ev_var rfl h4) ng.l wholeM_nums pi.wl) fun v5 W l h5 => ?_
    walk_at "up"
    refine q_most (ev_var rfl h5) (ev_var rfl h3) (ev_var rfl rfl) pi fun ph hs W l o1 mo => ?_
    walk_at "up"
    have mo' := mo
    obtain ⟨ho, ⟨kk, fl⟩, came0, cr0, hp0⟩ := mo
    refine s_retN (r := rT2 (rList rInt) (rList (rList rInt))) (P := fun z : List Int × List (List Int) => CutOk n.needs.length n.lines (wholeM n.lines.length b) n.sources p z.1) (EvN.imp (ev_t2N (r := rList rInt) (s := rList (rList rInt)) (P := fun z => CutOk n.needs.length n.lines (wholeM n.lines.length b) n.sources p z) (P' := WaysOk n.lines (wholeM n.lines.length b) n.sources p hs) (ev_call3N (r := rNet T.C_Net) (s := rList rInt) (t := rCameD) (q := rList rInt) (P := fun c => CameR (selM (spareF hs) (stepsM n.needs.length n.lines (wholeM n.lines.length b))) n.sources c) (ev_var rfl h1) (ev_var rfl h4)
      (ev_callN2 (r := rStepsD) (s := rList rInt) (t := rCameD) (ev_sel (ev_var rfl h5) rfl o1 pi.sg) (ev_var rfl h3) ⟨selM_ok pi.sg.ok, pi.s1, pi.ks⟩) (fun c hc => ⟨ng.l, wholeM_nums, pi.wl⟩) (fun c hc => ?_)) (ev_usedw (ev_var rfl h5) rfl o1 (ev_var rfl h3) (ev_var rfl rfl) pi mo')) fun z hz => hz.1) fun v W z hv hz => k v W z hv hz
    exact (cut_ok ng.l wholeM_nums pi.wn ng.s2 ho fl hc (fun z => hp0 (came_sub hc cr0 _ z)) p2).1
end
end Q

namespace Q
open PySem L2
theorem lc_keys {d : Addr} {od : Obj} {kvs : List (Key × V)} {g : TG} {tt : TT} {te : TE} {vs : List Nat} {σ : L2.St} {H1 : Hp} {D : Addr} {Qd : Hp → Prop} (Pv : Nat → Hp → Prop) (base : Pv 0 (upd H1 D (.lst []))) (still : ∀ j H, j ≤ kvs.length → Pv j H → H d = some (.frz od (.dK kvs)))
    (turn : ∀ (j : Nat) k v H, kvs[j]? = some (k, v) → Pv j H → g (kV k) (wipe σ vs) H fun σ2 H2 => wipe σ2 vs = wipe σ vs ∧ tt σ2 H2 fun b H3 =>
      if b = true then te σ2 H3 fun y H4 => ∃ ac, H4 D = some (.lst ac) ∧ ac.length < sizeLine ∧ Pv (j + 1) (upd H4 D (.lst (ac ++ [y]))) else Pv (j + 1) H3) (fin : ∀ H, Pv kvs.length H → Qd H) :
    ∃ W : Nat → Nat → Hp → Prop, (∃ m, W 0 m (upd H1 D (.lst []))) ∧ ∀ i m H, W i m H →
      ((Itk d od kvs).stop i H ∧ Qd H) ∨ ((Itk d od kvs).go i H ∧ ∃ Nx : Hp → Prop, (∀ H', Nx H' → ∃ m', m' < m ∧ W (i + 1) m' H') ∧ ∀ x H', (Itk d od kvs).yld i H x H' → g x (wipe σ vs) H' fun σ2 H2 => wipe σ2 vs = wipe σ vs ∧ tt σ2 H2 fun b H3 =>
        if b = true then te σ2 H3 fun y H4 => ∃ ac, H4 D = some (.lst ac) ∧ ac.length < sizeLine ∧ Nx (upd H4 D (.lst (ac ++ [y]))) else Nx H3) := by
  refine ⟨fun j c H => c = kvs.length - j ∧ j ≤ kvs.length ∧ Pv j H, ⟨_, rfl, Nat.zero_le _, base⟩, fun j c H h => ?_⟩
  obtain ⟨hc, hj, p⟩ := h
  have st := still j H hj p
  rcases Nat.lt_or_ge j kvs.length with lt | ge
  · refine .inr ⟨⟨st, lt⟩, Pv (j + 1), fun H' p' => ⟨kvs.length - (j + 1), by omega, rfl, lt, p'⟩, fun x H' y => ?_⟩
    obtain ⟨rfl, k, v, e1, rfl⟩ := y
    exact turn j k v _ e1 p
  · have e : j = kvs.length := Nat.le_antisymm hj ge
    rw [e] at p ⊢
    exact .inl ⟨⟨st, Nat.le_refl _⟩, fin H p⟩
section
variable {F : Fr} {K : PySem.W.Frag} {σ : L2.St} {W W1 : Wd F} {ta tb te tc tl ti tk tv : TE} {tt tu : TT} {α β γ δ : Type} {r : Rp α} {s : Rp β} {t : Rp γ} {D : Ends} {tz tx ty : TS}
/-- [x for k in d if ..], d locked -/
theorem eon_lcK {d : Addr} {od : Obj} {kvs : List (Key × V)} {xs : List (Int × α)} {i j : Nat} {ws : List Nat} {R : Int × α → Option β → Prop} (hi : σ[i]? = some (some (.ref d))) (hd : W.G d = some (.frz od (.dK kvs))) (hr : DictR r W.G kvs xs) (hz : xs.length ≤ 40000) (hw : ∀ x, wipe ((wipe σ ws).set j (some x)) ws = wipe σ ws)
    (c : ∀ (m : Nat) x (W1 : Wd F), Le W W1 → xs[m]? = some x → EvC tt te ((wipe σ ws).set j (some (.int x.1))) W1 s (R x)) : EvON (tLc (iKeys (tVar i)) (gName j) tt te ws) σ W s (LcR R xs) := fun W1 l Q q => by
  have h1 := l.ex _ _ hd
  refine ⟨_, hi, d, od, rfl, .inl ⟨kvs, W1.gh _ _ h1, fun p hp => lc_keys (d := d) (od := od) (kvs := kvs) (Acc W1 p s R xs) ⟨W1.own p _ hp, [], rfl, W1.own_le hp, ⟨[], W1.own_at hp, All2.nil⟩, Nat.le_refl _, [], by simp, fun i x o hx => by simp at hx, rfl⟩ ?_ ?_ ?_⟩⟩
  · rintro m _ _ ⟨W3, zs, rfl, l3, _⟩
    exact W3.gh _ _ (l3.ex _ _ h1)
  · rintro m k v _ hm ⟨W3, zs, rfl, l3, o, hzs, hl⟩
    have hm' : m < xs.length := by rw [← hr.1]; exact (List.getElem?_eq_some_iff.mp hm).1
    have hx : xs[m]? = some xs[m] := List.getElem?_eq_getElem hm'
    obtain ⟨v', e1, _⟩ := hr.2 m _ hx
    rw [hm] at e1
    cases e1
    exact ⟨hw _, acc_turn hp l3 o hzs (by omega) hl hx (c m xs[m] W1 l hx)⟩
  · rintro _ ⟨W3, zs, rfl, l3, o, hzs, hl⟩
    rw [hr.1, List.take_length] at hl
    obtain ⟨ys, o1, o2⟩ := o.ex
    exact q p ys W3 zs l3 (le_fresh (Le.refl _) hp) o1 o2 hl
theorem eo_lcK {d : Addr} {od : Obj} {kvs : List (Key × V)} {xs : List (Int × α)} {i j : Nat} {ws : List Nat} (f : Int × α → Bool) (g : Int × α → β) (hi : σ[i]? = some (some (.ref d))) (hd : W.G d = some (.frz od (.dK kvs))) (hr : DictR r W.G kvs xs) (hz : xs.length ≤ 40000) (hw : ∀ x, wipe ((wipe σ ws).set j (some x)) ws = wipe σ ws)
    (c1 : ∀ (m : Nat) x (W1 : Wd F), Le W W1 → xs[m]? = some x → EvB tt ((wipe σ ws).set j (some (.int x.1))) W1 (f x)) (c2 : ∀ (m : Nat) x (W1 : Wd F), Le W W1 → xs[m]? = some x → f x = true → EvR te ((wipe σ ws).set j (some (.int x.1))) W1 s (g x)) : EvO (tLc (iKeys (tVar i)) (gName j) tt te ws) σ W s ((xs.filter f).map g) := fun W1 l Q q =>
  eon_lcK (R := fun x o => o = if f x then some (g x) else none) hi hd hr hz hw (fun m x W1 l hx => EvC.mk (c1 m x W1 l hx) (c2 m x W1 l hx)) W1 l Q fun p vs W2 zs l2 hp o a hl => q p vs W2 l2 hp o (lcr_fm hl ▸ a)
theorem ev_ix0N {P : α × β → Prop} {R : α → Prop} (ha : EvN ta σ W (rT2 r s) P) (hR : ∀ x y, P (x, y) → R x) : EvN (tOp (rIx K) ta (tC (.int 0))) σ W r R :=
  ev_opN ha (EvR.n (ev_int (i := 0))) fun W1 v w x y Q l hv hw hx hy q => by
    obtain ⟨a, u, u', rfl, h1, h2, h3⟩ := hv
    have hw : w = .int y := hw
    subst hw
    subst hy
    exact .inr (.inl ⟨a, _, 0, u, rfl, rfl, sqT_of W1.gh h1, rfl, q u W1 x.1 (Le.refl _) h2 (hR x.1 x.2 hx)⟩)
theorem s_dputN {i : Nat} {p : Addr} {xs : List (Int × α)} {k : Int} {P : α → Prop} (hi : σ[i]? = some (some (.ref p))) (o : OwnD W p r xs) (hb : EvR tb σ W rInt k) (h : EvN te σ W r P) (hz : xs.length < 100000)
    (c : ∀ (W1 : Wd F) x, Kp p W W1 → P x → OwnD W1 p r (dput xs k x) → D.nx σ W1.H) : sDPut (tVar i) tb te D σ W.H := by
  refine h W (Le.refl _) _ fun v W1 x l hv hx => ⟨_, hi, hb W1 l _ fun w W2 l2 hw => ?_⟩
  have hw : w = .int k := hw
  subst hw
  obtain ⟨kvs, h1, h2⟩ := o.ex
  have o2 := (h1.up l).up l2
  refine ⟨p, _, rfl, DPut.k (k := (Sum.inl k : Key)) o2.h (by rw [h2.1]; exact Nat.lt_of_lt_of_le hz (by decide)), ?_⟩
  exact c (W2.put p _ o2.z o2.g) x ⟨l.ex.trans l2.ex, fun q u ne y => ((y.up l).up l2).put ne _ _⟩ hx ⟨_, W2.put_at o2.z o2.g, (h2.mono (l.ex.trans l2.ex)).put (r.mono l2.ex hv)⟩
end
end Q

namespace Q
open PySem L2
local macro_rules | `(tactic| walk_at "up") => do
  let l := Lean.mkIdent `l
  let mut ts : Array (Lean.TSyntax `tactic) := #[]
  for i in [1, 2, 3, 4, 5, 6, 7, 8, 9, 10, 11, 12, 13, 14, 15, 16] do
    let h := Lean.mkIdent (Lean.Name.mkSimple s!"h{i}")
    ts := ts.push (← `(tactic| try replace $h:ident := Rp.up (Le.ex $l) $h))
    ts := ts.push (← `(tactic| try replace $h:ident := Rp.up (Wk.ex $l) $h))
    ts := ts.push (← `(tactic| try replace $h:ident := Rp.up (Kp.ex $l) $h))
  for i in [1, 2, 3, 4] do
    let h := Lean.mkIdent (Lean.Name.mkSimple s!"o{i}")
    ts := ts.push (← `(tactic| try replace $h:ident := OwnL.up $l $h))
    ts := ts.push (← `(tactic| try replace $h:ident := OwnD.up $l $h))
  `(tactic| ($[$ts:tactic];*))
local macro_rules | `(tactic| walk_at "cm") => `(tactic| first | exact Or.inl ⟨by omega, by omega⟩ | exact Or.inr ⟨by omega, by omega⟩)
local macro_rules | `(tactic| walk_at "ev") => `(tactic| repeat' first
  | exact ev_var rfl (by first | assumption | rfl)
  | exact ev_int | exact ev_bl | exact ev_str | exact ev_non
  | (refine' ev_addA ?_ ?_) | (refine' ev_sub ?_ ?_)
  | (refine' ev_mulA ?_ ?_ ?_; rotate_left 2; walk_at "cm")
  | (refine' ev_mod ?_ ?_ ?_; rotate_left 2; omega)
  | (refine' ev_lt ?_ ?_) | (refine' ev_le ?_ ?_) | (refine' ev_gt ?_ ?_) | (refine' ev_ge ?_ ?_)
  | (refine' ev_lenA ?_) | (refine' ev_in ?_ ?_) | (refine' ev_nin ?_ ?_)
  | (refine' ev_jx0 ?_) | (refine' ev_jx1 ?_) | (refine' ev_jx2 ?_) | (refine' ev_ix0 ?_) | (refine' ev_ix1 ?_)
  | (refine ev_chain_lelt ?_ ?_ ?_) | (refine ev_chain_lele ?_ ?_ ?_)
  | (refine' et_r ?_) | (refine' et_b ?_) | (refine' et_not ?_) | (refine' et_and ?_ fun _ => ?_) | (refine' et_or ?_ fun _ => ?_)
  | (refine' ev_pow ?_ ?_ ⟨by decide, by decide, by decide⟩)
  | (refine' ev_t2 ?_ ?_) | (refine' ev_t3 ?_ ?_ ?_)
  | exact et_yes)

section
variable {P : Program} {w : World} {K : PySem.W.Frag} {mg : Str → Option Value} {base : Heap}
theorem ok_law (T : Txt K mg) : FnOk P w K mg base CX0 5 T.d_law.f T.d_law.fd ["_law_script"] (spLaw K) := by
  have G_d_dice : FnOk P w K mg base CX0 1 T.d_dice.f T.d_dice.fd ["_law_script"] (SpDice K) := ok_dice T
  have G_d_next : FnOk P w K mg base CX0 1 T.d_next.f T.d_next.fd ["_law_dice_here", "_law_many"] (SpNext K) := ok_next T
  have G_d_net : FnOk P w K mg base CX0 2 T.d_net.f T.d_net.fd ["_law_d", "_law_places", "_law_lines"] (SpNet K) := ok_net T
  have G_m_Net_init : FnOk P w K mg base CX0 2 T.m_Net_init.f T.m_Net_init.fd ["self", "needs", "sources", "lines"] (SpInit T.C_Net) := ok_init T
  have G_d_led : FnOk P w K mg base CX0 2 T.d_led.f T.d_led.fd ["_law_net_here", "_law_some", "_law_begin"] SpLed := ok_led T
  have G_d_keeps : FnOk P w K mg base CX0 4 T.d_keeps.f T.d_keeps.fd ["net", "broken"] (SpKeeps T.C_Net) := ok_keeps T
  have G_d_weak : FnOk P w K mg base CX0 4 T.d_weak.f T.d_weak.fd ["net", "broken"] (SpWeak T.C_Net) := ok_weak T
  have G_d_parted : FnOk P w K mg base CX0 3 T.d_parted.f T.d_parted.fd ["net", "broken", "place"] (SpParted T.C_Net) := ok_parted T
  refine T.d_law.F.ok sc_d_law (fun vs H Q E h => ?_) (fun cdv A outer s H vs Q E hr h => ?_)
  · obtain ⟨a, ns, rfl, _⟩ := h; rfl
  · obtain ⟨sc, ns, rfl, hS, hl63, k⟩ := h
    have hu := hu_of hr
    refine ⟨_, (pss_cons (ps_set (i := 1) sc_d_law.nd rfl (.inr rfl) (pe_call G_d_dice (hr.mono (by decide)) (by rfl) T.d_dice.m T.d_dice.F.kp T.d_dice.b .nil pass0 (pa_cons (pv 0) pa_nil)))
      (pss_cons (ps_set (i := 2) sc_d_law.nd rfl (.inl rfl) (pe_call G_d_net (hr.mono (by decide)) (by rfl) T.d_net.m T.d_net.F.kp T.d_net.b .nil pass0 (pa_cons (pv 1) (pa_cons pe_int (pa_cons pe_int pa_nil)))))
      (pss_cons (ps_set (i := 3) sc_d_law.nd rfl (.inl rfl) (pe_make T.k_Net G_m_Net_init (hr.mono (by decide)) (by rfl) T.g_Net T.m_Net_init.b .nil pass0 (pa_cons (pe_ix (kIx K) (pv 2) pe_int (fun _ _ => rfl)) (pa_cons (pe_ix (kIx K) (pv 2) pe_int (fun _ _ => rfl)) (pa_cons (pe_ix (kIx K) (pv 2) pe_int (fun _ _ => rfl)) pa_nil)))))
      (pss_cons (ps_set (i := 4) sc_d_law.nd rfl (.inr rfl) (pe_lc (own := [("_law_line", 9)]) (g := gName 9) (by rfl) sc_d_law.nd  (pi_range1 (by rfl) T.z_range (pa_cons (pe_callB (kLen K) (by rfl) T.z_len PySem.boot_len (pa_cons (pe_ix (kIx K) (pv 2) pe_int (fun _ _ => rfl)) pa_nil)) pa_nil)) (blkOk_by (N := n_d_law) (sc := defScope s_d_law) (by decide +kernel)) (fun _ _ _ _ _ => (pg_name (i := 9) sc_d_law.nd rfl (.inl rfl))) (fun _ _ _ _ _ => (pts_one (pt_cmpR (kEq K hr.units) (pe_call G_d_next (hr.mono (by decide)) (by rfl) T.d_next.m T.d_next.F.kp T.d_next.b .nil pass0 (pa_cons (pv 1) (pa_cons pe_int pa_nil))) pe_int (nomark _)))) (fun _ _ _ _ _ => (pv 9))))
      (pss_cons (ps_setLc (i := 5) (own := [("_law_line", 9)]) (g := gName 9) rfl sc_d_law.nd rfl rfl (sw_true rfl rfl rfl (by decide +kernel)) (pi_range1 (by rfl) T.z_range (pa_cons (pe_callB (kLen K) (by rfl) T.z_len PySem.boot_len (pa_cons (pe_ix (kIx K) (pv 2) pe_int (fun _ _ => rfl)) pa_nil)) pa_nil)) (blkOk_by (N := n_d_law) (sc := defScope s_d_law) (by decide +kernel)) (fun _ _ _ _ _ => (pg_name (i := 9) sc_d_law.nd rfl (.inl rfl))) (fun _ _ _ _ _ => (pts_one (pt_cmpR (kNotIn K) (pv 9) (pv 4) (by rfl)))) (fun _ _ _ _ _ => (pv 9)))
      (pss_cons (ps_set (i := 6) sc_d_law.nd rfl (.inr rfl) (pe_call G_d_weak (hr.mono (by decide)) (by rfl) T.d_weak.m T.d_weak.F.kp T.d_weak.b .nil pass0 (pa_cons (pv 3) (pa_cons (pv 4) pa_nil))))
      (pss_cons (ps_set (i := 7) sc_d_law.nd rfl (.inr rfl) pe_dnewK)
      (pss_cons (ps_for PassesOwn.never rfl (pi_range1 (by rfl) T.z_range (pa_cons (pe_callB (kLen K) (by rfl) T.z_len PySem.boot_len (pa_cons (pe_ix (kIx K) (pv 2) pe_int (fun _ _ => rfl)) pa_nil)) pa_nil)) (pg_name (i := 8) sc_d_law.nd rfl (.inl rfl)) (pss_one (ps_if (pt_cmpR (kNotIn K) (pv 8) (pe_ix (kIx K) (pv 2) pe_int (fun _ _ => rfl)) (by rfl)) (pss_one (ps_dput hu (pv 7) (pv 8) (pe_ix (kIx K) (pe_call G_d_parted (hr.mono (by decide)) (by rfl) T.d_parted.m T.d_parted.F.kp T.d_parted.b .nil pass0 (pa_cons (pv 3) (pa_cons (pv 4) (pa_cons (pv 8) pa_nil)))) pe_int (fun _ _ => rfl)) rfl)) pss_nil)))
      (pss_cons (ps_if (pt_cmpR (kNe K hr.units) (pe_lock (pe_lc (own := [("_law_place", 8)]) (g := gName 8) (by rfl) sc_d_law.nd  (pi_keys (pv 7)) (blkOk_by (N := n_d_law) (sc := defScope s_d_law) (by decide +kernel)) (fun _ _ _ _ _ => (pg_name (i := 8) sc_d_law.nd rfl (.inl rfl))) (fun _ _ _ _ _ => (pts_one (PW.pt (pw_and (pt_cmpR (kEq K hr.units) (pe_callB (kLen K) (by rfl) T.z_len PySem.boot_len (pa_cons (pe_dget hu (pv 7) (pv 8) (fun _ _ => rfl)) pa_nil)) pe_int (nomark _)) (pw_and1 (pt_cmpR (kNotIn K) (pe_ix (kIx K) (pe_dget hu (pv 7) (pv 8) (fun _ _ => rfl)) pe_int (fun _ _ => rfl)) (pv 6) (by rfl))))))) (fun _ _ _ _ _ => (pv 8)))) (pe_lst pa_nil) (nomark _)) (pss_one (ps_ret pe_bl)) pss_nil)
      (pss_cons (ps_for PassesOwn.never rfl (kPiList K (pv 6)) (pg_name (i := 9) sc_d_law.nd rfl (.inr rfl)) (pss_cons (ps_set (i := 10) sc_d_law.nd rfl (.inr rfl) (pe_call G_d_led (hr.mono (by decide)) (by rfl) T.d_led.m T.d_led.F.kp T.d_led.b .nil pass0 (pa_cons (pv 2) (pa_cons (pe_lc (own := [("_law_k", 12)]) (g := gName 12) (by rfl) sc_d_law.nd  (kPiList K (pv 5)) (blkOk_by (N := n_d_law) (sc := defScope s_d_law) (by decide +kernel)) (fun _ _ _ _ _ => (pg_name (i := 12) sc_d_law.nd rfl (.inl rfl))) (fun _ _ _ _ _ => (pts_one (pt_cmpR (kNe K hr.units) (pv 12) (pv 9) (nomark _)))) (fun _ _ _ _ _ => (pv 12))) (pa_cons (pe_ix (kIx K) (pv 2) pe_int (fun _ _ => rfl)) pa_nil)))))
      (pss_cons (ps_setLc (i := 11) (own := [("_law_place", 8)]) (g := gName 8) rfl sc_d_law.nd rfl rfl (sw_true rfl rfl rfl (by decide +kernel)) (kPiList K (pe_call G_d_led (hr.mono (by decide)) (by rfl) T.d_led.m T.d_led.F.kp T.d_led.b .nil pass0 (pa_cons (pv 2) (pa_cons (pv 5) (pa_cons (pe_ix (kIx K) (pv 2) pe_int (fun _ _ => rfl)) pa_nil))))) (blkOk_by (N := n_d_law) (sc := defScope s_d_law) (by decide +kernel)) (fun _ _ _ _ _ => (pg_name (i := 8) sc_d_law.nd rfl (.inl rfl))) (fun _ _ _ _ _ => (pts_one (pt_cmpR (kNotIn K) (pv 8) (pv 10) (by rfl)))) (fun _ _ _ _ _ => (pv 8)))
      (pss_one (ps_if (PW.pt (pw_or (pt_cmpR (kEq K hr.units) (pv 11) (pe_lst pa_nil) (nomark _)) (pw_or (pt_cmpR (kNe K hr.units) (pe_lc (own := [("_law_place", 8)]) (g := gName 8) (by rfl) sc_d_law.nd  (kPiList K (pv 11)) (blkOk_by (N := n_d_law) (sc := defScope s_d_law) (by decide +kernel)) (fun _ _ _ _ _ => (pg_name (i := 8) sc_d_law.nd rfl (.inl rfl))) (fun _ _ _ _ _ => (pts_one (pt_cmpR (kNe K hr.units) (pe_callB (kLen K) (by rfl) T.z_len PySem.boot_len (pa_cons (pe_dget hu (pv 7) (pv 8) (fun _ _ => rfl)) pa_nil)) pe_int (nomark _)))) (fun _ _ _ _ _ => (pv 8))) (pe_lst pa_nil) (nomark _)) (pw_or1 (pt_val (pe_call G_d_keeps (hr.mono (by decide)) (by rfl) T.d_keeps.m T.d_keeps.F.kp T.d_keeps.b .nil pass0 (pa_cons (pv 3) (pa_cons (pe_op op_addA (pv 4) (pe_lst (pa_cons (pv 9) pa_nil))) pa_nil)))))))) (pss_one (ps_ret pe_bl)) pss_nil)))))
      (pss_cons (ps_if (pt_cmpR (kEq K hr.units) (pv 6) (pe_lst pa_nil) (nomark _)) (pss_one (ps_ret (pe_cmpR (kEq K hr.units) (pe_lock (pe_lc (own := [("_law_place", 8)]) (g := gName 8) (by rfl) sc_d_law.nd  (pi_keys (pv 7)) (blkOk_by (N := n_d_law) (sc := defScope s_d_law) (by decide +kernel)) (fun _ _ _ _ _ => (pg_name (i := 8) sc_d_law.nd rfl (.inl rfl))) (fun _ _ _ _ _ => (pts_one (pt_cmpR (kEq K hr.units) (pe_callB (kLen K) (by rfl) T.z_len PySem.boot_len (pa_cons (pe_dget hu (pv 7) (pv 8) (fun _ _ => rfl)) pa_nil)) pe_int (nomark _)))) (fun _ _ _ _ _ => (pv 8)))) (pe_lst pa_nil) (nomark _)))) pss_nil)
      (pss_one (ps_ret pe_bl))))))))))))), ?_⟩
    refine ⟨_, rfl, sc, ns, rfl, hS, hl63, fun d H1 hd ex1 da => ?_⟩
    have hs : SqL K H sc (ns.map V.int) := hS
    refine q_asgN (W := Wd.inD H H1 d sc da ex1 hd) (ev_net rfl hs ev_int ev_int (by decide) (by decide) (by decide) (by decide)) fun v2 W rows l h2 ok => ?_
    walk_at "up"
    have lk := rows_lines ok (by decide) (by decide)
    have sl := rows_src ok (by decide)
    refine q_asgN (ev_make (ev_jx0 (ev_var rfl h2)) (ev_jx1 (ev_var rfl h2)) (ev_jx2 (ev_var rfl h2)) (rows_net ok (by decide) (by decide))) fun v3 W net l h3 hnet => ?_
    walk_at "up"
    obtain ⟨n1, n2, n3, _⟩ := hnet
    have ng := net_g ok (by decide) (by decide) n1 n2 n3
    have nled := fun b => net_led (b := b) n1 n2 n3
    -- broken
    refine q_asgN (r := rList rInt) (P := fun zs => zs.length ≤ 10) (EvN.imp (EvON.fz (eon_lcR (s := rInt) (n := ((rows.2.2.length : Nat) : Int)) (R := fun x o => o = none ∨ (o = some x ∧ True)) (ev_lenA (r := rLine) (ev_jx2 (ev_var rfl h2))) (by have := lk.l1; omega) (fun _ => rfl) (fun x W1 l a1 a2 => ?_))) fun zs hx => ?_) fun v4 W broken l h4 hb => ?_
    · refine EvC.imp (EvC.sel (P := fun _ => True) (et_draw (m := 6) rfl hs ev_int (by decide) (by decide)) (ev_var rfl rfl)) fun o ho => ?_
      rcases ho with ⟨h, _⟩ | ⟨h, _⟩
      · exact .inr ⟨h, trivial⟩
      · exact .inl h
    · have := (lcr_sub hx).1.length_le
      rw [rg_len] at this
      have := lk.l1
      omega
    walk_at "up"
    -- whole
    obtain ⟨wh, ewh⟩ : ∃ wh, wh = wholeM rows.2.2.length broken := ⟨_, rfl⟩
    refine q_asg (r := rList rInt) (x := wh) (EvO.fz (EvO.is (eo_lcR (s := rInt) (n := ((rows.2.2.length : Nat) : Int)) (fun l => !decide (l ∈ broken)) (fun l => l) (ev_lenA (r := rLine) (ev_jx2 (ev_var rfl h2))) (by have := lk.l1; omega) (fun _ => rfl) (fun m W1 l a1 a2 => et_r (ev_nin (ev_var rfl rfl) (ev_var rfl (Rp.up l.ex h4)))) (fun m W1 l a1 a2 _ => ev_var rfl rfl)) (by rw [ewh]; simp [wholeM]))) fun v5 W l h5 => ?_
    walk_at "up"
    have wn : Nums rows.2.2.length wh := ewh ▸ wholeM_nums
    have wl : wh.length ≤ 10 := ewh ▸ Nat.le_trans wholeM_len lk.l1
    -- found
    obtain ⟨wk, ewk⟩ : ∃ wk, wk = weakM net broken := ⟨_, rfl⟩
    have mwk : ∀ x, x ∈ wk ↔ x ∈ wh ∧ (ledM rows.1.length rows.2.2 (wh.filter fun l => !decide (l = x)) rows.2.1).length < (ledM rows.1.length rows.2.2 wh rows.2.1).length := by
      intro x
      rw [ewk, ewh]
      unfold weakM
      rw [List.mem_filter, n2, nled, nled, wholeM_snoc, decide_eq_true_eq]
    refine q_asg (r := rList rInt) (x := wk) (EvR.is (ev_call2 (r := rNet T.C_Net) (s := rList rInt) (t := rList rInt) (ev_var rfl h3) (ev_var rfl h4) ⟨ng, by omega⟩) ewk.symm) fun v6 W l h6 => ?_
    walk_at "up"
    -- cuts
    refine q_asgD0 (r := rList rInt) _ rfl fun pc W l f o1 => ?_
    walk_at "up"
    have nl10 : rows.1.length ≤ 10 := lk.n2
    refine q_forR (n := ((rows.1.length : Nat) : Int)) (ev_lenA (r := rInt) (ev_jx0 (ev_var rfl h2))) ⟨by omega, by omega⟩ fun W l => ?_
    walk_at "up"
    refine ⟨fun i σ W => ∃ k8 zs, σ = [some (.ref sc), some (.ref d), some v2, some v3, some v4, some v5, some v6, some (.ref pc), k8, none, none, none, none] ∧ OwnD W pc (rList rInt) zs ∧ zs.length ≤ i ∧ (keysD zs).Nodup ∧ (∀ p, p ∈ keysD zs ↔ (0 ≤ p ∧ p < (i : Int)) ∧ p ∉ rows.2.1) ∧ ∀ x ∈ zs, CutOk rows.1.length rows.2.2 wh rows.2.1 x.1 x.2, ⟨none, [], rfl, o1, Nat.le_refl _, List.nodup_nil, fun p => ⟨fun h => absurd h List.not_mem_nil, fun h => by omega⟩, fun x hx => absurd hx List.not_mem_nil⟩, ?_, ?_⟩
    · rintro i σ W l hi ⟨k8, zs, rfl, o1, zl, znd, zk, zc⟩
      have hi : i < rows.1.length := by simpa using hi
      walk_at "up"
      refine s_when (W := W) (b := !decide ((i : Int) ∈ rows.2.1)) (et_r (ev_nin (ev_var rfl rfl) (ev_jx1 (ev_var rfl h2)))) (fun hb W1 l1 => ?_) (fun hb W1 l1 => ?_)
      · have hns : (i : Int) ∉ rows.2.1 := by simpa using hb
        replace h3 := Rp.up l1.ex h3
        replace h4 := Rp.up l1.ex h4
        refine s_dputN (W := W1) (r := rList rInt) (P := fun c => CutOk rows.1.length rows.2.2 wh rows.2.1 (i : Int) c) rfl (o1.up l1) (ev_var rfl rfl) (ev_ix0N (r := rList rInt) (s := rList (rList rInt)) (ev_callN3 (r := rNet T.C_Net) (s := rList rInt) (t := rInt) (q := rT2 (rList rInt) (rList (rList rInt))) (x := net) (y := broken) (z := (i : Int)) (ev_var rfl h3) (ev_var rfl h4) (ev_var rfl rfl) ⟨ng, fun z => hns (n3.mem_iff.mp z), by omega, by rw [n1]; omega⟩) (fun x y hz => ?_)) (by omega) fun W2 c kp hc o2 => ?_
        · have hz : CutOk net.needs.length net.lines (wholeM net.lines.length broken) net.sources (i : Int) x := hz
          rw [n1, n2, ← ewh] at hz
          exact hz.srcs fun b => n3.mem_iff
        · have hk : (i : Int) ∉ keysD zs := fun z => by have := (zk _).mp z; omega
          rw [dput_new (dlook_none.mpr hk)] at o2
          refine ⟨W2, rfl, ⟨l.ex.trans (l1.ex.trans kp.ex)⟩, _, zs ++ [((i : Int), c)], rfl, o2, by rw [List.length_append]; simp; omega, ?_, fun p => ?_, fun x hx => ?_⟩
          · rw [keys_app, List.nodup_append]
            refine ⟨znd, by simp, fun a ha b hb e => ?_⟩
            rw [List.mem_singleton] at hb
            exact hk (hb ▸ e ▸ ha)
          · rw [keys_app, List.mem_append, List.mem_singleton, zk]
            constructor
            · rintro (⟨a, b⟩ | rfl)
              · exact ⟨by omega, b⟩
              · exact ⟨by omega, hns⟩
            · rintro ⟨a, b⟩
              by_cases e : p = (i : Int)
              · exact .inr e
              · exact .inl ⟨by omega, b⟩
          · rcases List.mem_append.mp hx with z | z
            · exact zc x z
            · rw [List.mem_singleton] at z; subst z; exact hc
      · have hns : (i : Int) ∈ rows.2.1 := by simpa using hb
        refine ⟨W1, rfl, ⟨l.ex.trans l1.ex⟩, _, zs, rfl, o1.up l1, by omega, znd, fun p => ?_, zc⟩
        rw [zk]
        constructor
        · rintro ⟨a, b⟩; exact ⟨by omega, b⟩
        · rintro ⟨a, b⟩
          have : p ≠ (i : Int) := fun z => b (z ▸ hns)
          exact ⟨by omega, b⟩
    rintro σ W l ⟨k8, zs, rfl, o1, zl, znd, zk, zc⟩
    have zl : zs.length ≤ 10 := by
      have : ((rows.1.length : Nat) : Int).toNat = rows.1.length := by omega
      omega
    have zk : ∀ p, p ∈ keysD zs ↔ (0 ≤ p ∧ p < (rows.1.length : Int)) ∧ p ∉ rows.2.1 := fun p => by
      rw [zk]
      have : (((rows.1.length : Nat) : Int).toNat : Int) = rows.1.length := by omega
      rw [this]
    walk_at "up"
    obtain ⟨W2, e2, kp, h7⟩ := o1.fz
    have l := kp
    clear o1
    walk_at "up"
    rw [← e2]
    clear e2 kp
    have h7' := h7
    obtain ⟨_, kvs, ecp, hd7, hr7⟩ := h7'
    cases ecp
    -- no place that one line parts without a weak one
    have cutw : ∀ x ∈ zs, x.2.length = 1 → ∃ c, x.2[0]? = some c ∧ c ∈ wk := fun x hx e => by
      obtain ⟨c, ec⟩ : ∃ c, x.2[0]? = some c := ⟨_, List.getElem?_eq_getElem (by omega)⟩
      exact ⟨c, ec, (mwk c).mpr (one_weak lk wn ok.s2 (zc x hx) e ec)⟩
    refine q_when (W := W2) (b := false) (EvB.is (et_r (ev_neD (x := ([] : List Int)) (y := []) dtInts (ev_lock hd7 ntz_ints fun W1 l e od => ?_) ev_emp)) (by simp)) (fun z => nomatch z) fun _ W l => ?_
    · have hdr : DictR (rList rInt) (W1.lk pc (.dK kvs) (.frz od (.dK kvs)) e).G kvs zs := ntk_ints.dr e ⟨_, rfl⟩ (hr7.mono l.ex)
      have h6' : (rList rInt).rel (W1.lk pc (.dK kvs) (.frz od (.dK kvs)) e).G v6 wk := ntk_ints _ _ _ _ _ _ e ⟨_, rfl⟩ (Rp.up l.ex h6)
      refine EvO.fz (EvO.is (eo_lcK (s := rInt) (r := rList rInt) (fun x => decide (((x.2.length : Nat) : Int) = 1) && !decide (x.2.getD 0 0 ∈ wk)) (fun x => x.1) rfl upd_same hdr (by omega) (fun _ => rfl) (fun m x W3 l3 hx => ?_) (fun m x W3 l3 hx _ => ev_var rfl rfl)) ?_)
      · have hx2 : dlook zs x.1 = some x.2 := dlook_of_mem znd (List.mem_of_getElem? hx)
        refine et_and (et_r (ev_eqA fl_int (ev_lenA (r := rInt) (ev_dgetL (d := pc) (od := od) (kvs := kvs) rfl (l3.ex _ _ upd_same) (hdr.mono l3.ex) (ev_var rfl rfl) hx2)) ev_int)) fun h1 => ?_
        have h1 : x.2.length = 1 := by have := of_decide_eq_true h1; omega
        obtain ⟨c, ec, _⟩ := cutw x (List.mem_of_getElem? hx) h1
        have e3 : x.2.getD 0 0 = c := by rw [List.getD_eq_getElem?_getD, ec]; rfl
        rw [e3]
        exact et_r (ev_nin (ev_ixL (r := rInt) (x := c) (ev_dgetL (d := pc) (od := od) (kvs := kvs) rfl (l3.ex _ _ upd_same) (hdr.mono l3.ex) (ev_var rfl rfl) hx2) ev_int ⟨by decide, ec⟩) (ev_var rfl (Rp.up l3.ex h6')))
      · rw [List.filter_eq_nil_iff.mpr]
        · rfl
        · intro x hx z
          rw [Bool.and_eq_true] at z
          have h1 : x.2.length = 1 := by have := of_decide_eq_true z.1; omega
          obtain ⟨c, ec, hc⟩ := cutw x hx h1
          have e3 : x.2.getD 0 0 = c := by rw [List.getD_eq_getElem?_getD, ec]; rfl
          rw [e3] at z
          simp [hc] at z
    have l0 := l
    walk_at "up"
    have hd7 := l0.ex _ _ hd7
    have hr7 := hr7.mono l0.ex
    clear l0
    -- each weak line
    refine q_forL (r := rInt) (xs := wk) (ev_var rfl h6) fun W l => ?_
    have l0 := l
    walk_at "up"
    have hd7 := l0.ex _ _ hd7
    have hr7 := hr7.mono l0.ex
    clear l0
    refine ⟨fun i σ W => ∃ k9 k10 k11, σ = [some (.ref sc), some (.ref d), some v2, some v3, some v4, some v5, some v6, some (.ref pc), k8, k9, k10, k11, none], ⟨_, _, _, rfl⟩, ?_, ?_⟩
    · rintro i x v σ W l hi e ⟨k9, k10, k11, rfl⟩
      cases e
      have lw := l
      walk_at "up"
      have hxm := (mwk x).mp (List.mem_of_getElem? hi)
      obtain ⟨lf, elf⟩ : ∃ lf, lf = ledM rows.1.length rows.2.2 (wh.filter fun y => !decide (y = x)) rows.2.1 := ⟨_, rfl⟩
      obtain ⟨lo, elo⟩ : ∃ lo, lo = (ledM rows.1.length rows.2.2 wh rows.2.1).filter fun p => !decide (p ∈ lf) := ⟨_, rfl⟩
      have lone : lo ≠ [] := by rw [elo, elf]; exact lost_ne hxm.2
      have lled : (ledM rows.1.length rows.2.2 wh rows.2.1).length ≤ 10 := Nat.le_trans led_len nl10
      have lol : lo.length ≤ 10 := by rw [elo]; exact Nat.le_trans (List.length_filter_le _ _) lled
      have loc : ∀ p ∈ lo, ∃ c, dlook zs p = some c ∧ c.length = 1 := fun p hp => by
        rw [elo, elf] at hp
        obtain ⟨hp1, hp2⟩ := List.mem_filter.mp hp
        have hp2 : p ∉ ledM rows.1.length rows.2.2 (wh.filter fun y => !decide (y = x)) rows.2.1 := by simpa using hp2
        have hk : p ∈ keysD zs := (zk p).mpr ⟨(mem_ledM.mp hp1).1, fun z => hp2 (src_led ok.s2 z)⟩
        obtain ⟨c, hc⟩ := dlook_isSome.mp hk
        exact ⟨c, hc, weak_one (zc _ (dlook_mem hc)) hp1 hp2⟩
      refine q_asg (r := rList rInt) (x := lf) (EvR.is (ev_call3 (r := rRows) (s := rList rInt) (t := rList rInt) (q := rList rInt) (y := wh.filter fun y => !decide (y = x)) (ev_var rfl h2) (EvO.fz (EvO.is (eo_lcL (r := rInt) (s := rInt) (fun y => !decide (y = x)) (fun y => y) (ev_var rfl h5) (by omega) (fun _ => rfl) (fun j y u W1 l1 hj e => by cases e; exact et_r (ev_neA fl_int (ev_var rfl rfl) (ev_var rfl rfl))) (fun j y u W1 l1 hj e _ => ev_var rfl e)) (by simp))) (ev_jx1 (ev_var rfl h2)) ⟨lk, fun y hy => wn y (List.mem_filter.mp hy).1, ok.s2, sl⟩) elf.symm) fun v10 W l h8 => ?_
      have lw := lw.ex.trans l.ex
      walk_at "up"
      refine q_asg (r := rList rInt) (x := lo) (EvO.fz (EvO.is (eo_lcL (r := rInt) (s := rInt) (fun p => !decide (p ∈ lf)) (fun p => p) (ev_call3 (r := rRows) (s := rList rInt) (t := rList rInt) (q := rList rInt) (ev_var rfl h2) (ev_var rfl h5) (ev_jx1 (ev_var rfl h2)) ⟨lk, wn, ok.s2, sl⟩) (by omega) (fun _ => rfl) (fun j y u W1 l1 hj e => by cases e; exact et_r (ev_nin (ev_var rfl rfl) (ev_var rfl (Rp.up l1.ex h8)))) (fun j y u W1 l1 hj e _ => ev_var rfl e)) (by rw [elo]; simp))) fun v11 W l h9 => ?_
      have lw := lw.trans l.ex
      walk_at "up"
      refine s_when (W := W) (b := false) (EvB.is (et_or (et_r (ev_eqD dtInts (ev_var rfl h9) ev_emp)) fun _ => et_or (et_r (ev_neD (x := ([] : List Int)) (y := []) dtInts (EvO.fz (EvO.is (eo_lcL (r := rInt) (s := rInt) (fun _ => false) (fun p => p) (ev_var rfl h9) (by omega) (fun _ => rfl) (fun j y u W1 l1 hj e => ?_) (fun j y u W1 l1 hj e _ => ev_var rfl e)) (by simp))) ev_emp)) fun _ => et_r (ev_call2 (r := rNet T.C_Net) (s := rList rInt) (t := rBool) (ev_var rfl h3) (EvO.fz (eo_catA (r := rInt) (ev_var rfl h4) (EvO.fz (eo_lst (el_cons (ev_var rfl rfl) el_nil) (by simp))) (by simp; omega))) ng)) ?_) (fun z => nomatch z) fun _ W1 l1 => ?_
      · cases e
        obtain ⟨c, hc1, hc2⟩ := loc y (List.mem_of_getElem? hj)
        refine EvB.is (et_r (ev_neA fl_int (ev_lenA (r := rInt) (ev_dget (ev_var rfl (Rp.up l1.ex h7)) (ev_var rfl rfl) hc1)) ev_int)) (by rw [hc2]; simp)
      · rw [decide_eq_false lone]
        have := hxm.2
        have l9 := led_len (n := rows.1.length) (ls := rows.2.2) (W := wh) (S := rows.2.1)
        rw [nled, wholeM_snoc, ← ewh, n1]
        simp
        omega
      · exact ⟨W1, rfl, ⟨lw.trans l1.ex⟩, _, _, _, rfl⟩
    · rintro σ W l ⟨k9, k10, k11, rfl⟩
      have l0 := l
      walk_at "up"
      have hd7 := l0.ex _ _ hd7
      have hr7 := hr7.mono l0.ex
      clear l0
      refine q_when (W := W) (b := decide (wk = [])) (et_r (ev_eqD dtInts (ev_var rfl h6) ev_emp)) (fun hb W1 l1 => ?_) (fun hb W1 l1 => ?_)
      · have hb : wk = [] := of_decide_eq_true hb
        have hd7 := l1.ex _ _ hd7
        have hr7 := hr7.mono l1.ex
        refine s_ret (W := W1) (r := rBool) (x := true) (EvR.is (ev_eqD (x := ([] : List Int)) (y := []) dtInts (ev_lock hd7 ntz_ints fun W2 l2 e od => ?_) ev_emp) (by simp)) fun v W e => by rw [show v = .bl true from e]; exact k _
        have hdr : DictR (rList rInt) (W2.lk pc (.dK kvs) (.frz od (.dK kvs)) e).G kvs zs := ntk_ints.dr e ⟨_, rfl⟩ (hr7.mono l2.ex)
        refine EvO.fz (EvO.is (eo_lcK (s := rInt) (r := rList rInt) (fun x => decide (((x.2.length : Nat) : Int) = 1)) (fun x => x.1) rfl upd_same hdr (by omega) (fun _ => rfl) (fun m x W3 l3 hx => ?_) (fun m x W3 l3 hx _ => ev_var rfl rfl)) ?_)
        · have hx2 : dlook zs x.1 = some x.2 := dlook_of_mem znd (List.mem_of_getElem? hx)
          exact et_r (ev_eqA fl_int (ev_lenA (r := rInt) (ev_dgetL (d := pc) (od := od) (kvs := kvs) rfl (l3.ex _ _ upd_same) (hdr.mono l3.ex) (ev_var rfl rfl) hx2)) ev_int)
        · rw [List.filter_eq_nil_iff.mpr]
          · rfl
          · intro x hx z
            have h1 : x.2.length = 1 := by have := of_decide_eq_true z; omega
            obtain ⟨c, _, hc⟩ := cutw x hx h1
            rw [hb] at hc
            cases hc
      · exact s_ret (W := W1) (r := rBool) (x := true) ev_bl fun v W e => by rw [show v = .bl true from e]; exact k _
end
end Q

namespace Q
open PySem L2
theorem all_mk {l : PySem.W.OpenLaw} {w : World} {K : PySem.W.Frag} {h : Heap} {mg : Str → Option Value} {fa CNet f0 f1 f2 f3 f4 f5 f6 f7 f8 f9 f10 f11 f12 f13 f14 f15 f16 f17 f18 f19 f20 f21 f22 f23 f24 f25 f26 f27  : Addr}  (X : K.In h) (G : h.Ns mainGlobals mg) (hfa : mg "law" = some (.ref fa))
    {od0 an0 od1 an1 od2 an2 od3 an3 od4 an4 od5 an5 od6 an6 od7 an7 od8 an8 od9 an9 od10 an10 od11 an11 od12 an12 od13 an13 od14 an14 od15 an15 od16 an16 od17 an17 od18 an18 od19 an19 od20 an20 od21 an21 od22 an22 od23 an23 od24 an24 od25 an25 od26 an26 od27 an27 : Option Addr} {sl0 sl1 sl2 sl3 sl4 sl5 sl6 sl7 sl8 sl9 sl10 sl11 sl12 sl13 sl14 sl15 sl16 sl17 sl18 sl19 sl20 sl21 sl22 sl23 sl24 sl25 sl26 sl27 : Array (Option Value)} {oc0 kV0 dc0 pm0 cd0 ct0 oc1 kV1 dc1 pm1 cd1 ct1 oc2 kV2 dc2 pm2 cd2 ct2 oc3 kV3 dc3 pm3 cd3 ct3 oc4 kV4 dc4 pm4 cd4 ct4 oc5 kV5 dc5 pm5 cd5 ct5 oc6 kV6 dc6 pm6 cd6 ct6 oc7 kV7 dc7 pm7 cd7 ct7 oc8 kV8 dc8 pm8 cd8 ct8 oc9 kV9 dc9 pm9 cd9 ct9 oc10 kV10 dc10 pm10 cd10 ct10 oc11 kV11 dc11 pm11 cd11 ct11 oc12 kV12 dc12 pm12 cd12 ct12 oc13 kV13 dc13 pm13 cd13 ct13 oc14 kV14 dc14 pm14 cd14 ct14 oc15 kV15 dc15 pm15 cd15 ct15 oc16 kV16 dc16 pm16 cd16 ct16 oc17 kV17 dc17 pm17 cd17 ct17 oc18 kV18 dc18 pm18 cd18 ct18 oc19 kV19 dc19 pm19 cd19 ct19 oc20 kV20 dc20 pm20 cd20 ct20 oc21 kV21 dc21 pm21 cd21 ct21 oc22 kV22 dc22 pm22 cd22 ct22 oc23 kV23 dc23 pm23 cd23 ct23 oc24 kV24 dc24 pm24 cd24 ct24 oc25 kV25 dc25 pm25 cd25 ct25 oc26 kV26 dc26 pm26 cd26 ct26 oc27 kV27 dc27 pm27 cd27 ct27 : Value} {t_MOST_PLACES t_MOST_LINES t_MOST_WORTH : Tok}
    (aCNet : PySem.W.nsIn K mainGlobals "Net" = some (some (.ref CNet)))
    (a0 : PySem.W.nsIn K mainGlobals "whole_lines" = some (some (.ref f0)))
    (l0 : K.lookup f0 = some ⟨oc0, od0, .func (PySem.W.fnOf "whole_lines" "whole_lines" (defArgs s_d_whole_lines) (defBody s_d_whole_lines) (defScope s_d_whole_lines) .none kV0 dc0 pm0 an0 cd0 ct0), sl0⟩)
    (c0 : PySem.W.codeIn K cd0 "whole_lines" = true)
    (k0 : PySem.W.keepIn K (.ref f0) = true)
    (a1 : PySem.W.nsIn K mainGlobals "steps_over" = some (some (.ref f1)))
    (l1 : K.lookup f1 = some ⟨oc1, od1, .func (PySem.W.fnOf "steps_over" "steps_over" (defArgs s_d_steps_over) (defBody s_d_steps_over) (defScope s_d_steps_over) .none kV1 dc1 pm1 an1 cd1 ct1), sl1⟩)
    (c1 : PySem.W.codeIn K cd1 "steps_over" = true)
    (k1 : PySem.W.keepIn K (.ref f1) = true)
    (a2 : PySem.W.nsIn K mainGlobals "reached" = some (some (.ref f2)))
    (l2 : K.lookup f2 = some ⟨oc2, od2, .func (PySem.W.fnOf "reached" "reached" (defArgs s_d_reached) (defBody s_d_reached) (defScope s_d_reached) .none kV2 dc2 pm2 an2 cd2 ct2), sl2⟩)
    (c2 : PySem.W.codeIn K cd2 "reached" = true)
    (k2 : PySem.W.keepIn K (.ref f2) = true)
    (a3 : PySem.W.nsIn K mainGlobals "way_to" = some (some (.ref f3)))
    (l3 : K.lookup f3 = some ⟨oc3, od3, .func (PySem.W.fnOf "way_to" "way_to" (defArgs s_d_way_to) (defBody s_d_way_to) (defScope s_d_way_to) .none kV3 dc3 pm3 an3 cd3 ct3), sl3⟩)
    (c3 : PySem.W.codeIn K cd3 "way_to" = true)
    (k3 : PySem.W.keepIn K (.ref f3) = true)
    (a4 : PySem.W.nsIn K mainGlobals "parted" = some (some (.ref f4)))
    (l4 : K.lookup f4 = some ⟨oc4, od4, .func (PySem.W.fnOf "parted" "parted" (defArgs s_d_parted) (defBody s_d_parted) (defScope s_d_parted) .none kV4 dc4 pm4 an4 cd4 ct4), sl4⟩)
    (c4 : PySem.W.codeIn K cd4 "parted" = true)
    (k4 : PySem.W.keepIn K (.ref f4) = true)
    (a5 : PySem.W.nsIn K mainGlobals "keeps" = some (some (.ref f5)))
    (l5 : K.lookup f5 = some ⟨oc5, od5, .func (PySem.W.fnOf "keeps" "keeps" (defArgs s_d_keeps) (defBody s_d_keeps) (defScope s_d_keeps) .none kV5 dc5 pm5 an5 cd5 ct5), sl5⟩)
    (c5 : PySem.W.codeIn K cd5 "keeps" = true)
    (k5 : PySem.W.keepIn K (.ref f5) = true)
    (a6 : PySem.W.nsIn K mainGlobals "weak" = some (some (.ref f6)))
    (l6 : K.lookup f6 = some ⟨oc6, od6, .func (PySem.W.fnOf "weak" "weak" (defArgs s_d_weak) (defBody s_d_weak) (defScope s_d_weak) .none kV6 dc6 pm6 an6 cd6 ct6), sl6⟩)
    (c6 : PySem.W.codeIn K cd6 "weak" = true)
    (k6 : PySem.W.keepIn K (.ref f6) = true)
    (a7 : PySem.W.nsIn K mainGlobals "kept_places" = some (some (.ref f7)))
    (l7 : K.lookup f7 = some ⟨oc7, od7, .func (PySem.W.fnOf "kept_places" "kept_places" (defArgs s_d_kept_places) (defBody s_d_kept_places) (defScope s_d_kept_places) .none kV7 dc7 pm7 an7 cd7 ct7), sl7⟩)
    (c7 : PySem.W.codeIn K cd7 "kept_places" = true)
    (k7 : PySem.W.keepIn K (.ref f7) = true)
    (a8 : PySem.W.nsIn K mainGlobals "most_used" = some (some (.ref f8)))
    (l8 : K.lookup f8 = some ⟨oc8, od8, .func (PySem.W.fnOf "most_used" "most_used" (defArgs s_d_most_used) (defBody s_d_most_used) (defScope s_d_most_used) .none kV8 dc8 pm8 an8 cd8 ct8), sl8⟩)
    (c8 : PySem.W.codeIn K cd8 "most_used" = true)
    (k8 : PySem.W.keepIn K (.ref f8) = true)
    (a9 : PySem.W.nsIn K mainGlobals "spare_steps" = some (some (.ref f9)))
    (l9 : K.lookup f9 = some ⟨oc9, od9, .func (PySem.W.fnOf "spare_steps" "spare_steps" (defArgs s_d_spare_steps) (defBody s_d_spare_steps) (defScope s_d_spare_steps) .none kV9 dc9 pm9 an9 cd9 ct9), sl9⟩)
    (c9 : PySem.W.codeIn K cd9 "spare_steps" = true)
    (k9 : PySem.W.keepIn K (.ref f9) = true)
    (a10 : PySem.W.nsIn K mainGlobals "used_steps" = some (some (.ref f10)))
    (l10 : K.lookup f10 = some ⟨oc10, od10, .func (PySem.W.fnOf "used_steps" "used_steps" (defArgs s_d_used_steps) (defBody s_d_used_steps) (defScope s_d_used_steps) .none kV10 dc10 pm10 an10 cd10 ct10), sl10⟩)
    (c10 : PySem.W.codeIn K cd10 "used_steps" = true)
    (k10 : PySem.W.keepIn K (.ref f10) = true)
    (a11 : PySem.W.nsIn K mainGlobals "use_way" = some (some (.ref f11)))
    (l11 : K.lookup f11 = some ⟨oc11, od11, .func (PySem.W.fnOf "use_way" "use_way" (defArgs s_d_use_way) (defBody s_d_use_way) (defScope s_d_use_way) .none kV11 dc11 pm11 an11 cd11 ct11), sl11⟩)
    (c11 : PySem.W.codeIn K cd11 "use_way" = true)
    (k11 : PySem.W.keepIn K (.ref f11) = true)
    (a12 : PySem.W.nsIn K mainGlobals "cut_lines" = some (some (.ref f12)))
    (l12 : K.lookup f12 = some ⟨oc12, od12, .func (PySem.W.fnOf "cut_lines" "cut_lines" (defArgs s_d_cut_lines) (defBody s_d_cut_lines) (defScope s_d_cut_lines) .none kV12 dc12 pm12 an12 cd12 ct12), sl12⟩)
    (c12 : PySem.W.codeIn K cd12 "cut_lines" = true)
    (k12 : PySem.W.keepIn K (.ref f12) = true)
    (a13 : PySem.W.nsIn K mainGlobals "used_ways" = some (some (.ref f13)))
    (l13 : K.lookup f13 = some ⟨oc13, od13, .func (PySem.W.fnOf "used_ways" "used_ways" (defArgs s_d_used_ways) (defBody s_d_used_ways) (defScope s_d_used_ways) .none kV13 dc13 pm13 an13 cd13 ct13), sl13⟩)
    (c13 : PySem.W.codeIn K cd13 "used_ways" = true)
    (k13 : PySem.W.keepIn K (.ref f13) = true)
    (a14 : PySem.W.findIn K (.ref CNet) "__init__" = some (some (.ref f14)))
    (i14 : PySem.W.isFn K (.ref f14) = true)
    (l14 : K.lookup f14 = some ⟨oc14, od14, .func (PySem.W.fnOf "__init__" "Net.__init__" (defArgs s_m_Net_init) (defBody s_m_Net_init) (defScope s_m_Net_init) .none kV14 dc14 pm14 an14 cd14 ct14), sl14⟩)
    (c14 : PySem.W.codeIn K cd14 "Net.__init__" = true)
    (k14 : PySem.W.keepIn K (.ref f14) = true)
    (a15 : PySem.W.findIn K (.ref CNet) "places" = some (some (.ref f15)))
    (i15 : PySem.W.isFn K (.ref f15) = true)
    (l15 : K.lookup f15 = some ⟨oc15, od15, .func (PySem.W.fnOf "places" "Net.places" (defArgs s_m_Net_places) (defBody s_m_Net_places) (defScope s_m_Net_places) .none kV15 dc15 pm15 an15 cd15 ct15), sl15⟩)
    (c15 : PySem.W.codeIn K cd15 "Net.places" = true)
    (k15 : PySem.W.keepIn K (.ref f15) = true)
    (a16 : PySem.W.findIn K (.ref CNet) "needs" = some (some (.ref f16)))
    (i16 : PySem.W.isFn K (.ref f16) = true)
    (l16 : K.lookup f16 = some ⟨oc16, od16, .func (PySem.W.fnOf "needs" "Net.needs" (defArgs s_m_Net_needs) (defBody s_m_Net_needs) (defScope s_m_Net_needs) .none kV16 dc16 pm16 an16 cd16 ct16), sl16⟩)
    (c16 : PySem.W.codeIn K cd16 "Net.needs" = true)
    (k16 : PySem.W.keepIn K (.ref f16) = true)
    (a17 : PySem.W.findIn K (.ref CNet) "sources" = some (some (.ref f17)))
    (i17 : PySem.W.isFn K (.ref f17) = true)
    (l17 : K.lookup f17 = some ⟨oc17, od17, .func (PySem.W.fnOf "sources" "Net.sources" (defArgs s_m_Net_sources) (defBody s_m_Net_sources) (defScope s_m_Net_sources) .none kV17 dc17 pm17 an17 cd17 ct17), sl17⟩)
    (c17 : PySem.W.codeIn K cd17 "Net.sources" = true)
    (k17 : PySem.W.keepIn K (.ref f17) = true)
    (a18 : PySem.W.findIn K (.ref CNet) "lines" = some (some (.ref f18)))
    (i18 : PySem.W.isFn K (.ref f18) = true)
    (l18 : K.lookup f18 = some ⟨oc18, od18, .func (PySem.W.fnOf "lines" "Net.lines" (defArgs s_m_Net_lines) (defBody s_m_Net_lines) (defScope s_m_Net_lines) .none kV18 dc18 pm18 an18 cd18 ct18), sl18⟩)
    (c18 : PySem.W.codeIn K cd18 "Net.lines" = true)
    (k18 : PySem.W.keepIn K (.ref f18) = true)
    (a19 : PySem.W.nsIn K mainGlobals "check_needs" = some (some (.ref f19)))
    (l19 : K.lookup f19 = some ⟨oc19, od19, .func (PySem.W.fnOf "check_needs" "check_needs" (defArgs s_d_check_needs) (defBody s_d_check_needs) (defScope s_d_check_needs) .none kV19 dc19 pm19 an19 cd19 ct19), sl19⟩)
    (c19 : PySem.W.codeIn K cd19 "check_needs" = true)
    (k19 : PySem.W.keepIn K (.ref f19) = true)
    (a20 : PySem.W.nsIn K mainGlobals "check_sources" = some (some (.ref f20)))
    (l20 : K.lookup f20 = some ⟨oc20, od20, .func (PySem.W.fnOf "check_sources" "check_sources" (defArgs s_d_check_sources) (defBody s_d_check_sources) (defScope s_d_check_sources) .none kV20 dc20 pm20 an20 cd20 ct20), sl20⟩)
    (c20 : PySem.W.codeIn K cd20 "check_sources" = true)
    (k20 : PySem.W.keepIn K (.ref f20) = true)
    (a21 : PySem.W.nsIn K mainGlobals "check_lines" = some (some (.ref f21)))
    (l21 : K.lookup f21 = some ⟨oc21, od21, .func (PySem.W.fnOf "check_lines" "check_lines" (defArgs s_d_check_lines) (defBody s_d_check_lines) (defScope s_d_check_lines) .none kV21 dc21 pm21 an21 cd21 ct21), sl21⟩)
    (c21 : PySem.W.codeIn K cd21 "check_lines" = true)
    (k21 : PySem.W.keepIn K (.ref f21) = true)
    (a22 : PySem.W.nsIn K mainGlobals "_law_dice" = some (some (.ref f22)))
    (l22 : K.lookup f22 = some ⟨oc22, od22, .func (PySem.W.fnOf "_law_dice" "_law_dice" (defArgs s_d_dice) (defBody s_d_dice) (defScope s_d_dice) .none kV22 dc22 pm22 an22 cd22 ct22), sl22⟩)
    (c22 : PySem.W.codeIn K cd22 "_law_dice" = true)
    (k22 : PySem.W.keepIn K (.ref f22) = true)
    (a23 : PySem.W.nsIn K mainGlobals "_law_next" = some (some (.ref f23)))
    (l23 : K.lookup f23 = some ⟨oc23, od23, .func (PySem.W.fnOf "_law_next" "_law_next" (defArgs s_d_next) (defBody s_d_next) (defScope s_d_next) .none kV23 dc23 pm23 an23 cd23 ct23), sl23⟩)
    (c23 : PySem.W.codeIn K cd23 "_law_next" = true)
    (k23 : PySem.W.keepIn K (.ref f23) = true)
    (a24 : PySem.W.nsIn K mainGlobals "_law_net" = some (some (.ref f24)))
    (l24 : K.lookup f24 = some ⟨oc24, od24, .func (PySem.W.fnOf "_law_net" "_law_net" (defArgs s_d_net) (defBody s_d_net) (defScope s_d_net) .none kV24 dc24 pm24 an24 cd24 ct24), sl24⟩)
    (c24 : PySem.W.codeIn K cd24 "_law_net" = true)
    (k24 : PySem.W.keepIn K (.ref f24) = true)
    (a25 : PySem.W.nsIn K mainGlobals "_law_groups" = some (some (.ref f25)))
    (l25 : K.lookup f25 = some ⟨oc25, od25, .func (PySem.W.fnOf "_law_groups" "_law_groups" (defArgs s_d_groups) (defBody s_d_groups) (defScope s_d_groups) .none kV25 dc25 pm25 an25 cd25 ct25), sl25⟩)
    (c25 : PySem.W.codeIn K cd25 "_law_groups" = true)
    (k25 : PySem.W.keepIn K (.ref f25) = true)
    (a26 : PySem.W.nsIn K mainGlobals "_law_led" = some (some (.ref f26)))
    (l26 : K.lookup f26 = some ⟨oc26, od26, .func (PySem.W.fnOf "_law_led" "_law_led" (defArgs s_d_led) (defBody s_d_led) (defScope s_d_led) .none kV26 dc26 pm26 an26 cd26 ct26), sl26⟩)
    (c26 : PySem.W.codeIn K cd26 "_law_led" = true)
    (k26 : PySem.W.keepIn K (.ref f26) = true)
    (a27 : PySem.W.nsIn K mainGlobals "law" = some (some (.ref f27)))
    (l27 : K.lookup f27 = some ⟨oc27, od27, .func (PySem.W.fnOf "law" "law" (defArgs s_d_law) (defBody s_d_law) (defScope s_d_law) .none kV27 dc27 pm27 an27 cd27 ct27), sl27⟩)
    (c27 : PySem.W.codeIn K cd27 "law" = true)
    (k27 : PySem.W.keepIn K (.ref f27) = true)
    (pgNet : PySem.W.plainGet K CNet Str.empty = true)
    (hdNet : PySem.W.hasDictIn K CNet = true)
    (poNet : PySem.W.plainOver K CNet = true)
    (saNet : PySem.W.findIn K (.ref CNet) "__setattr__" = some (some (.builtin "object.__setattr__")))
    (mkNet : PySem.W.makesIn K CNet = true)
    (kcNet : PySem.W.keepIn K (.ref CNet) = true)
    (na_needs : PySem.W.findIn K (.ref CNet) "_needs" = some none)
    (na_sources : PySem.W.findIn K (.ref CNet) "_sources" = some none)
    (na_lines : PySem.W.findIn K (.ref CNet) "_lines" = some none)
    (cc_MOST_PLACES : PySem.W.nsIn K mainGlobals "MOST_PLACES" = some (some (.int 10 t_MOST_PLACES)))
    (cc_MOST_LINES : PySem.W.nsIn K mainGlobals "MOST_LINES" = some (some (.int 10 t_MOST_LINES)))
    (cc_MOST_WORTH : PySem.W.nsIn K mainGlobals "MOST_WORTH" = some (some (.int 1000000 t_MOST_WORTH)))
    (z_len : PySem.W.nsIn K mainGlobals "len" = some none)
    (z_range : PySem.W.nsIn K mainGlobals "range" = some none)
    (z_list : PySem.W.nsIn K mainGlobals "list" = some none)
    (z_int : PySem.W.nsIn K mainGlobals "int" = some none)
    (z_sorted : PySem.W.nsIn K mainGlobals "sorted" = some none)
    (z_enumerate : PySem.W.nsIn K mainGlobals "enumerate" = some none)
    (z_dict : PySem.W.nsIn K mainGlobals "dict" = some none)
    (z_sum : PySem.W.nsIn K mainGlobals "sum" = some none)
    (z_set : PySem.W.nsIn K mainGlobals "set" = some none)
    (z_ValueError : PySem.W.nsIn K mainGlobals "ValueError" = some none) :
    ∃ fd : FuncData, (∀ (s : Shared) (v : Value), BindsTo s fd ⟨[v], []⟩ [("_law_script", v)]) ∧ ∀ base : Heap, K.In base → base.Ns mainGlobals mg → FnOk l.prog w K mg base CX0 5 fa fd ["_law_script"] (spLaw K) := by
  have e := hfa.symm.trans (PySem.W.mg_of X G a27)
  cases e
  have F0 := fun_mk (st := s_d_whole_lines) l0 c0 k0
  have b0 := F0.binds (ps := ["net", "broken"]) fun _ _ _ _ _ _ us hl => match us, hl with | [_, _], _ => rfl
  have F1 := fun_mk (st := s_d_steps_over) l1 c1 k1
  have b1 := F1.binds (ps := ["net", "numbers"]) fun _ _ _ _ _ _ us hl => match us, hl with | [_, _], _ => rfl
  have F2 := fun_mk (st := s_d_reached) l2 c2 k2
  have b2 := F2.binds (ps := ["steps", "starts"]) fun _ _ _ _ _ _ us hl => match us, hl with | [_, _], _ => rfl
  have F3 := fun_mk (st := s_d_way_to) l3 c3 k3
  have b3 := F3.binds (ps := ["came", "place"]) fun _ _ _ _ _ _ us hl => match us, hl with | [_, _], _ => rfl
  have F4 := fun_mk (st := s_d_parted) l4 c4 k4
  have b4 := F4.binds (ps := ["net", "broken", "place"]) fun _ _ _ _ _ _ us hl => match us, hl with | [_, _, _], _ => rfl
  have F5 := fun_mk (st := s_d_keeps) l5 c5 k5
  have b5 := F5.binds (ps := ["net", "broken"]) fun _ _ _ _ _ _ us hl => match us, hl with | [_, _], _ => rfl
  have F6 := fun_mk (st := s_d_weak) l6 c6 k6
  have b6 := F6.binds (ps := ["net", "broken"]) fun _ _ _ _ _ _ us hl => match us, hl with | [_, _], _ => rfl
  have F7 := fun_mk (st := s_d_kept_places) l7 c7 k7
  have b7 := F7.binds (ps := ["net", "broken"]) fun _ _ _ _ _ _ us hl => match us, hl with | [_, _], _ => rfl
  have F8 := fun_mk (st := s_d_most_used) l8 c8 k8
  have b8 := F8.binds (ps := ["steps", "sources", "place"]) fun _ _ _ _ _ _ us hl => match us, hl with | [_, _, _], _ => rfl
  have F9 := fun_mk (st := s_d_spare_steps) l9 c9 k9
  have b9 := F9.binds (ps := ["steps", "heads"]) fun _ _ _ _ _ _ us hl => match us, hl with | [_, _], _ => rfl
  have F10 := fun_mk (st := s_d_used_steps) l10 c10 k10
  have b10 := F10.binds (ps := ["steps", "heads"]) fun _ _ _ _ _ _ us hl => match us, hl with | [_, _], _ => rfl
  have F11 := fun_mk (st := s_d_use_way) l11 c11 k11
  have b11 := F11.binds (ps := ["heads", "came", "place"]) fun _ _ _ _ _ _ us hl => match us, hl with | [_, _, _], _ => rfl
  have F12 := fun_mk (st := s_d_cut_lines) l12 c12 k12
  have b12 := F12.binds (ps := ["net", "whole", "came"]) fun _ _ _ _ _ _ us hl => match us, hl with | [_, _, _], _ => rfl
  have F13 := fun_mk (st := s_d_used_ways) l13 c13 k13
  have b13 := F13.binds (ps := ["steps", "heads", "sources", "place"]) fun _ _ _ _ _ _ us hl => match us, hl with | [_, _, _, _], _ => rfl
  have F14 := fun_mk (st := s_m_Net_init) l14 c14 k14
  have b14 := F14.binds (ps := ["self", "needs", "sources", "lines"]) fun _ _ _ _ _ _ us hl => match us, hl with | [_, _, _, _], _ => rfl
  have F15 := fun_mk (st := s_m_Net_places) l15 c15 k15
  have b15 := F15.binds (ps := ["self"]) fun _ _ _ _ _ _ us hl => match us, hl with | [_], _ => rfl
  have F16 := fun_mk (st := s_m_Net_needs) l16 c16 k16
  have b16 := F16.binds (ps := ["self"]) fun _ _ _ _ _ _ us hl => match us, hl with | [_], _ => rfl
  have F17 := fun_mk (st := s_m_Net_sources) l17 c17 k17
  have b17 := F17.binds (ps := ["self"]) fun _ _ _ _ _ _ us hl => match us, hl with | [_], _ => rfl
  have F18 := fun_mk (st := s_m_Net_lines) l18 c18 k18
  have b18 := F18.binds (ps := ["self"]) fun _ _ _ _ _ _ us hl => match us, hl with | [_], _ => rfl
  have F19 := fun_mk (st := s_d_check_needs) l19 c19 k19
  have b19 := F19.binds (ps := ["needs"]) fun _ _ _ _ _ _ us hl => match us, hl with | [_], _ => rfl
  have F20 := fun_mk (st := s_d_check_sources) l20 c20 k20
  have b20 := F20.binds (ps := ["sources", "many"]) fun _ _ _ _ _ _ us hl => match us, hl with | [_, _], _ => rfl
  have F21 := fun_mk (st := s_d_check_lines) l21 c21 k21
  have b21 := F21.binds (ps := ["lines", "many"]) fun _ _ _ _ _ _ us hl => match us, hl with | [_, _], _ => rfl
  have F22 := fun_mk (st := s_d_dice) l22 c22 k22
  have b22 := F22.binds (ps := ["_law_script"]) fun _ _ _ _ _ _ us hl => match us, hl with | [_], _ => rfl
  have F23 := fun_mk (st := s_d_next) l23 c23 k23
  have b23 := F23.binds (ps := ["_law_dice_here", "_law_many"]) fun _ _ _ _ _ _ us hl => match us, hl with | [_, _], _ => rfl
  have F24 := fun_mk (st := s_d_net) l24 c24 k24
  have b24 := F24.binds (ps := ["_law_d", "_law_places", "_law_lines"]) fun _ _ _ _ _ _ us hl => match us, hl with | [_, _, _], _ => rfl
  have F25 := fun_mk (st := s_d_groups) l25 c25 k25
  have b25 := F25.binds (ps := ["_law_net_here", "_law_some"]) fun _ _ _ _ _ _ us hl => match us, hl with | [_, _], _ => rfl
  have F26 := fun_mk (st := s_d_led) l26 c26 k26
  have b26 := F26.binds (ps := ["_law_net_here", "_law_some", "_law_begin"]) fun _ _ _ _ _ _ us hl => match us, hl with | [_, _, _], _ => rfl
  have F27 := fun_mk (st := s_d_law) l27 c27 k27
  have b27 := F27.binds (ps := ["_law_script"]) fun _ _ _ _ _ _ us hl => match us, hl with | [_], _ => rfl
  let T : Txt K mg := {
    C_Net := CNet
    l_Net := ⟨pgNet, hdNet, poNet, saNet⟩
    g_Net := PySem.W.mg_of X G aCNet
    d_whole_lines := ⟨f0, _, F0, PySem.W.mg_of X G a0, b0⟩
    d_steps_over := ⟨f1, _, F1, PySem.W.mg_of X G a1, b1⟩
    d_reached := ⟨f2, _, F2, PySem.W.mg_of X G a2, b2⟩
    d_way_to := ⟨f3, _, F3, PySem.W.mg_of X G a3, b3⟩
    d_parted := ⟨f4, _, F4, PySem.W.mg_of X G a4, b4⟩
    d_keeps := ⟨f5, _, F5, PySem.W.mg_of X G a5, b5⟩
    d_weak := ⟨f6, _, F6, PySem.W.mg_of X G a6, b6⟩
    d_kept_places := ⟨f7, _, F7, PySem.W.mg_of X G a7, b7⟩
    d_most_used := ⟨f8, _, F8, PySem.W.mg_of X G a8, b8⟩
    d_spare_steps := ⟨f9, _, F9, PySem.W.mg_of X G a9, b9⟩
    d_used_steps := ⟨f10, _, F10, PySem.W.mg_of X G a10, b10⟩
    d_use_way := ⟨f11, _, F11, PySem.W.mg_of X G a11, b11⟩
    d_cut_lines := ⟨f12, _, F12, PySem.W.mg_of X G a12, b12⟩
    d_used_ways := ⟨f13, _, F13, PySem.W.mg_of X G a13, b13⟩
    m_Net_init := ⟨f14, _, F14, ⟨a14, i14, k14⟩, b14⟩
    m_Net_places := ⟨f15, _, F15, ⟨a15, i15, k15⟩, b15⟩
    m_Net_needs := ⟨f16, _, F16, ⟨a16, i16, k16⟩, b16⟩
    m_Net_sources := ⟨f17, _, F17, ⟨a17, i17, k17⟩, b17⟩
    m_Net_lines := ⟨f18, _, F18, ⟨a18, i18, k18⟩, b18⟩
    d_check_needs := ⟨f19, _, F19, PySem.W.mg_of X G a19, b19⟩
    d_check_sources := ⟨f20, _, F20, PySem.W.mg_of X G a20, b20⟩
    d_check_lines := ⟨f21, _, F21, PySem.W.mg_of X G a21, b21⟩
    d_dice := ⟨f22, _, F22, PySem.W.mg_of X G a22, b22⟩
    d_next := ⟨f23, _, F23, PySem.W.mg_of X G a23, b23⟩
    d_net := ⟨f24, _, F24, PySem.W.mg_of X G a24, b24⟩
    d_groups := ⟨f25, _, F25, PySem.W.mg_of X G a25, b25⟩
    d_led := ⟨f26, _, F26, PySem.W.mg_of X G a26, b26⟩
    d_law := ⟨fa, _, F27, PySem.W.mg_of X G a27, b27⟩
    k_Net := ⟨mkNet, a14, i14, kcNet⟩
    na_needs := na_needs
    na_sources := na_sources
    na_lines := na_lines
    c_MOST_PLACES := ⟨t_MOST_PLACES, PySem.W.mg_of X G cc_MOST_PLACES⟩
    c_MOST_LINES := ⟨t_MOST_LINES, PySem.W.mg_of X G cc_MOST_LINES⟩
    c_MOST_WORTH := ⟨t_MOST_WORTH, PySem.W.mg_of X G cc_MOST_WORTH⟩
    z_len := PySem.W.mg_none_of X G z_len
    z_range := PySem.W.mg_none_of X G z_range
    z_list := PySem.W.mg_none_of X G z_list
    z_int := PySem.W.mg_none_of X G z_int
    z_sorted := PySem.W.mg_none_of X G z_sorted
    z_enumerate := PySem.W.mg_none_of X G z_enumerate
    z_dict := PySem.W.mg_none_of X G z_dict
    z_sum := PySem.W.mg_none_of X G z_sum
    z_set := PySem.W.mg_none_of X G z_set
    z_ValueError := PySem.W.mg_none_of X G z_ValueError }
  exact ⟨_, fun s v => .of_eq rfl, fun base _ _ => ok_law T⟩
theorem walk {l : PySem.W.OpenLaw} {q : Program} {loose : List Str} {XP : (Str → Option Value) → Heap → Prop} {YP : World → Heap → Prop} {d : DefRec} {K : Params → PySem.W.Frag} (hn : l.most = some 63) (hdf : d.params.defaults = [])
    (hY : ∀ (w : World) (h : Heap), YP w h → (K w.params).In h)
    (F : ∀ (w : World) (mg : Str → Option Value) (fa : Addr) (h : Heap), (K w.params).In h → h.Ns mainGlobals mg → mg d.name = some (.ref fa) →
      ∃ fd : FuncData, (∀ (s : Shared) (u : Value), BindsTo s fd ⟨[u], []⟩ [("_law_script", u)]) ∧ ∀ base : Heap, (K w.params).In base → base.Ns mainGlobals mg → FnOk l.prog w (K w.params) mg base CX0 5 fa fd ["_law_script"] (spLaw (K w.params))) :
    PySem.W.WalkO q loose XP YP l.row.toRowW d [] (fun f vs => PySem.call f vs) :=
  L2.walk_of (n := 63) (k := 5) (x := "_law_script") (CX := fun _ => CX0) (sp := fun w => spLaw (K w.params)) hn (by decide) hdf ⟨rfl, by decide, by decide⟩ hY F (fun _ _ a ns hl _ hS => ⟨a, ns, rfl, hS, hl, fun _ => rfl⟩) fun _ _ _ _ _ z => z
end Q
open PySem PySem.W PyProof.Rows
set_option maxRecDepth 100000 in
set_option maxHeartbeats 0 in
theorem PySem.Challenge.cw_cuelight_k12_whole_weak_lines_part_holds : PySem.Challenge.rw_cuelight_k12_whole_weak_lines_part.Holds := by
  w_on; o_law; k_head; (case hw => w_witness2)
  k_fill
  refine Q.walk (l := PySem.Challenge.rw_cuelight_k12_whole_weak_lines_part) rfl rfl (fun w h Y => PySem.W.kIn_of Y) ?F
  case F =>
    intro w mg fa h KX G hmg
    refine' Q.all_mk KX G hmg ?aCNet ?a0 ?l0 ?c0 ?k0 ?a1 ?l1 ?c1 ?k1 ?a2 ?l2 ?c2 ?k2 ?a3 ?l3 ?c3 ?k3 ?a4 ?l4 ?c4 ?k4 ?a5 ?l5 ?c5 ?k5 ?a6 ?l6 ?c6 ?k6 ?a7 ?l7 ?c7 ?k7 ?a8 ?l8 ?c8 ?k8 ?a9 ?l9 ?c9 ?k9 ?a10 ?l10 ?c10 ?k10 ?a11 ?l11 ?c11 ?k11 ?a12 ?l12 ?c12 ?k12 ?a13 ?l13 ?c13 ?k13 ?a14 ?i14 ?l14 ?c14 ?k14 ?a15 ?i15 ?l15 ?c15 ?k15 ?a16 ?i16 ?l16 ?c16 ?k16 ?a17 ?i17 ?l17 ?c17 ?k17 ?a18 ?i18 ?l18 ?c18 ?k18 ?a19 ?l19 ?c19 ?k19 ?a20 ?l20 ?c20 ?k20 ?a21 ?l21 ?c21 ?k21 ?a22 ?l22 ?c22 ?k22 ?a23 ?l23 ?c23 ?k23 ?a24 ?l24 ?c24 ?k24 ?a25 ?l25 ?c25 ?k25 ?a26 ?l26 ?c26 ?k26 ?a27 ?l27 ?c27 ?k27 ?pgNet ?hdNet ?poNet ?saNet ?mkNet ?kcNet ?na_needs ?na_sources ?na_lines ?cc_MOST_PLACES ?cc_MOST_LINES ?cc_MOST_WORTH ?z_len ?z_range ?z_list ?z_int ?z_sorted ?z_enumerate ?z_dict ?z_sum ?z_set ?z_ValueError
    (case aCNet => k_is)
    (case a0 => k_is)
    (case l0 => k_is)
    (case c0 => k_is)
    (case k0 => k_is)
    (case a1 => k_is)
    (case l1 => k_is)
    (case c1 => k_is)
    (case k1 => k_is)
    (case a2 => k_is)
    (case l2 => k_is)
    (case c2 => k_is)
    (case k2 => k_is)
    (case a3 => k_is)
    (case l3 => k_is)
    (case c3 => k_is)
    (case k3 => k_is)
    (case a4 => k_is)
    (case l4 => k_is)
    (case c4 => k_is)
    (case k4 => k_is)
    (case a5 => k_is)
    (case l5 => k_is)
    (case c5 => k_is)
    (case k5 => k_is)
    (case a6 => k_is)
    (case l6 => k_is)
    (case c6 => k_is)
    (case k6 => k_is)
    (case a7 => k_is)
    (case l7 => k_is)
    (case c7 => k_is)
    (case k7 => k_is)
    (case a8 => k_is)
    (case l8 => k_is)
    (case c8 => k_is)
    (case k8 => k_is)
    (case a9 => k_is)
    (case l9 => k_is)
    (case c9 => k_is)
    (case k9 => k_is)
    (case a10 => k_is)
    (case l10 => k_is)
    (case c10 => k_is)
    (case k10 => k_is)
    (case a11 => k_is)
    (case l11 => k_is)
    (case c11 => k_is)
    (case k11 => k_is)
    (case a12 => k_is)
    (case l12 => k_is)
    (case c12 => k_is)
    (case k12 => k_is)
    (case a13 => k_is)
    (case l13 => k_is)
    (case c13 => k_is)
    (case k13 => k_is)
    (case a14 => k_is)
    (case i14 => k_is)
    (case l14 => k_is)
    (case c14 => k_is)
    (case k14 => k_is)
    (case a15 => k_is)
    (case i15 => k_is)
    (case l15 => k_is)
    (case c15 => k_is)
    (case k15 => k_is)
    (case a16 => k_is)
    (case i16 => k_is)
    (case l16 => k_is)
    (case c16 => k_is)
    (case k16 => k_is)
    (case a17 => k_is)
    (case i17 => k_is)
    (case l17 => k_is)
    (case c17 => k_is)
    (case k17 => k_is)
    (case a18 => k_is)
    (case i18 => k_is)
    (case l18 => k_is)
    (case c18 => k_is)
    (case k18 => k_is)
    (case a19 => k_is)
    (case l19 => k_is)
    (case c19 => k_is)
    (case k19 => k_is)
    (case a20 => k_is)
    (case l20 => k_is)
    (case c20 => k_is)
    (case k20 => k_is)
    (case a21 => k_is)
    (case l21 => k_is)
    (case c21 => k_is)
    (case k21 => k_is)
    (case a22 => k_is)
    (case l22 => k_is)
    (case c22 => k_is)
    (case k22 => k_is)
    (case a23 => k_is)
    (case l23 => k_is)
    (case c23 => k_is)
    (case k23 => k_is)
    (case a24 => k_is)
    (case l24 => k_is)
    (case c24 => k_is)
    (case k24 => k_is)
    (case a25 => k_is)
    (case l25 => k_is)
    (case c25 => k_is)
    (case k25 => k_is)
    (case a26 => k_is)
    (case l26 => k_is)
    (case c26 => k_is)
    (case k26 => k_is)
    (case a27 => k_is)
    (case l27 => k_is)
    (case c27 => k_is)
    (case k27 => k_is)
    (case pgNet => k_is)
    (case hdNet => k_is)
    (case poNet => k_is)
    (case saNet => k_is)
    (case mkNet => k_is)
    (case kcNet => k_is)
    (case na_needs => k_is)
    (case na_sources => k_is)
    (case na_lines => k_is)
    (case cc_MOST_PLACES => k_is)
    (case cc_MOST_LINES => k_is)
    (case cc_MOST_WORTH => k_is)
    (case z_len => k_is)
    (case z_range => k_is)
    (case z_list => k_is)
    (case z_int => k_is)
    (case z_sorted => k_is)
    (case z_enumerate => k_is)
    (case z_dict => k_is)
    (case z_sum => k_is)
    (case z_set => k_is)
    (case z_ValueError => k_is)
