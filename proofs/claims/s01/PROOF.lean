import PyProof.Rows.All
import Wide.All
import OpenK.AllK
import Wide.FinOn
import PyProof.EqAt
import PyProof.EqKinds
import PyProof.TupleCall
import KE.BitLaws
import Open.SpecLaws
import KE.OsHead
import KE.OsGo
import PySr36
import PyFlatLaws
import Sr36Neutral
import KE.KDictList
import KE.KPairComp
import KE.KSortTupG
import KE.KSortKeyAny
import PySem.Challenge.RW_parcelpasses_s01_answers
set_option Elab.async false
set_option linter.all false
set_option maxRecDepth 100000
set_option maxHeartbeats 4000000
section
namespace Wy
open Sr35 Sr36Neutral
def go (l : List Pass) : Nat → Nat → List Nat → Option (Nat × Nat)
 | y, u, [] => some (y, u)
 | y, u, k :: r => match l[k]? with
  | none => none
  | some x => match other x y with
   | none => none
   | some w => if max u x.begins < x.ends then go l w (max u x.begins + x.takes) r else none
theorem go_nil (l : List Pass) (y u : Nat) : go l y u [] = some (y, u) := rfl
theorem go_cons {l : List Pass} {y u k : Nat} {r : List Nat} {z a : Nat} :
  go l y u (k :: r) = some (z, a) ↔ ∃ x w, l[k]? = some x ∧ other x y = some w ∧ max u x.begins < x.ends ∧ go l w (max u x.begins + x.takes) r = some (z, a) := by
 constructor
 ·intro h
  simp only [go] at h
  split at h
  ·cases h
  ·rename_i x hx
   split at h
   ·cases h
   ·rename_i w hw
    split at h
    ·rename_i ho
     exact ⟨x, w, hx, hw, ho, h⟩
    ·cases h
 ·rintro ⟨x, w, hx, hw, ho, h⟩
  simp only [go, hx, hw, if_pos ho]
  exact h
theorem go_app {l : List Pass} : ∀ {r s : List Nat} {y u z a : Nat}, go l y u (r ++ s) = some (z, a) ↔ ∃ w v, go l y u r = some (w, v) ∧ go l w v s = some (z, a)
 | [], s, y, u, z, a => by
  constructor
  ·intro h; exact ⟨y, u, rfl, h⟩
  ·rintro ⟨w, v, h1, h2⟩
   simp only [go_nil, Option.some.injEq, Prod.mk.injEq] at h1
   obtain ⟨rfl, rfl⟩ := h1
   exact h2
 | k :: r, s, y, u, z, a => by
  rw [List.cons_append, go_cons]
  constructor
  ·rintro ⟨x, w, hx, hw, ho, h⟩
   obtain ⟨w', v', h1, h2⟩ := go_app.mp h
   exact ⟨w', v', go_cons.mpr ⟨x, w, hx, hw, ho, h1⟩, h2⟩
  ·rintro ⟨w', v', h1, h2⟩
   obtain ⟨x, w, hx, hw, ho, h⟩ := go_cons.mp h1
   exact ⟨x, w, hx, hw, ho, go_app.mpr ⟨w', v', h, h2⟩⟩
theorem go_one {l : List Pass} {y u k z a : Nat} : go l y u [k] = some (z, a) ↔ ∃ x, l[k]? = some x ∧ other x y = some z ∧ max u x.begins < x.ends ∧ a = max u x.begins + x.takes := by
 rw [go_cons]
 constructor
 ·rintro ⟨x, w, hx, hw, ho, h⟩
  simp only [go_nil, Option.some.injEq, Prod.mk.injEq] at h
  obtain ⟨rfl, rfl⟩ := h
  exact ⟨x, hx, hw, ho, rfl⟩
 ·rintro ⟨x, hx, hw, ho, rfl⟩
  exact ⟨x, z, hx, hw, ho, rfl⟩
theorem go_mono {l : List Pass} : ∀ {r : List Nat} {y u v z a : Nat}, u ≤ v → go l y v r = some (z, a) → ∃ b, go l y u r = some (z, b) ∧ b ≤ a
 | [], y, u, v, z, a, h, e => by
  simp only [go_nil, Option.some.injEq, Prod.mk.injEq] at e
  obtain ⟨rfl, rfl⟩ := e
  exact ⟨u, rfl, h⟩
 | k :: r, y, u, v, z, a, h, e => by
  obtain ⟨x, w, hx, hw, ho, e⟩ := go_cons.mp e
  obtain ⟨b, h1, h2⟩ := go_mono (u := max u x.begins + x.takes) (by omega) e
  exact ⟨b, go_cons.mpr ⟨x, w, hx, hw, by omega, h1⟩, h2⟩
theorem go_lt {l : List Pass} {n : Nat} (hl : ∀ x ∈ l, okPass n x = true) : ∀ {r : List Nat} {y u z a : Nat}, y < n → go l y u r = some (z, a) → z < n
 | [], y, u, z, a, h, e => by
  simp only [go_nil, Option.some.injEq, Prod.mk.injEq] at e
  obtain ⟨rfl, rfl⟩ := e
  exact h
 | k :: r, y, u, z, a, h, e => by
  obtain ⟨x, w, hx, hw, ho, e⟩ := go_cons.mp e
  refine go_lt hl ?_ e
  have := hl x (List.mem_of_getElem? hx)
  simp only [okPass, Bool.and_eq_true, decide_eq_true_eq] at this
  unfold other at hw
  split at hw
  ·cases hw; omega
  ·split at hw
   ·cases hw; omega
   ·cases hw
def hle : Option Nat → Option Nat → Prop
 | none, _ => True
 | some a, some b => a ≤ b
 | some _, none => False
theorem hle_refl : ∀ f : Option Nat, hle f f
 | none => trivial
 | some _ => Nat.le_refl _
theorem hle_trans : ∀ {f g h : Option Nat}, hle f g → hle g h → hle f h
 | none, _, _, _, _ => trivial
 | some _, none, _, a, _ => a.elim
 | some _, some _, none, _, b => b.elim
 | some _, some _, some _, a, b => Nat.le_trans a b
theorem hle_antisymm : ∀ {f g : Option Nat}, hle f g → hle g f → f = g
 | none, none, _, _ => rfl
 | none, some _, _, b => b.elim
 | some _, none, a, _ => a.elim
 | some _, some _, a, b => congrArg some (Nat.le_antisymm a b)
def lle (k : Nat) (f : Option Nat) (k' : Nat) (f' : Option Nat) : Prop := k < k' ∨ (k = k' ∧ hle f f')
theorem lle_refl (k : Nat) (f : Option Nat) : lle k f k f := .inr ⟨rfl, hle_refl f⟩
theorem lle_trans {k f k' f' k'' f''} (a : lle k f k' f') (b : lle k' f' k'' f'') : lle k f k'' f'' := by
 rcases a with a | ⟨rfl, a⟩
 ·rcases b with b | ⟨rfl, b⟩
  ·exact .inl (by omega)
  ·exact .inl a
 ·rcases b with b | ⟨rfl, b⟩
  ·exact .inl b
  ·exact .inr ⟨rfl, hle_trans a b⟩
theorem lle_antisymm {k f k' f'} (a : lle k f k' f') (b : lle k' f' k f) : k = k' ∧ f = f' := by
 rcases a with a | ⟨rfl, a⟩
 ·rcases b with b | ⟨rfl, b⟩ <;> omega
 ·rcases b with b | ⟨_, b⟩
  ·omega
  ·exact ⟨rfl, hle_antisymm a b⟩
def Best (l : List Pass) (i t z e : Nat) (f : Option Nat) : Prop :=
 ∃ r, go l i t r = some (z, e) ∧ r.head? = f ∧ ∀ r' a', go l i t r' = some (z, a') → e ≤ a' ∧ (a' = e → lle r.length f r'.length r'.head?)
theorem Best.uniq {l : List Pass} {i t z e e' : Nat} {f f' : Option Nat} (h : Best l i t z e f) (h' : Best l i t z e' f') : e = e' ∧ f = f' := by
 obtain ⟨r, g, rfl, m⟩ := h
 obtain ⟨r', g', rfl, m'⟩ := h'
 have a := m _ _ g'
 have b := m' _ _ g
 have ee : e = e' := Nat.le_antisymm a.1 b.1
 subst ee
 exact ⟨rfl, (lle_antisymm (a.2 rfl) (b.2 rfl)).2⟩
end Wy
end
section
namespace Wy
open Sr35 Sr36Neutral
theorem at_map {n c : Nat} (g : Nat → Option Nat) (h : c < n) : at_ ((List.range n).map g) c = g c := by
 unfold at_
 rw [List.getD_eq_getElem?_getD, List.getElem?_map, List.getElem?_range h]
 rfl
theorem at_map_out {n c : Nat} (g : Nat → Option Nat) (h : ¬ c < n) : at_ ((List.range n).map g) c = none := by
 unfold at_
 rw [List.getD_eq_getElem?_getD, List.getElem?_eq_none (by simp; omega)]
 rfl
structure OkP (n : Nat) (x : Pass) : Prop where
 a : x.a < n
 b : x.b < n
 ne : x.a ≠ x.b
 t1 : 1 ≤ x.takes
 t2 : x.takes ≤ 255
 be : x.begins < x.ends
 en : x.ends ≤ LAST
theorem okP {n : Nat} {x : Pass} (h : okPass n x = true) : OkP n x := by
 simp only [okPass, Bool.and_eq_true, decide_eq_true_eq, bne_iff_ne] at h
 exact ⟨h.1.1.1.1.1.1.1, h.1.1.1.1.1.1.2, h.1.1.1.1.1.2, h.1.1.1.2, h.1.1.2, h.1.2, h.2⟩
theorem good_list {p : Plan} (h : good p = true) : ∀ x ∈ p.list, okPass p.n x = true := by
 simp only [good, Bool.and_eq_true] at h
 exact List.all_eq_true.mp h.2
theorem other_lt {n : Nat} {x : Pass} (h : okPass n x = true) {y w : Nat} (e : other x y = some w) : w < n := by
 have o := okP h
 have a := o.a
 have b := o.b
 unfold other at e
 split at e
 ·cases e; omega
 ·split at e
  ·cases e; omega
  ·cases e
theorem greatest_none : ∀ {L : List Nat}, greatestOf L = none → L = []
 | [], _ => rfl
 | a :: l, h => by
  simp only [greatestOf] at h
  split at h <;> cases h
theorem greatest_some : ∀ {L : List Nat} {c : Nat}, greatestOf L = some c → c ∈ L ∧ ∀ d ∈ L, d ≤ c
 | [], c, h => by cases h
 | a :: l, c, h => by
  simp only [greatestOf] at h
  split at h
  ·rename_i h1
   cases h
   have := greatest_none h1
   subst this
   simp
  ·rename_i b h1
   cases h
   obtain ⟨h2, h3⟩ := greatest_some h1
   constructor
   ·by_cases q : a ≤ b
    ·rw [Nat.max_eq_right q]; exact List.mem_cons_of_mem _ h2
    ·rw [Nat.max_eq_left (by omega)]; exact List.mem_cons_self
   ·intro d hd
    rcases List.mem_cons.mp hd with rfl | hd
    ·omega
    ·have := h3 d hd; omega
theorem least_none : ∀ {L : List Nat}, leastOf L = none → L = []
 | [], _ => rfl
 | a :: l, h => by
  simp only [leastOf] at h
  split at h <;> cases h
theorem least_some : ∀ {L : List Nat} {c : Nat}, leastOf L = some c → c ∈ L ∧ ∀ d ∈ L, c ≤ d
 | [], c, h => by cases h
 | a :: l, c, h => by
  simp only [leastOf] at h
  split at h
  ·rename_i h1
   cases h
   have := least_none h1
   subst this
   simp
  ·rename_i b h1
   cases h
   obtain ⟨h2, h3⟩ := least_some h1
   constructor
   ·by_cases q : a ≤ b
    ·rw [Nat.min_eq_left q]; exact List.mem_cons_self
    ·rw [Nat.min_eq_right (by omega)]; exact List.mem_cons_of_mem _ h2
   ·intro d hd
    rcases List.mem_cons.mp hd with rfl | hd
    ·omega
    ·have := h3 d hd; omega
theorem mem_sends {p : Plan} {t : List (Option Nat)} {y c : Nat} : c ∈ sends p t y ↔ ∃ x ∈ p.list, ∃ w d, other x y = some w ∧ at_ t w = some d ∧ x.begins + x.takes ≤ d ∧ c = min (x.ends - 1) (d - x.takes) := by
 unfold sends
 rw [List.mem_filterMap]
 constructor
 ·rintro ⟨x, hx, h⟩
  split at h
  ·cases h
  ·rename_i w hw
   unfold lastBy at h
   split at h
   ·cases h
   ·rename_i d hd
    split at h
    ·rename_i q
     cases h
     exact ⟨x, hx, w, d, hw, hd, q, rfl⟩
    ·cases h
 ·rintro ⟨x, hx, w, d, hw, hd, q, rfl⟩
  refine ⟨x, hx, ?_⟩
  rw [hw]
  simp only [lastBy, hd, if_pos q]
theorem lev {p : Plan} (hg : good p = true) (z b : Nat) : ∀ (k y : Nat), y < p.n →
  (∀ c, at_ (levels p z b k) y = some c → ∀ u, u ≤ c → ∃ r a, r.length = k ∧ go p.list y u r = some (z, a) ∧ a ≤ b) ∧
  (∀ u r a, r.length = k → go p.list y u r = some (z, a) → a ≤ b → ∃ c, at_ (levels p z b k) y = some c ∧ u ≤ c)
 | 0, y, hy => by
  simp only [levels]
  rw [at_map _ hy]
  constructor
  ·intro c hc u hu
   split at hc
   ·rename_i e
    cases hc
    subst e
    exact ⟨[], u, rfl, rfl, hu⟩
   ·cases hc
  ·intro u r a hr e ha
   have : r = [] := List.length_eq_zero_iff.mp hr
   subst this
   simp only [go_nil, Option.some.injEq, Prod.mk.injEq] at e
   obtain ⟨rfl, rfl⟩ := e
   exact ⟨b, if_pos rfl, ha⟩
 | k + 1, y, hy => by
  simp only [levels]
  rw [at_map _ hy]
  constructor
  ·intro c hc u hu
   obtain ⟨h1, _⟩ := greatest_some hc
   obtain ⟨x, hx, w, d, hw, hd, q, rfl⟩ := mem_sends.mp h1
   have ok := good_list hg x hx
   have o := okP ok
   have := o.be
   obtain ⟨j, hj⟩ := List.getElem?_of_mem hx
   obtain ⟨r, a, h2, h3, h4⟩ := (lev hg z b k w (other_lt ok hw)).1 d hd (max u x.begins + x.takes) (by omega)
   exact ⟨j :: r, a, by rw [List.length_cons, h2], go_cons.mpr ⟨x, w, hj, hw, by omega, h3⟩, h4⟩
  ·intro u r a hr e ha
   match r, hr with
   | j :: r, hr =>
    obtain ⟨x, w, hx, hw, ho, e⟩ := go_cons.mp e
    have hm := List.mem_of_getElem? hx
    have ok := good_list hg x hm
    obtain ⟨d, h1, h2⟩ := (lev hg z b k w (other_lt ok hw)).2 _ r a (Nat.succ.inj hr) e ha
    have ms : min (x.ends - 1) (d - x.takes) ∈ sends p (levels p z b k) y := mem_sends.mpr ⟨x, hm, w, d, hw, h1, by omega, rfl⟩
    cases h3 : greatestOf (sends p (levels p z b k) y) with
    | none => rw [greatest_none h3] at ms; cases ms
    | some c =>
     refine ⟨c, rfl, ?_⟩
     have := (greatest_some h3).2 _ ms
     omega
theorem enough_iff {p : Plan} (hg : good p = true) {i t z e k : Nat} (hi : i < p.n) : enough p i t z e k = true ↔ ∃ r a, r.length = k ∧ go p.list i t r = some (z, a) ∧ a ≤ e := by
 have L := lev hg z e k i hi
 unfold enough
 constructor
 ·intro h
  split at h
  ·cases h
  ·rename_i c hc
   exact L.1 c hc t (of_decide_eq_true h)
 ·rintro ⟨r, a, h1, h2, h3⟩
  obtain ⟨c, h4, h5⟩ := L.2 t r a h1 h2 h3
  rw [h4]
  exact decide_eq_true h5
theorem firstFrom_some {q : Nat → Bool} : ∀ {f k m : Nat}, firstFrom q f k = some m → q m = true ∧ k ≤ m ∧ ∀ j, k ≤ j → j < m → q j = false
 | 0, k, m, h => by cases h
 | f + 1, k, m, h => by
  simp only [firstFrom] at h
  split at h
  ·rename_i hq
   cases h
   exact ⟨hq, Nat.le_refl _, fun j h1 h2 => by omega⟩
  ·rename_i hq
   obtain ⟨h1, h2, h3⟩ := firstFrom_some h
   refine ⟨h1, by omega, fun j h4 h5 => ?_⟩
   by_cases e : j = k
   ·subst e; exact Bool.eq_false_iff.mpr hq
   ·exact h3 j (by omega) h5
theorem usable_iff {p : Plan} (hg : good p = true) {y u z b k q : Nat} (hy : y < p.n) : usable p (at_ (levels p z b k)) y u q = true ↔ ∃ r a, r.length = k ∧ go p.list y u (q :: r) = some (z, a) ∧ a ≤ b := by
 unfold usable
 constructor
 ·intro h
  split at h
  ·cases h
  ·rename_i x hx
   split at h
   ·cases h
   ·rename_i w hw
    split at h
    ·cases h
    ·rename_i d hd
     simp only [Bool.and_eq_true, decide_eq_true_eq] at h
     have ok := good_list hg x (List.mem_of_getElem? hx)
     obtain ⟨r, a, h2, h3, h4⟩ := (lev hg z b k w (other_lt ok hw)).1 d hd (max u x.begins + x.takes) h.2
     exact ⟨r, a, h2, go_cons.mpr ⟨x, w, hx, hw, h.1, h3⟩, h4⟩
 ·rintro ⟨r, a, h1, h2, h3⟩
  obtain ⟨x, w, hx, hw, ho, e⟩ := go_cons.mp h2
  have ok := good_list hg x (List.mem_of_getElem? hx)
  obtain ⟨d, h4, h5⟩ := (lev hg z b k w (other_lt ok hw)).2 _ r a h1 e h3
  rw [hx]
  dsimp only
  rw [hw]
  dsimp only
  rw [h4]
  simp only [Bool.and_eq_true, decide_eq_true_eq]
  exact ⟨ho, h5⟩
theorem path_head {p : Plan} (hg : good p = true) {y u z b k : Nat} (hy : y < p.n) (h : ∃ r a, r.length = k + 1 ∧ go p.list y u r = some (z, a) ∧ a ≤ b) :
  ∃ q x, p.list[q]? = some x ∧ (path p z b (k + 1) y u).head? = some (q, max u x.begins) ∧ (∃ r a, r.length = k ∧ go p.list y u (q :: r) = some (z, a) ∧ a ≤ b) ∧
   ∀ j r a, r.length = k → go p.list y u (j :: r) = some (z, a) → a ≤ b → q ≤ j := by
 obtain ⟨r, a, h1, h2, h3⟩ := h
 have key : ∀ j, j ∈ (List.range p.list.length).filter (usable p (at_ (levels p z b k)) y u) ↔ ∃ r a, r.length = k ∧ go p.list y u (j :: r) = some (z, a) ∧ a ≤ b := by
  intro j
  rw [List.mem_filter, List.mem_range, usable_iff hg hy]
  constructor
  ·exact fun h => h.2
  ·rintro ⟨r, a, q1, q2, q3⟩
   obtain ⟨x, w, hx, _⟩ := go_cons.mp q2
   exact ⟨(List.getElem?_eq_some_iff.mp hx).1, r, a, q1, q2, q3⟩
 match r, h1 with
 | j :: r, h1 =>
  have mj := (key j).mpr ⟨r, a, Nat.succ.inj h1, h2, h3⟩
  simp only [path, pick]
  cases hq : leastOf ((List.range p.list.length).filter (usable p (at_ (levels p z b k)) y u)) with
  | none => rw [least_none hq] at mj; cases mj
  | some q =>
   obtain ⟨m1, m2⟩ := least_some hq
   have mq := (key q).mp m1
   obtain ⟨r', a', n1, n2, n3⟩ := mq
   obtain ⟨x, w, hx, hw, ho, e⟩ := go_cons.mp n2
   refine ⟨q, x, hx, ?_, ⟨r', a', n1, n2, n3⟩, fun j r a l1 l2 l3 => m2 j ((key j).mpr ⟨r, a, l1, l2, l3⟩)⟩
   dsimp only
   rw [hx]
   dsimp only
   rw [hw]
   rfl
theorem T_sound {p : Plan} (hg : good p = true) {i t : Nat} {T : List (Option Nat)} (hi : i < p.n) (hc : checkF p i t T = true) : ∀ (e c : Nat), at_ T c = some e → ∃ r, go p.list i t r = some (c, e) := by
 simp only [checkF, Bool.and_eq_true] at hc
 obtain ⟨hlen, _, htold, _⟩ := hc
 have hlen : T.length = p.n := eq_of_beq hlen
 intro e
 induction e using Nat.strongRecOn with
 | _ e ih =>
  intro c h
  have hcn : c < p.n := by
   by_cases q : c < p.n
   ·exact q
   ·unfold at_ at h
    rw [List.getD_eq_getElem?_getD, List.getElem?_eq_none (by omega)] at h
    cases h
  have h1 := List.all_eq_true.mp htold c (List.mem_range.mpr hcn)
  unfold toldF at h1
  rw [h] at h1
  simp only [Bool.or_eq_true, Bool.and_eq_true, beq_iff_eq] at h1
  rcases h1 with ⟨rfl, rfl⟩ | h1
  ·exact ⟨[], rfl⟩
  ·obtain ⟨y, hy, h2⟩ := List.any_eq_true.mp h1
   split at h2
   ·cases h2
   ·rename_i a ha
    obtain ⟨x, hx, h3⟩ := List.any_eq_true.mp h2
    simp only [Bool.and_eq_true, beq_iff_eq, decide_eq_true_eq] at h3
    obtain ⟨h4, h5, h6⟩ := h3
    have o := okP (good_list hg x hx)
    have := o.t1
    obtain ⟨r, hr⟩ := ih a (by omega) y ha
    obtain ⟨j, hj⟩ := List.getElem?_of_mem hx
    exact ⟨r ++ [j], go_app.mpr ⟨y, a, hr, go_one.mpr ⟨x, hj, h4, h5, h6⟩⟩⟩
theorem T_least {p : Plan} (hg : good p = true) {i t : Nat} {T : List (Option Nat)} (hi : i < p.n) (hc : checkF p i t T = true) : ∀ (r : List Nat) (y u z a : Nat), y < p.n → (∃ e, at_ T y = some e ∧ e ≤ u) → go p.list y u r = some (z, a) → ∃ e, at_ T z = some e ∧ e ≤ a := by
 simp only [checkF, Bool.and_eq_true] at hc
 obtain ⟨_, _, _, hcl⟩ := hc
 intro r
 induction r with
 | nil =>
  intro y u z a _ h e
  simp only [go_nil, Option.some.injEq, Prod.mk.injEq] at e
  obtain ⟨rfl, rfl⟩ := e
  exact h
 | cons k r ih =>
  intro y u z a hy h e
  obtain ⟨x, w, hx, hw, ho, e⟩ := go_cons.mp e
  obtain ⟨v, hv, hvu⟩ := h
  have hm := List.mem_of_getElem? hx
  refine ih w _ z a (other_lt (good_list hg x hm) hw) ?_ e
  have h1 := List.all_eq_true.mp (List.all_eq_true.mp hcl y (List.mem_range.mpr hy)) x hm
  unfold closeF at h1
  rw [hw, hv] at h1
  simp only [Bool.or_eq_true, Bool.not_eq_true', decide_eq_false_iff_not] at h1
  rcases h1 with h1 | h1
  ·omega
  ·split at h1
   ·cases h1
   ·rename_i d hd
    exact ⟨d, hd, by have := of_decide_eq_true h1; omega⟩
theorem T_start {p : Plan} {i t : Nat} {T : List (Option Nat)} (hc : checkF p i t T = true) : at_ T i = some t := by
 simp only [checkF, Bool.and_eq_true] at hc
 exact eq_of_beq hc.2.1
theorem spec_way {p : Plan} (hg : good p = true) {i t : Nat} (hi : i < p.n) {D : Ways} (hD : waysOf p i t = some D) {z : Nat} (hz : z < p.n) :
  (look D z = none ∧ ∀ r a, go p.list i t r ≠ some (z, a)) ∨
  ∃ e l, look D z = some (e, l) ∧ Best p.list i t z e (l.head?.map (·.1)) ∧ ∀ q s, l.head? = some (q, s) → ∃ x, p.list[q]? = some x ∧ s = max t x.begins := by
 unfold waysOf at hD
 dsimp only at hD
 split at hD
 ·rename_i hc
  split at hD
  ·rename_i hall
   cases hD
   have hlook : look ((List.range p.n).map (wayAt p i t (forthT p i t))) z = (wayAt p i t (forthT p i t) z).getD none := by
    unfold look
    rw [List.getD_eq_getElem?_getD, List.getElem?_map, List.getElem?_range hz]
    rfl
   have hsome : (wayAt p i t (forthT p i t) z).isSome = true := List.all_eq_true.mp hall _ (List.mem_map.mpr ⟨z, List.mem_range.mpr hz, rfl⟩)
   rw [hlook]
   cases hT : at_ (forthT p i t) z with
   | none =>
    left
    have e : wayAt p i t (forthT p i t) z = some none := by unfold wayAt; rw [hT]
    rw [e]
    refine ⟨rfl, fun r a h => ?_⟩
    obtain ⟨e', h1, _⟩ := T_least hg hi hc r i t z a hi ⟨t, T_start hc, Nat.le_refl _⟩ h
    rw [hT] at h1
    cases h1
   | some e =>
    right
    have least : ∀ r a, go p.list i t r = some (z, a) → e ≤ a := by
     intro r a h
     obtain ⟨e', h1, h2⟩ := T_least hg hi hc r i t z a hi ⟨t, T_start hc, Nat.le_refl _⟩ h
     rw [hT] at h1
     cases h1
     exact h2
    have ew : wayAt p i t (forthT p i t) z = (firstFrom (enough p i t z e) p.n 0).map fun k => some (e, path p z e k i t) := by unfold wayAt; rw [hT]
    rw [ew] at hsome ⊢
    cases hk : firstFrom (enough p i t z e) p.n 0 with
    | none => rw [hk] at hsome; cases hsome
    | some k =>
     obtain ⟨h1, _, h2⟩ := firstFrom_some hk
     have h3 := (enough_iff hg hi).mp h1
     have fewest : ∀ r, go p.list i t r = some (z, e) → k ≤ r.length := by
      intro r h
      by_cases q : k ≤ r.length
      ·exact q
      ·have := h2 r.length (Nat.zero_le _) (by omega)
       rw [(enough_iff hg hi).mpr ⟨r, e, rfl, h, Nat.le_refl _⟩] at this
       cases this
     refine ⟨e, path p z e k i t, rfl, ?_, ?_⟩
     ·cases k with
      | zero =>
       obtain ⟨r, a, q1, q2, q3⟩ := h3
       have : r = [] := List.length_eq_zero_iff.mp q1
       subst this
       have ea : a = e := Nat.le_antisymm q3 (least _ _ q2)
       subst ea
       refine ⟨[], q2, rfl, fun r' a' h => ⟨least _ _ h, fun _ => ?_⟩⟩
       cases r' with
       | nil => exact lle_refl _ _
       | cons b r' => exact .inl (Nat.succ_pos _)
      | succ k =>
       obtain ⟨q, x, hx, hp, ⟨r, a, q1, q2, q3⟩, hmin⟩ := path_head hg hi h3
       have ea : a = e := Nat.le_antisymm q3 (least _ _ q2)
       subst ea
       refine ⟨q :: r, q2, by rw [hp]; rfl, fun r' a' h => ⟨least _ _ h, fun ea => ?_⟩⟩
       subst ea
       have hf := fewest r' h
       rw [hp]
       rw [List.length_cons, q1]
       rcases Nat.lt_or_ge (k + 1) r'.length with hlt | hge
       ·exact .inl hlt
       ·have hl : r'.length = k + 1 := by omega
        refine .inr ⟨hl.symm, ?_⟩
        match r', hl with
        | j :: r', hl => exact hmin j r' _ (Nat.succ.inj hl) h (Nat.le_refl _)
     ·intro q s hq
      cases k with
      | zero => cases hq
      | succ k =>
       obtain ⟨q', x, hx, hp, _⟩ := path_head hg hi h3
       rw [hp] at hq
       cases hq
       exact ⟨x, hx, rfl⟩
  ·cases hD
 ·cases hD
end Wy
end
section
namespace Wy
open Sr35 Sr36Neutral
structure Lab where
 z : Nat
 a : Nat
 k : Nat
 f : Option Nat
abbrev BM := Nat → Option (Nat × Option Nat)
abbrev Ent := Nat × Nat × Option Nat
def ext (f : Option Nat) (q : Nat) : Nat := f.getD q
def setB (B : BM) (w v : Nat) (f : Option Nat) : BM := fun z => if z = w then some (v, f) else B z
def putL (L : List Ent) (z a : Nat) (f : Option Nat) : List Ent :=
 if (L.any fun e => decide (e.1 = z ∧ e.2.2 = f)) = true then L.map fun e => if e.1 = z ∧ e.2.2 = f then (z, a, f) else e else L ++ [(z, a, f)]
structure Hist (l : List Pass) (i t : Nat) (hist : List Lab) (B : BM) : Prop where
 sound : ∀ e ∈ hist, ∃ r, go l i t r = some (e.z, e.a) ∧ r.length = e.k ∧ r.head? = e.f
 cur : ∀ z a f, B z = some (a, f) → ∃ k, (⟨z, a, k, f⟩ : Lab) ∈ hist ∧ ∀ e ∈ hist, e.z = z → a < e.a ∨ e = ⟨z, a, k, f⟩
 has : ∀ e ∈ hist, (B e.z).isSome = true
 start : (⟨i, t, 0, none⟩ : Lab) ∈ hist
def Cov (l : List Pass) (hist : List Lab) (y u k : Nat) (f : Option Nat) (q : Nat) : Prop :=
 ∀ w v, go l y u [q] = some (w, v) → ∃ e ∈ hist, e.z = w ∧ e.a ≤ v ∧ lle e.k e.f (k + 1) (some (ext f q))
theorem Cov.mono {l : List Pass} {hist hist' : List Lab} {y u k : Nat} {f : Option Nat} {q : Nat} (h : Cov l hist y u k f q) (s : ∀ e ∈ hist, e ∈ hist') : Cov l hist' y u k f q := fun w v g => by
 obtain ⟨e, h1, h2⟩ := h w v g
 exact ⟨e, s e h1, h2⟩
structure Rnd (l : List Pass) (i t K : Nat) (W : List Ent) (hist : List Lab) (B : BM) : Prop where
 h : Hist l i t hist B
 past : ∀ e ∈ hist, e.k < K → ∀ q, Cov l hist e.z e.a e.k e.f q
 lay : ∀ e ∈ hist, e.k = K → ∃ a', ((e.z, a', e.f) : Ent) ∈ W ∧ a' ≤ e.a
 top : ∀ e ∈ hist, e.k ≤ K
 ent : ∀ w ∈ W, (⟨w.1, w.2.1, K, w.2.2⟩ : Lab) ∈ hist
 ord : W.Pairwise fun a b => hle a.2.2 b.2.2
structure Cand where
 y : Nat
 u : Nat
 f : Option Nat
 q : Nat
structure Mid (l : List Pass) (i t K : Nat) (W : List Ent) (done : List Cand) (hist : List Lab) (B : BM) (L : List Ent) : Prop where
 h : Hist l i t hist B
 past : ∀ e ∈ hist, e.k < K → ∀ q, Cov l hist e.z e.a e.k e.f q
 lay : ∀ e ∈ hist, e.k = K → ∃ a', ((e.z, a', e.f) : Ent) ∈ W ∧ a' ≤ e.a
 ent : ∀ w ∈ W, (⟨w.1, w.2.1, K, w.2.2⟩ : Lab) ∈ hist
 cov : ∀ c ∈ done, Cov l hist c.y c.u K c.f c.q
 top : ∀ e ∈ hist, e.k ≤ K + 1
 new : ∀ e ∈ hist, e.k = K + 1 → (∃ a', ((e.z, a', e.f) : Ent) ∈ L ∧ a' ≤ e.a) ∧ ∃ c ∈ done, e.f = some (ext c.f c.q)
 entL : ∀ w ∈ L, (⟨w.1, w.2.1, K + 1, w.2.2⟩ : Lab) ∈ hist
 ordL : L.Pairwise fun a b => hle a.2.2 b.2.2
theorem Rnd.first (l : List Pass) (i t : Nat) : Rnd l i t 0 [(i, t, none)] [⟨i, t, 0, none⟩] (setB (fun _ => none) i t none) where
 h := {
  sound := fun e he => by
   rcases List.mem_singleton.mp he with rfl
   exact ⟨[], rfl, rfl, rfl⟩
  cur := fun z a f h => by
   unfold setB at h
   split at h
   ·rename_i e
    cases h
    subst e
    exact ⟨0, List.mem_singleton.mpr rfl, fun e he _ => .inr (List.mem_singleton.mp he)⟩
   ·cases h
  has := fun e he => by
   rcases List.mem_singleton.mp he with rfl
   simp [setB]
  start := List.mem_singleton.mpr rfl }
 past := fun e _ h => by omega
 lay := fun e he _ => by
  rcases List.mem_singleton.mp he with rfl
  exact ⟨t, List.mem_singleton.mpr rfl, Nat.le_refl _⟩
 top := fun e he => by
  rcases List.mem_singleton.mp he with rfl
  exact Nat.le_refl _
 ent := fun w hw => by
  rcases List.mem_singleton.mp hw with rfl
  exact List.mem_singleton.mpr rfl
 ord := List.pairwise_singleton _ _
theorem Rnd.enter {l : List Pass} {i t K : Nat} {W : List Ent} {hist : List Lab} {B : BM} (R : Rnd l i t K W hist B) : Mid l i t K W [] hist B [] where
 h := R.h
 past := R.past
 lay := R.lay
 ent := R.ent
 cov := fun c hc => by cases hc
 top := fun e he => Nat.le_succ_of_le (R.top e he)
 new := fun e he h => by have := R.top e he; omega
 entL := fun w hw => by cases hw
 ordL := List.Pairwise.nil
theorem Mid.leave {l : List Pass} {i t K : Nat} {W L : List Ent} {done : List Cand} {hist : List Lab} {B : BM} (M : Mid l i t K W done hist B L)
  (all : ∀ y u f q, ((y, u, f) : Ent) ∈ W → (∃ w v, go l y u [q] = some (w, v)) → (⟨y, u, f, q⟩ : Cand) ∈ done) : Rnd l i t (K + 1) L hist B where
 h := M.h
 past := fun e he hk q => by
  rcases Nat.lt_or_ge e.k K with h | h
  ·exact M.past e he h q
  ·have hk : e.k = K := by omega
   obtain ⟨a', h1, h2⟩ := M.lay e he hk
   intro w v g
   obtain ⟨v', g', hv⟩ := go_mono h2 g
   have hc := M.cov _ (all _ _ _ q h1 ⟨w, v', g'⟩) w v' g'
   obtain ⟨e2, q1, q2, q3, q4⟩ := hc
   rw [hk]
   exact ⟨e2, q1, q2, Nat.le_trans q3 hv, q4⟩
 lay := fun e he hk => (M.new e he hk).1
 top := M.top
 ent := M.entL
 ord := M.ordL
theorem Mid.closed {l : List Pass} {i t K : Nat} {W L : List Ent} {done : List Cand} {hist : List Lab} {B : BM} (M : Mid l i t K W done hist B L) (c : Cand)
  (h : ∀ w v, go l c.y c.u [c.q] ≠ some (w, v)) : Mid l i t K W (done ++ [c]) hist B L :=
 { M with
  cov := fun d hd => by
   rcases List.mem_append.mp hd with hd | hd
   ·exact M.cov d hd
   ·rcases List.mem_singleton.mp hd with rfl
    exact fun w v g => (h w v g).elim
  new := fun e he hk => by
   obtain ⟨h1, d, h2, h3⟩ := M.new e he hk
   exact ⟨h1, d, List.mem_append_left _ h2, h3⟩ }
theorem Mid.skip {l : List Pass} {i t K : Nat} {W L : List Ent} {done : List Cand} {hist : List Lab} {B : BM} (M : Mid l i t K W done hist B L) (c : Cand)
  (ord : ∀ d ∈ done, ext d.f d.q ≤ ext c.f c.q) {w v a : Nat} {f : Option Nat} (g : go l c.y c.u [c.q] = some (w, v)) (hb : B w = some (a, f)) (hle' : a ≤ v) : Mid l i t K W (done ++ [c]) hist B L :=
 { M with
  cov := fun d hd => by
   rcases List.mem_append.mp hd with hd | hd
   ·exact M.cov d hd
   ·rcases List.mem_singleton.mp hd with rfl
    intro w' v' g'
    rw [g] at g'
    cases g'
    obtain ⟨k, hm, _⟩ := M.h.cur w a f hb
    refine ⟨_, hm, rfl, hle', ?_⟩
    have := M.top _ hm
    rcases Nat.lt_or_ge k (K + 1) with q | q
    ·exact .inl q
    ·have hk : k = K + 1 := by have : k ≤ K + 1 := this; omega
     obtain ⟨_, d', h2, h3⟩ := M.new _ hm hk
     refine .inr ⟨hk, ?_⟩
     rw [h3]
     exact ord d' h2
  new := fun e he hk => by
   obtain ⟨h1, d, h2, h3⟩ := M.new e he hk
   exact ⟨h1, d, List.mem_append_left _ h2, h3⟩ }
theorem mem_putL {L : List Ent} {z a : Nat} {f : Option Nat} {e : Ent} : e ∈ putL L z a f → e = (z, a, f) ∨ e ∈ L := by
 unfold putL
 split
 ·intro h
  obtain ⟨d, hd, he⟩ := List.mem_map.mp h
  split at he
  ·exact .inl he.symm
  ·subst he; exact .inr hd
 ·intro h
  rcases List.mem_append.mp h with h | h
  ·exact .inr h
  ·exact .inl (List.mem_singleton.mp h)
theorem putL_self {L : List Ent} {z a : Nat} {f : Option Nat} : ((z, a, f) : Ent) ∈ putL L z a f := by
 unfold putL
 split
 ·rename_i h
  obtain ⟨d, hd, he⟩ := List.any_eq_true.mp h
  exact List.mem_map.mpr ⟨d, hd, if_pos (of_decide_eq_true he)⟩
 ·exact List.mem_append_right _ (List.mem_singleton.mpr rfl)
theorem putL_keep {L : List Ent} {z a : Nat} {f : Option Nat} {e : Ent} (he : e ∈ L) (hn : ¬ (e.1 = z ∧ e.2.2 = f)) : e ∈ putL L z a f := by
 unfold putL
 split
 ·exact List.mem_map.mpr ⟨e, he, if_neg hn⟩
 ·exact List.mem_append_left _ he
theorem putL_ne {L : List Ent} {z a : Nat} {f : Option Nat} : putL L z a f ≠ [] := fun h => by
 have := putL_self (L := L) (z := z) (a := a) (f := f)
 rw [h] at this
 cases this
theorem putL_ord {L : List Ent} {z a : Nat} {f : Option Nat} (h : L.Pairwise fun a b => hle a.2.2 b.2.2) (h2 : ∀ e ∈ L, hle e.2.2 f) : (putL L z a f).Pairwise fun a b => hle a.2.2 b.2.2 := by
 unfold putL
 split
 ·rw [List.pairwise_map]
  refine h.imp fun {x y} q => ?_
  have fx : (if x.1 = z ∧ x.2.2 = f then ((z, a, f) : Ent) else x).2.2 = x.2.2 := by
   split
   ·rename_i k; exact k.2.symm
   ·rfl
  have fy : (if y.1 = z ∧ y.2.2 = f then ((z, a, f) : Ent) else y).2.2 = y.2.2 := by
   split
   ·rename_i k; exact k.2.symm
   ·rfl
  rw [fx, fy]
  exact q
 ·rw [List.pairwise_append]
  refine ⟨h, List.pairwise_singleton _ _, fun x hx y hy => ?_⟩
  rcases List.mem_singleton.mp hy with rfl
  exact h2 x hx
theorem head_ext {r : List Nat} {f : Option Nat} (h : r.head? = f) (q : Nat) : (r ++ [q]).head? = some (ext f q) := by
 subst h
 cases r <;> rfl
theorem Mid.put {l : List Pass} {i t K : Nat} {W L : List Ent} {done : List Cand} {hist : List Lab} {B : BM} (M : Mid l i t K W done hist B L) (c : Cand) (hc : ((c.y, c.u, c.f) : Ent) ∈ W)
  (ord : ∀ d ∈ done, ext d.f d.q ≤ ext c.f c.q) {w v : Nat} (g : go l c.y c.u [c.q] = some (w, v)) (hb : ∀ a f, B w = some (a, f) → v < a) :
  Mid l i t K W (done ++ [c]) (hist ++ [⟨w, v, K + 1, some (ext c.f c.q)⟩]) (setB B w v (some (ext c.f c.q))) (putL L w v (some (ext c.f c.q))) where
 h := {
  sound := fun e he => by
   rcases List.mem_append.mp he with he | he
   ·exact M.h.sound e he
   ·rcases List.mem_singleton.mp he with rfl
    obtain ⟨r, h1, h2, h3⟩ := M.h.sound _ (M.ent _ hc)
    refine ⟨r ++ [c.q], go_app.mpr ⟨_, _, h1, g⟩, ?_, head_ext h3 c.q⟩
    rw [List.length_append, h2]
    rfl
  cur := fun z a f h => by
   unfold setB at h
   split at h
   ·rename_i e
    cases h
    subst e
    refine ⟨K + 1, List.mem_append_right _ (List.mem_singleton.mpr rfl), fun e he ez => ?_⟩
    rcases List.mem_append.mp he with he | he
    ·have hs := M.h.has e he
     rw [ez] at hs
     cases hB : B z with
     | none => rw [hB] at hs; cases hs
     | some p =>
      obtain ⟨a0, f0⟩ := p
      have h1 := hb a0 f0 hB
      obtain ⟨k, _, h3⟩ := M.h.cur z a0 f0 hB
      rcases h3 e he ez with h4 | h4
      ·exact .inl (by omega)
      ·subst h4; exact .inl h1
    ·exact .inr (List.mem_singleton.mp he)
   ·rename_i e
    obtain ⟨k, h1, h2⟩ := M.h.cur z a f h
    refine ⟨k, List.mem_append_left _ h1, fun e' he ez => ?_⟩
    rcases List.mem_append.mp he with he | he
    ·exact h2 e' he ez
    ·rcases List.mem_singleton.mp he with rfl
     exact (e ez.symm).elim
  has := fun e he => by
   unfold setB
   split
   ·rfl
   ·rename_i q
    rcases List.mem_append.mp he with he | he
    ·exact M.h.has e he
    ·rcases List.mem_singleton.mp he with rfl
     exact (q rfl).elim
  start := List.mem_append_left _ M.h.start }
 past := fun e he hk q => by
  rcases List.mem_append.mp he with he | he
  ·exact (M.past e he hk q).mono fun e he => List.mem_append_left _ he
  ·rcases List.mem_singleton.mp he with rfl
   have : K + 1 < K := hk
   omega
 lay := fun e he hk => by
  rcases List.mem_append.mp he with he | he
  ·exact M.lay e he hk
  ·rcases List.mem_singleton.mp he with rfl
   have : K + 1 = K := hk
   omega
 ent := fun w hw => List.mem_append_left _ (M.ent w hw)
 cov := fun d hd => by
  rcases List.mem_append.mp hd with hd | hd
  ·exact (M.cov d hd).mono fun e he => List.mem_append_left _ he
  ·rcases List.mem_singleton.mp hd with rfl
   intro w' v' g'
   rw [g] at g'
   cases g'
   exact ⟨_, List.mem_append_right _ (List.mem_singleton.mpr rfl), rfl, Nat.le_refl _, lle_refl _ _⟩
 top := fun e he => by
  rcases List.mem_append.mp he with he | he
  ·exact M.top e he
  ·rcases List.mem_singleton.mp he with rfl
   exact Nat.le_refl _
 new := fun e he hk => by
  rcases List.mem_append.mp he with he | he
  ·obtain ⟨⟨a', h1, h2⟩, d, h3, h4⟩ := M.new e he hk
   refine ⟨?_, d, List.mem_append_left _ h3, h4⟩
   by_cases q : e.z = w ∧ e.f = some (ext c.f c.q)
   ·have hs := M.h.has e he
    rw [q.1] at hs
    cases hB : B w with
    | none => rw [hB] at hs; cases hs
    | some p =>
     obtain ⟨a0, f0⟩ := p
     have h5 := hb a0 f0 hB
     obtain ⟨k, _, h6⟩ := M.h.cur w a0 f0 hB
     refine ⟨v, by rw [q.1, q.2]; exact putL_self, ?_⟩
     rcases h6 e he q.1 with h7 | h7
     ·omega
     ·subst h7; exact Nat.le_of_lt h5
   ·exact ⟨a', putL_keep h1 q, h2⟩
  ·rcases List.mem_singleton.mp he with rfl
   exact ⟨⟨v, putL_self, Nat.le_refl _⟩, c, List.mem_append_right _ (List.mem_singleton.mpr rfl), rfl⟩
 entL := fun x hx => by
  rcases mem_putL hx with rfl | hx
  ·exact List.mem_append_right _ (List.mem_singleton.mpr rfl)
  ·exact List.mem_append_left _ (M.entL x hx)
 ordL := putL_ord M.ordL fun e he => by
  obtain ⟨_, d, h2, h3⟩ := M.new _ (M.entL e he) rfl
  have h3 : e.2.2 = some (ext d.f d.q) := h3
  rw [h3]
  exact ord d h2
theorem snoc_ind {P : List Nat → Prop} (h0 : P []) (h1 : ∀ r q, P r → P (r ++ [q])) (r : List Nat) : P r := by
 have : ∀ s : List Nat, P s.reverse := by
  intro s
  induction s with
  | nil => exact h0
  | cons a s ih => rw [List.reverse_cons]; exact h1 _ _ ih
 have h := this r.reverse
 rwa [List.reverse_reverse] at h
theorem Rnd.full {l : List Pass} {i t K : Nat} {hist : List Lab} {B : BM} (R : Rnd l i t K [] hist B) (r : List Nat) : ∀ z a, go l i t r = some (z, a) → ∃ e ∈ hist, e.z = z ∧ e.a ≤ a ∧ lle e.k e.f r.length r.head? := by
 induction r using snoc_ind with
 | h0 =>
  intro z a g
  simp only [go_nil, Option.some.injEq, Prod.mk.injEq] at g
  obtain ⟨rfl, rfl⟩ := g
  exact ⟨_, R.h.start, rfl, Nat.le_refl _, lle_refl _ _⟩
 | h1 r q ih =>
  intro z a g
  obtain ⟨y, u, g1, g2⟩ := go_app.mp g
  obtain ⟨e, he, rfl, h2, h3⟩ := ih y u g1
  have hk : e.k < K := by
   have := R.top e he
   rcases Nat.lt_or_ge e.k K with h | h
   ·exact h
   ·obtain ⟨_, h4, _⟩ := R.lay e he (by omega)
    cases h4
  obtain ⟨v, g3, hv⟩ := go_mono h2 g2
  obtain ⟨e2, q1, q2, q3, q4⟩ := R.past e he hk q z v g3
  refine ⟨e2, q1, q2, by omega, lle_trans q4 ?_⟩
  rw [List.length_append]
  rcases h3 with h3 | ⟨h3, h4⟩
  ·exact .inl (Nat.add_lt_add_right h3 1)
  ·refine .inr ⟨by rw [h3]; rfl, ?_⟩
   obtain ⟨r0, _, s2, s3⟩ := R.h.sound e he
   cases r with
   | nil =>
    have : r0 = [] := List.length_eq_zero_iff.mp (by rw [s2, h3]; rfl)
    subst this
    rw [← s3]
    exact Nat.le_refl _
   | cons b r =>
    rw [List.cons_append, List.head?_cons]
    rw [List.head?_cons] at h4
    cases r0 with
    | nil =>
     rw [h3] at s2
     cases s2
    | cons b0 r0 =>
     rw [← s3] at h4 ⊢
     exact h4
theorem Rnd.result {l : List Pass} {i t K : Nat} {hist : List Lab} {B : BM} (R : Rnd l i t K [] hist B) (z : Nat) :
  (B z = none ∧ ∀ r a, go l i t r ≠ some (z, a)) ∨ ∃ e f, B z = some (e, f) ∧ Best l i t z e f := by
 cases hB : B z with
 | none =>
  refine .inl ⟨rfl, fun r a g => ?_⟩
  obtain ⟨e, he, rfl, _⟩ := R.full r z a g
  have := R.h.has e he
  rw [hB] at this
  cases this
 | some p =>
  obtain ⟨a, f⟩ := p
  refine .inr ⟨a, f, rfl, ?_⟩
  obtain ⟨k, hm, hu⟩ := R.h.cur z a f hB
  obtain ⟨r0, s1, s2, s3⟩ := R.h.sound _ hm
  refine ⟨r0, s1, s3, fun r' a' g => ?_⟩
  obtain ⟨e, he, h1, h2, h3⟩ := R.full r' z a' g
  rcases hu e he h1 with h4 | h4
  ·exact ⟨by omega, fun q => by omega⟩
  ·subst h4
   refine ⟨h2, fun _ => ?_⟩
   rw [s2]
   exact h3
def BIG : Nat := 2000000
def worth (B : BM) (z : Nat) : Nat := match B z with
 | none => BIG
 | some (a, _) => a
def total (n : Nat) (B : BM) : Nat := ((List.range n).map (worth B)).sum
theorem sum_le {f g : Nat → Nat} : ∀ (L : List Nat), (∀ z ∈ L, f z ≤ g z) → (L.map f).sum ≤ (L.map g).sum
 | [], _ => Nat.le_refl _
 | a :: L, h => by
  rw [List.map_cons, List.map_cons, List.sum_cons, List.sum_cons]
  have h1 := h a List.mem_cons_self
  have h2 := sum_le L fun z hz => h z (List.mem_cons_of_mem _ hz)
  omega
theorem sum_lt {f g : Nat → Nat} {w : Nat} (hw : f w < g w) : ∀ (L : List Nat), (∀ z ∈ L, f z ≤ g z) → w ∈ L → (L.map f).sum < (L.map g).sum
 | [], _, h => by cases h
 | a :: L, h, m => by
  rw [List.map_cons, List.map_cons, List.sum_cons, List.sum_cons]
  have h1 := h a List.mem_cons_self
  have h2 := sum_le L fun z hz => h z (List.mem_cons_of_mem _ hz)
  rcases List.mem_cons.mp m with rfl | m
  ·omega
  ·have := sum_lt hw L (fun z hz => h z (List.mem_cons_of_mem _ hz)) m
   omega
theorem total_lt {n : Nat} {B : BM} {w v : Nat} {f : Option Nat} (hw : w < n) (h : v < worth B w) : total n (setB B w v f) < total n B := by
 have e : ∀ z, worth (setB B w v f) z = if z = w then v else worth B z := by
  intro z
  unfold worth setB
  split <;> rename_i q
  ·split at q
   ·cases q
   ·rename_i k; rw [if_neg k, q]
  ·split at q
   ·rename_i k; cases q; rw [if_pos k]
   ·rename_i k; rw [if_neg k, q]
 refine sum_lt (w := w) (by rw [e, if_pos rfl]; exact h) _ (fun z _ => ?_) (List.mem_range.mpr hw)
 rw [e]
 split
 ·rename_i k; subst k; omega
 ·exact Nat.le_refl _
end Wy
end
section
namespace Sn
open Sr36 Sr36Neutral
abbrev WayF := Nat → Option (Nat × List (Nat × Nat))
def fits (W : WayF) (now k : Nat) (x : Parcel) : Bool := match W x.to_ with
 | none => false
 | some (e, l) => l.head? == some (k, now) && decide (e ≤ x.end_)
theorem ready_eq (W : WayF) (a : Abs) (k : Nat) (h : Held) : readyB W a k h = (decide (h.waits ≤ a.now) && fits W a.now k h.parcel) := rfl
theorem fits_one {W : WayF} {now k k' : Nat} {x : Parcel} (h : fits W now k x = true) (h' : fits W now k' x = true) : k = k' := by
 unfold fits at h h'
 split at h
 ·cases h
 ·rename_i e l hw
  rw [hw] at h'
  simp only [Bool.and_eq_true, beq_iff_eq] at h h'
  have := h.1.symm.trans h'.1
  simpa using this
theorem bestOf_none : ∀ {L : List Held}, bestOf L = none → L = []
 | [], _ => rfl
 | g :: l, h => by
  simp only [bestOf] at h
  split at h
  ·cases h
  ·split at h <;> cases h
theorem bestOf_mem : ∀ {L : List Held} {h : Held}, bestOf L = some h → h ∈ L
 | [], h, e => by cases e
 | g :: l, h, e => by
  simp only [bestOf] at e
  split at e
  ·cases e; exact List.mem_cons_self
  ·rename_i h' hb
   split at e
   ·cases e; exact List.mem_cons_of_mem _ (bestOf_mem hb)
   ·cases e; exact List.mem_cons_self
structure Chg (W : WayF) (a0 a : Abs) (done : List Nat) (u : Held → Held) : Prop where
 eq : a = { a0 with held := a0.held.map u }
 par : ∀ h ∈ a0.held, (u h).parcel = h.parcel ∧ (u h).leg = h.leg
 same : ∀ h ∈ a0.held, u h = h ∨ ∃ k ∈ done, fits W a0.now k h.parcel = true
theorem Chg.start (W : WayF) (a0 : Abs) : Chg W a0 a0 [] id := ⟨by rw [List.map_id], fun _ _ => ⟨rfl, rfl⟩, fun _ _ => .inl rfl⟩
theorem filter_map_eq {p : Held → Bool} {u : Held → Held} : ∀ (L : List Held), (∀ h ∈ L, p (u h) = p h ∧ (p h = true → u h = h)) → (L.map u).filter p = L.filter p
 | [], _ => rfl
 | h :: L, hp => by
  obtain ⟨h1, h2⟩ := hp h List.mem_cons_self
  rw [List.map_cons, List.filter_cons, List.filter_cons, filter_map_eq L fun g hg => hp g (List.mem_cons_of_mem _ hg), h1]
  split
  ·rename_i c
   rw [h2 c]
  ·rfl
theorem Chg.filter {W : WayF} {a0 a : Abs} {done : List Nat} {u : Held → Held} (c : Chg W a0 a done u) {k : Nat} (hk : k ∉ done) : a.held.filter (readyB W a k) = a0.held.filter (readyB W a0 k) := by
 have e1 : readyB W a k = readyB W a0 k := by
  funext h
  rw [ready_eq, ready_eq, c.eq]
 have e2 : a.held = a0.held.map u := by rw [c.eq]
 rw [e1, e2]
 refine filter_map_eq _ fun h hh => ?_
 obtain ⟨p1, _⟩ := c.par h hh
 rcases c.same h hh with s | ⟨k', hk', s⟩
 ·rw [s]
  exact ⟨rfl, fun _ => rfl⟩
 ·have hno : fits W a0.now k h.parcel = false := by
   cases hf : fits W a0.now k h.parcel with
   | false => rfl
   | true => exact absurd (fits_one hf s ▸ hk') hk
  rw [ready_eq, ready_eq, p1, hno, Bool.and_false, Bool.and_false]
  exact ⟨rfl, fun q => by cases q⟩
theorem Chg.skip {W : WayF} {a0 a : Abs} {done : List Nat} {u : Held → Held} (c : Chg W a0 a done u) (k : Nat) : Chg W a0 a (done ++ [k]) u :=
 ⟨c.eq, c.par, fun h hh => by
  rcases c.same h hh with s | ⟨k', hk', s⟩
  ·exact .inl s
  ·exact .inr ⟨k', List.mem_append_left _ hk', s⟩⟩
theorem Chg.send {W : WayF} {a0 a : Abs} {done : List Nat} {u : Held → Held} (c : Chg W a0 a done u) {k : Nat} (hk : k ∉ done) {h : Held} {tk : Nat} (hh : h ∈ a0.held) (hf : fits W a0.now k h.parcel = true) :
  Chg W a0 (sent a h tk) (done ++ [k]) (fun g => if u g = h then { u g with waits := a0.now + 2 * tk } else u g) := by
 refine ⟨?_, fun g hg => ?_, fun g hg => ?_⟩
 ·unfold sent
  rw [c.eq]
  simp only [List.map_map]
  congr 1
 ·obtain ⟨p1, p2⟩ := c.par g hg
  split <;> exact ⟨p1, p2⟩
 ·by_cases e : u g = h
  ·refine .inr ⟨k, List.mem_append_right _ (List.mem_singleton.mpr rfl), ?_⟩
   rw [← (c.par g hg).1, e]
   exact hf
  ·show (if u g = h then _ else u g) = g ∨ _
   rw [if_neg e]
   rcases c.same g hg with s | ⟨k', hk', s⟩
   ·exact .inl s
   ·exact .inr ⟨k', List.mem_append_left _ hk', s⟩
theorem before_irrefl_like {x y : Parcel} (h : before x y = true) (h' : before y x = true) : False := by
 unfold before at h h'
 simp only [Bool.or_eq_true, Bool.and_eq_true, decide_eq_true_eq, beq_iff_eq] at h h'
 omega
theorem pick_eq {W : WayF} {a0 : Abs} {k : Nat} {R : List Held} {h : Held} (hR : ∀ g, g ∈ R ↔ g ∈ a0.held ∧ g.waits ≤ a0.now) (hs : R.Pairwise fun g g' => before g'.parcel g.parcel = false)
  (hm : h ∈ a0.held.filter (readyB W a0 k)) (hb : ∀ g ∈ a0.held.filter (readyB W a0 k), g = h ∨ before h.parcel g.parcel = true) : R.find? (fun g => fits W a0.now k g.parcel) = some h := by
 obtain ⟨h1, h2⟩ := List.mem_filter.mp hm
 rw [ready_eq, Bool.and_eq_true, decide_eq_true_eq] at h2
 have hhR : h ∈ R := (hR h).mpr ⟨h1, h2.1⟩
 have key : ∀ (R : List Held), h ∈ R → (∀ g ∈ R, g ∈ a0.held ∧ g.waits ≤ a0.now) → (R.Pairwise fun g g' => before g'.parcel g.parcel = false) → R.find? (fun g => fits W a0.now k g.parcel) = some h := by
  intro R
  induction R with
  | nil => intro q; cases q
  | cons g R ih =>
   intro q hR' hs'
   rw [List.find?_cons]
   cases hf : fits W a0.now k g.parcel with
   | true =>
    rcases hb g (List.mem_filter.mpr ⟨(hR' g List.mem_cons_self).1, by rw [ready_eq, Bool.and_eq_true, decide_eq_true_eq]; exact ⟨(hR' g List.mem_cons_self).2, hf⟩⟩) with e | e
    ·simp [e]
    ·exfalso
     rcases List.mem_cons.mp q with e2 | q
     ·subst e2
      exact before_irrefl_like e e
     ·have := (List.pairwise_cons.mp hs').1 h q
      rw [e] at this
      cases this
   | false =>
    rcases List.mem_cons.mp q with e2 | q
    ·subst e2
     rw [h2.2] at hf
     cases hf
    ·exact ih q (fun g hg => hR' g (List.mem_cons_of_mem _ hg)) (List.pairwise_cons.mp hs').2
 exact key R hhR (fun g hg => (hR g).mp hg) hs
theorem pick_none {W : WayF} {a0 : Abs} {k : Nat} {R : List Held} (hR : ∀ g, g ∈ R ↔ g ∈ a0.held ∧ g.waits ≤ a0.now) (hn : a0.held.filter (readyB W a0 k) = []) : R.find? (fun g => fits W a0.now k g.parcel) = none := by
 rw [List.find?_eq_none]
 intro g hg q
 obtain ⟨h1, h2⟩ := (hR g).mp hg
 have : g ∈ a0.held.filter (readyB W a0 k) := List.mem_filter.mpr ⟨h1, by rw [ready_eq, Bool.and_eq_true, decide_eq_true_eq]; exact ⟨h2, by simpa using q⟩⟩
 rw [hn] at this
 cases this
theorem send_step {W : WayF} {a0 a b : Abs} {done r : List Nat} {u : Held → Held} {k : Nat} {R : List Held} {evs : List Ev} (c : Chg W a0 a done u) (hk : k ∉ done) (hR : ∀ g, g ∈ R ↔ g ∈ a0.held ∧ g.waits ≤ a0.now)
  (hs : R.Pairwise fun g g' => before g'.parcel g.parcel = false) (h : sendsF W a (k :: r) = some (evs, b)) :
  (R.find? (fun g => fits W a0.now k g.parcel) = none ∧ sendsF W a r = some (evs, b)) ∨
  ∃ g x evs', R.find? (fun g => fits W a0.now k g.parcel) = some g ∧ a0.plan.list[k]? = some x ∧ sendsF W (sent a g x.takes) r = some (evs', b) ∧ evs = .send k (bytesOf (.parcel g.parcel (g.leg + 1))) :: evs' ∧ g ∈ a0.held ∧ fits W a0.now k g.parcel = true ∧ u g = g := by
 have hf := c.filter hk
 simp only [sendsF] at h
 rw [hf] at h
 split at h
 ·rename_i hb
  exact .inl ⟨pick_none hR (bestOf_none hb), h⟩
 ·rename_i g hb
  have hm := bestOf_mem hb
  split at h
  ·rename_i hall
   split at h
   ·cases h
   ·rename_i x hx
    cases hrec : sendsF W (sent a g x.takes) r with
    | none => rw [hrec] at h; cases h
    | some y =>
     rw [hrec] at h
     obtain ⟨evs', b'⟩ := y
     simp only [Option.map_some, Option.some.injEq, Prod.mk.injEq] at h
     obtain ⟨rfl, rfl⟩ := h
     obtain ⟨m1, m2⟩ := List.mem_filter.mp hm
     have m3 := m2
     rw [ready_eq, Bool.and_eq_true, decide_eq_true_eq] at m2
     have hug : u g = g := by
      rcases c.same g m1 with s | ⟨k', hk', s⟩
      ·exact s
      ·exact absurd (fits_one m2.2 s ▸ hk') hk
     refine .inr ⟨g, x, evs', pick_eq hR hs hm fun g' hg' => ?_, by rw [c.eq] at hx; exact hx, hrec, rfl, m1, m2.2, hug⟩
     have hg2 : g' ∈ a.held.filter (readyB W a k) := by rw [hf]; exact hg'
     obtain ⟨n1, n2⟩ := List.mem_filter.mp hg2
     have := List.all_eq_true.mp hall g' n1
     rw [n2] at this
     simpa using this
  ·cases h
end Sn
end
section
namespace Sn
open Sr36 Sr36Neutral
theorem whole_id (c : List (List Int)) : PySr36.whole c = c := by
 unfold PySr36.whole
 split <;> rfl
theorem calls_eq {l : List Int} {cs : List Sr36Neutral.Call} (h : PySr36.calls l = some cs) : l = PyFlat.put cs ∧ ∀ c ∈ cs, PyFlat.okCall PySr36.shape c := by
 unfold PySr36.calls at h
 split at h
 ·cases h
 ·rename_i cs' hc
  have e : cs'.map PySr36.whole = cs' := by
   have : PySr36.whole = id := by funext c; exact whole_id c
   rw [this, List.map_id]
  rw [e] at h
  cases h
  exact PyFlat.put_calls _ _ _ hc
inductive Form : Sr36Neutral.Call → Prop
 | start (n i : Int) (l : List Int) : natural n 32 = true → natural i 32 = true → okPasses l = true → l.length ≤ 780 → Form [[0, n, i], l]
 | put (t e : Int) (l : List Int) : natural t 32 = true → natural e 32 = true → (l.all fun (x : Int) => natural x 8) = true → l.length ≤ 60 → Form [[1, t, e], l]
 | tick : Form [[2]]
 | heard (k : Int) (l : List Int) : natural k 32 = true → (l.all fun (x : Int) => natural x 8) = true → l.length ≤ 80 → Form [[3, k], l]
 | read : Form [[4]]
 | state : Form [[5]]
theorem form_of {c : Sr36Neutral.Call} (h : asked1 c = true) : Form c := by
 unfold asked1 at h
 split at h
 ·simp only [Bool.and_eq_true, decide_eq_true_eq] at h
  exact .start _ _ _ h.1 h.2.1 h.2.2.1 h.2.2.2
 ·simp only [Bool.and_eq_true, decide_eq_true_eq] at h
  exact .put _ _ _ h.1 h.2.1 h.2.2.1 h.2.2.2
 ·exact .tick
 ·simp only [Bool.and_eq_true, decide_eq_true_eq] at h
  exact .heard _ _ h.1 h.2.1 h.2.2
 ·exact .read
 ·exact .state
 ·cases h
theorem may_cons {s : S} {c : Sr36Neutral.Call} {r : List Sr36Neutral.Call} (h : may s (c :: r) = true) : ∃ s' ans, tried s c = some (s', ans) ∧ may s' r = true ∧ step s c = (s', ans) := by
 simp only [may] at h
 split at h
 ·cases h
 ·rename_i y hy
  exact ⟨y.1, y.2, hy, h, by unfold step; rw [hy]⟩
theorem played_eq : ∀ (cs : List Sr36Neutral.Call) (s : S), may s cs = true → PyFlat.played step s cs = answers s cs
 | [], _, _ => rfl
 | c :: r, s, h => by
  obtain ⟨s', ans, h1, h2, h3⟩ := may_cons h
  simp only [PyFlat.played, answers]
  rw [h1, h3, played_eq r s' h2]
theorem foldl_sum : ∀ (L : List Nat) (a : Nat), L.foldl (· + ·) a = a + L.sum
 | [], a => by simp
 | x :: L, a => by
  rw [List.foldl_cons, foldl_sum L (a + x), List.sum_cons]
  omega
theorem told_len : ∀ L : List (List Int), (PyFlat.told L).length = (L.map List.length).sum + L.length
 | [] => rfl
 | a :: L => by
  have e : PyFlat.told (a :: L) = ((a.length : Int) :: a) ++ PyFlat.told L := rfl
  rw [e, List.length_append, told_len L, List.map_cons, List.sum_cons, List.length_cons, List.length_cons]
  omega
theorem answers_count : ∀ (cs : List Sr36Neutral.Call) (s : S), (answers s cs).length ≤ cs.length
 | [], _ => Nat.le_refl _
 | c :: r, s => by
  simp only [answers]
  split
  ·exact Nat.zero_le _
  ·rename_i y _
   rw [List.length_cons, List.length_cons]
   exact Nat.succ_le_succ (answers_count r y.1)
theorem asked_of {l : List Int} (h : PySr36.answers_asked l = true) : ∃ cs, PySr36.calls l = some cs ∧ l = PyFlat.put cs ∧ (∀ c ∈ cs, Form c) ∧ cs.length ≤ 1000 ∧ may start cs = true ∧ PySr36.answers l = PyFlat.told (PyFlat.played step start cs) ∧ (PySr36.answers l).length ≤ 1001000 := by
 unfold PySr36.answers_asked at h
 split at h
 ·cases h
 ·rename_i cs hc
  simp only [Bool.and_eq_true, PyFlat.atMost, decide_eq_true_eq, asked] at h
  obtain ⟨h1, h2, h3, h4, h5, h6⟩ := h
  have e : PySr36.answers l = PyFlat.told (PyFlat.played step start cs) := by
   unfold PySr36.answers
   rw [hc]
  refine ⟨cs, hc, (calls_eq hc).1, fun c hcm => form_of (List.all_eq_true.mp h4 c hcm), h1, h5, e, ?_⟩
  rw [e, played_eq cs start h5, told_len]
  rw [foldl_sum, Nat.zero_add] at h6
  have := answers_count cs start
  omega
theorem told_cons {s s' : S} {c : Sr36Neutral.Call} {r : List Sr36Neutral.Call} {ans : List Int} (h : step s c = (s', ans)) : PyFlat.told (PyFlat.played step s (c :: r)) = ((ans.length : Int) :: ans) ++ PyFlat.told (PyFlat.played step s' r) := by
 simp only [PyFlat.played]
 rw [h]
 rfl
def flat6 (q : List Sr35.Pass) : List Int := q.flatMap fun x => [(x.a : Int), x.b, x.takes, x.none_, x.begins, x.ends]
theorem passes_flat : ∀ {l : List Int}, okPasses l = true → flat6 (passes l) = l
 | [], _ => rfl
 | [_], h => by cases h
 | [_, _], h => by cases h
 | [_, _, _], h => by cases h
 | [_, _, _, _], h => by cases h
 | [_, _, _, _, _], h => by cases h
 | a :: b :: t :: z :: f :: e :: l, h => by
  simp only [okPasses, natural, Bool.and_eq_true, decide_eq_true_eq] at h
  obtain ⟨h1, h2, h3, h4, h5, h6, h7⟩ := h
  have ih := passes_flat h7
  show [((a.toNat : Nat) : Int), ((b.toNat : Nat) : Int), ((t.toNat : Nat) : Int), ((z.toNat : Nat) : Int), ((f.toNat : Nat) : Int), ((e.toNat : Nat) : Int)] ++ flat6 (passes l) = _
  rw [ih]
  simp only [List.cons_append, List.nil_append]
  rw [Int.toNat_of_nonneg h1.1, Int.toNat_of_nonneg h2.1, Int.toNat_of_nonneg h3.1, Int.toNat_of_nonneg h4.1, Int.toNat_of_nonneg h5.1, Int.toNat_of_nonneg h6.1]
theorem passes_len {l : List Int} (h : okPasses l = true) (hl : l.length ≤ 780) : (passes l).length ≤ 130 := by
 have h1 := passes_flat h
 have h2 : ∀ q : List Sr35.Pass, (flat6 q).length = 6 * q.length := by
  intro q
  induction q with
  | nil => rfl
  | cons x q ih =>
   show ([(x.a : Int), x.b, x.takes, x.none_, x.begins, x.ends] ++ flat6 q).length = _
   rw [List.length_append, ih]
   show 6 + 6 * q.length = 6 * (q.length + 1)
   omega
 have h3 := h2 (passes l)
 rw [h1] at h3
 omega
theorem plan_list (n : Int) (l : List Int) (h : (passes l).length ≤ 128) : (plan n l).list = passes l := by
 unfold Sr35.Plan.list plan
 dsimp only
 rw [List.take_take, List.take_append_of_le_length (by have : Sr35.PASSES = 128 := rfl; omega), List.take_of_length_le (by have : Sr35.PASSES = 128 := rfl; omega)]
theorem plan_m (n : Int) (l : List Int) : (plan n l).m = (passes l).length := rfl
theorem good_plan (n : Int) (l : List Int) : Sr35.good (plan n l) = (decide (2 ≤ n.toNat) && (decide (n.toNat ≤ 32) && (decide ((passes l).length ≤ 128) && (passes l).all (Sr35.okPass n.toNat)))) := by
 have hlen : (plan n l).passes.length = Sr35.PASSES := by
  unfold plan
  dsimp only
  rw [List.length_take, List.length_append, List.length_replicate]
  omega
 unfold Sr35.good
 rw [decide_eq_true hlen]
 by_cases c : (passes l).length ≤ 128
 ·rw [plan_list n l c, plan_m, decide_eq_true (show (passes l).length ≤ Sr35.PASSES from c), decide_eq_true c]
  simp only [Bool.and_true, Bool.true_and, Bool.and_assoc]
  rfl
 ·rw [plan_m, decide_eq_false (show ¬ (passes l).length ≤ Sr35.PASSES from c), decide_eq_false c]
  simp
end Sn
end
section
namespace L2
open PySem PySem.Spec PyProof.Rows
abbrev Key := Sum Int Str
def keyIs : Key → Value → Bool
  | .inl k, v => Value.isInt k v
  | .inr x, v => Value.isStrOf x v
def keyH (w : World) : Key → Int
  | .inl k => hashInt k
  | .inr x => hashStr w x
theorem keyIs_shape : ∀ {k : Key} {v : Value}, keyIs k v = true → (∃ i t, k = Sum.inl i ∧ v = Value.int i t) ∨ (∃ x t, k = Sum.inr x ∧ v = Value.str x t)
  | .inl i, v, h => by
    obtain ⟨t, e⟩ := Value.isInt_shape (k := i) (v := v) h
    exact .inl ⟨i, t, rfl, e⟩
  | .inr x, v, h => by
    obtain ⟨t, e⟩ := Value.isStrOf_shape (x := x) (v := v) h
    exact .inr ⟨x, t, rfl, e⟩
theorem keyIs_int (i : Int) (t : Tok) : keyIs (.inl i) (.int i t) = true := by simp [keyIs, Value.isInt]
theorem keyIs_str (x : Str) (t : Tok) : keyIs (.inr x) (.str x t) = true := by simp [keyIs, Value.isStrOf]
theorem key_ll (a b : Int) : decide ((Sum.inl a : Key) = Sum.inl b) = (a == b) := by
  by_cases e : a = b
  · subst e; simp
  · have h : ¬ (Sum.inl a : Key) = Sum.inl b := fun q => e (Sum.inl.inj q)
    rw [decide_eq_false h]
    exact (beq_eq_false_iff_ne.mpr e).symm
theorem key_rr (a b : Str) : decide ((Sum.inr a : Key) = Sum.inr b) = decide (a = b) := by
  by_cases e : a = b
  · subst e; simp
  · have h : ¬ (Sum.inr a : Key) = Sum.inr b := fun q => e (Sum.inr.inj q)
    rw [decide_eq_false h, decide_eq_false e]
theorem key_lr (a : Int) (b : Str) : decide ((Sum.inl a : Key) = Sum.inr b) = false := decide_eq_false (fun q => nomatch q)
theorem key_rl (a : Str) (b : Int) : decide ((Sum.inr a : Key) = Sum.inl b) = false := decide_eq_false (fun q => nomatch q)
def mixKind (prog : Program) (w : World) : PySem.KeyKind prog w Key where
  is := keyIs
  hash := keyH w
  inj := fun v a b ha hb => by
    rcases keyIs_shape ha with ⟨i, t, rfl, rfl⟩ | ⟨x, t, rfl, rfl⟩
    · rcases keyIs_shape hb with ⟨j, u, rfl, e⟩ | ⟨y, u, rfl, e⟩
      · injection e with e1 _; rw [e1]
      · exact nomatch e
    · rcases keyIs_shape hb with ⟨j, u, rfl, e⟩ | ⟨y, u, rfl, e⟩
      · exact nomatch e
      · injection e with e1 _; rw [e1]
  byValue := fun k v h => by
    rcases keyIs_shape h with ⟨i, t, rfl, rfl⟩ | ⟨x, t, rfl, rfl⟩ <;> rfl
  pyHash := fun hv h => by
    rcases keyIs_shape hv with ⟨i, t, rfl, rfl⟩ | ⟨x, t, rfl, rfl⟩
    · exact wpAny_pyHash_int h
    · exact wpAny_pyHash_str h
  eqBool := fun hu hv h => by
    rcases keyIs_shape hu with ⟨i, t, rfl, rfl⟩ | ⟨x, t, rfl, rfl⟩
    · rcases keyIs_shape hv with ⟨j, u, rfl, rfl⟩ | ⟨y, u, rfl, rfl⟩
      · rw [key_ll] at h; exact wpAny_eqBool_int h
      · rw [key_lr] at h; exact SeqAt.EqAt.int_str i t y u _ _ _ _ h
    · rcases keyIs_shape hv with ⟨j, u, rfl, rfl⟩ | ⟨y, u, rfl, rfl⟩
      · rw [key_rl] at h; exact SeqAt.EqAt.str_int x t j u _ _ _ _ h
      · rw [key_rr] at h; exact wpAny_eqBool_str h
  «strs» := fun k x t v h => by
    rcases keyIs_shape h with ⟨i, u, rfl, e⟩ | ⟨y, u, rfl, e⟩
    · exact nomatch e
    · injection e with e1 _
      subst e1
      cases v <;> rfl
theorem mixKind_int (prog : Program) (w : World) (i : Int) (t : Tok) : (mixKind prog w).is (.inl i) (.int i t) = true := keyIs_int i t
theorem mixKind_str (prog : Program) (w : World) (x : Str) (t : Tok) : (mixKind prog w).is (.inr x) (.str x t) = true := keyIs_str x t
end L2
namespace L2
open PySem PySem.Spec PyProof.Rows
inductive V where
  | non | bl (b : Bool) | int (i : Int) | str (x : Str) | byt (b : Array UInt8) | flt (b : UInt64) | ref (a : Addr) | ty (n : String)
  deriving DecidableEq
def RelV : V → Value → Prop
  | .non, u => u = Value.none
  | .bl b, u => u = Value.bool b
  | .int i, u => ∃ t, u = Value.int i t
  | .str x, u => ∃ t, u = Value.str x t
  | .byt b, u => ∃ t, u = Value.bytes b t
  | .flt b, u => ∃ t, u = Value.float b t
  | .ref a, u => u = Value.ref a
  | .ty n, u => u = Value.type n
abbrev Vals : List V → List Value → Prop := Paired RelV
theorem Vals.length {xs : List V} {us : List Value} (r : Vals xs us) : xs.length = us.length := Paired.length r
theorem Vals.get : ∀ {xs : List V} {us : List Value} {i : Nat} {x : V}, Vals xs us → xs[i]? = some x → ∃ u, us[i]? = some u ∧ RelV x u
  | _, _, _, _, .nil, e => by simp at e
  | _, _, 0, _, .cons r _, e => by simp at e; subst e; exact ⟨_, rfl, r⟩
  | _, _, i + 1, x, .cons _ t, e => by
    obtain ⟨u, h1, h2⟩ := Vals.get (i := i) (x := x) t (by simpa using e)
    exact ⟨u, by simpa using h1, h2⟩
theorem Vals.set {x : V} {u : Value} (r : RelV x u) : ∀ {xs : List V} {us : List Value} (i : Nat), Vals xs us → Vals (xs.set i x) (us.set i u)
  | _, _, _, .nil => .nil
  | _, _, 0, .cons _ t => .cons r t
  | _, _, i + 1, .cons q t => .cons q (Vals.set r i t)
theorem Vals.append : ∀ {xs ys : List V} {us ws : List Value}, Vals xs us → Vals ys ws → Vals (xs ++ ys) (us ++ ws)
  | _, _, _, _, .nil, s => s
  | _, _, _, _, .cons r t, s => .cons r (Vals.append t s)
theorem Vals.take : ∀ {xs : List V} {us : List Value} (n : Nat), Vals xs us → Vals (xs.take n) (us.take n)
  | _, _, 0, _ => .nil
  | _, _, _ + 1, .nil => .nil
  | _, _, n + 1, .cons r t => .cons r (Vals.take n t)
theorem Vals.drop : ∀ {xs : List V} {us : List Value} (n : Nat), Vals xs us → Vals (xs.drop n) (us.drop n)
  | _, _, 0, r => r
  | _, _, _ + 1, .nil => .nil
  | _, _, n + 1, .cons _ t => Vals.drop n t
def RelO : Option V → Option Value → Prop
  | some v, some u => RelV v u
  | none, none => True
  | _, _ => False
def KV {κ : Type} : List (κ × V) → List (κ × Value) → Prop := Paired fun (p : κ × V) (q : κ × Value) => p.1 = q.1 ∧ RelV p.2 q.2
def kV : Key → V
  | .inl i => .int i
  | .inr x => .str x
inductive HO where
  /-- a list -/
  | lst (xs : List V)
  /-- a tuple (never changes) -/
  | tup (xs : List V)
  /-- a dict whose keys are ints and texts; one whose keys are tuples of ints and texts (the empty one is both) -/
  | dK (kvs : List (Key × V)) | dT (kvs : List (List Key × V))
  /-- a set of ints: its members, its size -/
  | set (S : Int → Bool) (n : Nat)
  /-- an instance of the class at C, its dict at dx, its attributes -/
  | ins (C dx : Addr) (fs : List (Str × V))
  /-- the dict of the instance at x -/
  | own (x : Addr)
  /-- the dict of an exception -/
  | xd (fs : List (Str × V))
  /-- a bound method, f of x -/
  | met (f x : Addr)
  /-- a range object lo, lo + 1, .. below hi -/
  | rng (lo hi : Int)
  /-- a thing that is known to the object (the script; a dict while a loop walks it): read, never written while it is so -/
  | frz (o : Obj) (u : HO)
  /-- a code object's table -/
  | tbl (ps : Array Value)
  /-- any other thing, by what is true of its one object (a def of one's own: SetO a S n := HO.ext fun h => ..) -/
  | ext (φ : Heap → Prop)
abbrev Hp := Addr → Option HO
def upd (H : Hp) (a : Addr) (o : HO) : Hp := fun b => if b = a then some o else H b
theorem upd_same {H : Hp} {a : Addr} {o : HO} : upd H a o a = some o := by unfold upd; rw [if_pos rfl]
theorem upd_ne {H : Hp} {a b : Addr} {o : HO} (h : b ≠ a) : upd H a o b = H b := by unfold upd; rw [if_neg h]
theorem upd_upd {H : Hp} {a : Addr} {o u : HO} : upd (upd H a o) a u = upd H a u := by
  funext b; unfold upd; split <;> rfl
theorem ne_of {H : Hp} {a b : Addr} {o u : HO} (h : H a = some o) (h' : H b = some u) (d : o ≠ u) : a ≠ b := by
  intro e; subst e; rw [h] at h'; exact d (Option.some.inj h')
theorem ne_of_none {H : Hp} {a b : Addr} {o : HO} (h : H a = some o) (h' : H b = none) : a ≠ b := by
  intro e; subst e; rw [h] at h'; cases h'
section
variable (P : Program) (w : World)
def ObjOk (H : Hp) (h : Heap) (a : Addr) : HO → Prop
  | .lst xs => xs.length ≤ sizeLine ∧ ∃ (its : List Value) (n : Nat), Vals xs its ∧ h.get? a = some { cls := .type "list", data := .seq its.toArray n }
  | .tup xs => xs.length ≤ sizeLine ∧ ∃ its : List Value, Vals xs its ∧ IsTup h a its.toArray
  | .dK kvs => kvs.length ≤ sizeLine ∧ (a == sysModules) = false ∧ ∃ vs, KV kvs vs ∧ h.DictOf (mixKind P w) a vs
  | .dT kvs => kvs.length ≤ sizeLine ∧ (a == sysModules) = false ∧ ∃ xs : List (List Key × Addr × Value),
      Paired (fun (p : List Key × V) (q : List Key × Addr × Value) => p.1 = q.1 ∧ H q.2.1 = some (.tup (p.1.map kV)) ∧ RelV p.2 q.2.2) kvs xs ∧
      ∃ o es ep, h.get? a = some o ∧ o.ExactDict ∧ o.data = .dict es ep ∧ es.toList = xs.map (entryOfKey (tupleKind (mixKind P w))) ∧ (xs.map (·.1)).Nodup
  | .set S n => h.SetOf (intKind P w) a S n
  | .ins C dx fs => H dx = some (.own a) ∧ fs.length ≤ 1000 ∧ dx ≠ a ∧ h.get? a = some (PySem.W.instObj C dx) ∧
      ∃ mA, h.Ns1 dx mA ∧ (∀ f, RelO (fs.lookup f) (mA f)) ∧ PySem.Within mA (fs.map (·.1))
  | .own _ => ∃ o, h.get? a = some o
  | .xd fs => ∃ mA, h.Ns1 a mA ∧ ∀ f, RelO (fs.lookup f) (mA f)
  | .rng lo hi => ∃ t u v, h.get? a = some { cls := .type "range", data := .fields #[.int lo t, .int hi u, .int 1 v] }
  | .frz o u => h.get? a = some o ∧ ObjOk H h a u
  | .tbl ps => h.get? a = some { cls := .none, data := .fields ps }
  | .met f x => h.get? a = some (PySem.W.methodObj (.ref f) (.ref x))
  | .ext φ => φ h ∧ (∃ o, h.get? a = some o) ∧ ∀ h1 h2 : Heap, φ h1 → (∀ o, h1.get? a = some o → h2.get? a = some o) → φ h2
def HOk (H : Hp) (h : Heap) : Prop := ∀ a o, H a = some o → ObjOk P w H h a o
end
section
variable {P : Program} {w : World} {H H' : Hp} {h h' : Heap} {a : Addr} {o : HO}
theorem ObjOk.lt (x : ObjOk P w H h a o) : a < h.objs.size := by
  cases o with
  | lst xs => obtain ⟨_, _, _, _, e⟩ := x; exact Heap.lt_size e
  | tup xs => obtain ⟨_, _, _, p⟩ := x; exact p.lt
  | dK kvs => obtain ⟨_, _, _, _, o, _, _, e, _⟩ := x; exact Heap.lt_size e
  | dT kvs => obtain ⟨_, _, _, _, o, _, _, e, _⟩ := x; exact Heap.lt_size e
  | set S n => obtain ⟨o, _, _, _, e, _⟩ := x; exact Heap.lt_size e
  | ins C dx fs => obtain ⟨_, _, _, e, _⟩ := x; exact Heap.lt_size e
  | own y => obtain ⟨_, e⟩ := x; exact Heap.lt_size e
  | xd fs => obtain ⟨_, ⟨_, _, _, e, _⟩, _⟩ := x; exact Heap.lt_size e
  | rng lo hi => obtain ⟨_, _, _, e⟩ := x; exact Heap.lt_size e
  | frz ob u => obtain ⟨e, _⟩ := x; exact Heap.lt_size e
  | tbl ps => exact Heap.lt_size (show h.get? a = some _ from x)
  | met f y => exact Heap.lt_size (show h.get? a = some _ from x)
  | ext φ => obtain ⟨_, ⟨_, e⟩, _⟩ := x; exact Heap.lt_size e
theorem Paired.mapP {α β : Type} {F G : α → β → Prop} : ∀ {l₁ : List α} {l₂ : List β}, Paired F l₁ l₂ → (∀ a b, F a b → G a b) → Paired G l₁ l₂
  | _, _, .nil, _ => .nil
  | _, _, .cons r t, f => .cons (f _ _ r) (Paired.mapP t f)
theorem ObjOk.stay (x : ObjOk P w H h a o) (k : ∀ b u, (b = a ∨ H b = some (.own a)) → h.get? b = some u → h'.get? b = some u)
    (ho : ∀ b, H b = some (.own a) → H' b = some (.own a)) (ht : ∀ b xs, H b = some (.tup xs) → H' b = some (.tup xs)) : ObjOk P w H' h' a o := by
  induction o with
  | lst xs => obtain ⟨z, its, n, r, e⟩ := x; exact ⟨z, its, n, r, k _ _ (.inl rfl) e⟩
  | tup xs => obtain ⟨z, its, r, ob, e, c⟩ := x; exact ⟨z, its, r, ob, k _ _ (.inl rfl) e, c⟩
  | dK kvs => obtain ⟨z, y, vs, r, ob, es, ep, e, c⟩ := x; exact ⟨z, y, vs, r, ob, es, ep, k _ _ (.inl rfl) e, c⟩
  | dT kvs =>
    obtain ⟨z, y, xs, r, ob, es, ep, e, c⟩ := x
    exact ⟨z, y, xs, Paired.mapP r fun p q z => ⟨z.1, ht _ _ z.2.1, z.2.2⟩, ob, es, ep, k _ _ (.inl rfl) e, c⟩
  | set S n => obtain ⟨ob, es, ep, t, e, c⟩ := x; exact ⟨ob, es, ep, t, k _ _ (.inl rfl) e, c⟩
  | ins C dx fs =>
    obtain ⟨d, z, ne, e, mA, ⟨od, es, ep, e2, c⟩, r⟩ := x
    exact ⟨ho _ d, z, ne, k _ _ (.inl rfl) e, mA, ⟨od, es, ep, k _ _ (.inr d) e2, c⟩, r⟩
  | own y => obtain ⟨ob, e⟩ := x; exact ⟨ob, k _ _ (.inl rfl) e⟩
  | xd fs => obtain ⟨mA, ⟨od, es, ep, e, c⟩, r⟩ := x; exact ⟨mA, ⟨od, es, ep, k _ _ (.inl rfl) e, c⟩, r⟩
  | rng lo hi => obtain ⟨t, u, v, e⟩ := x; exact ⟨t, u, v, k _ _ (.inl rfl) e⟩
  | frz ob u ih => obtain ⟨e, q⟩ := x; exact ⟨k _ _ (.inl rfl) e, ih q⟩
  | tbl ps =>
    have e : h.get? a = some { cls := .none, data := .fields ps } := x
    show h'.get? a = some { cls := .none, data := .fields ps }
    exact k a _ (.inl rfl) e
  | met f y =>
    have e : h.get? a = some (PySem.W.methodObj (.ref f) (.ref y)) := x
    show h'.get? a = some (PySem.W.methodObj (.ref f) (.ref y))
    exact k a _ (.inl rfl) e
  | ext φ => obtain ⟨p, ⟨o, e⟩, st⟩ := x; exact ⟨st _ _ p fun o q => k _ _ (.inl rfl) q, ⟨o, k _ _ (.inl rfl) e⟩, st⟩
theorem HOk.lt (x : HOk P w H h) (e : H a = some o) : a < h.objs.size := (x a o e).lt
theorem HOk.fresh (x : HOk P w H h) (e : h.objs.size ≤ a) : H a = none := by
  cases q : H a with
  | none => rfl
  | some u => exact absurd (Nat.lt_of_lt_of_le (x.lt q) e) (Nat.lt_irrefl _)
theorem HOk.kept (x : HOk P w H h) (k : ∀ b u, h.get? b = some u → h'.get? b = some u) : HOk P w H h' := fun a o e =>
  (x a o e).stay (fun b u _ q => k b u q) (fun _ q => q) fun _ _ q => q
theorem HOk.laid (x : HOk P w H h) (k : ∀ b u, h.get? b = some u → h'.get? b = some u) (hp : h.objs.size ≤ a) (new : ObjOk P w (upd H a o) h' a o) : HOk P w (upd H a o) h' := fun b u e => by
  have hn := x.fresh hp
  by_cases hb : b = a
  · subst hb; rw [upd_same] at e; cases e; exact new
  · rw [upd_ne hb] at e
    exact (x b u e).stay (fun c v _ q => k c v q) (fun c q => by rw [upd_ne (ne_of_none q hn)]; exact q) fun c xs q => by rw [upd_ne (ne_of_none q hn)]; exact q
end
def Rd (H : Hp) (a : Addr) (u : HO) : Prop := H a = some u ∨ ∃ o, H a = some (.frz o u)
theorem Rd.ok {P : Program} {w : World} {H : Hp} {h : Heap} {a : Addr} {u : HO} (r : Rd H a u) (x : HOk P w H h) : ObjOk P w H h a u := by
  rcases r with r | ⟨o, r⟩
  · exact x a u r
  · obtain ⟨_, q⟩ := x a _ r
    exact q
def Mut : Option HO → Prop
  | some (.lst _) => True
  | some (.dK _) => True
  | some (.dT _) => True
  | some (.set _ _) => True
  | some (.ins _ _ _) => True
  | some (.ext _) => True
  | _ => False
section
variable {P : Program} {w : World} {H : Hp} {h h' : Heap} {x e : Addr} {o' : HO}
theorem HOk.write (ok : HOk P w H h) (mu : Mut (H x)) (he : e = x ∨ H e = some (.own x)) (k : ∀ b u, b ≠ e → h.get? b = some u → h'.get? b = some u) (heo : ∃ u, h'.get? e = some u)
    (new : ObjOk P w (upd H x o') h' x o') : HOk P w (upd H x o') h' := fun b u q => by
  have nown : ∀ c y, H c = some (.own y) → c ≠ x := fun c y r z => by subst z; rw [r] at mu; exact mu
  have ntup : ∀ c xs, H c = some (.tup xs) → c ≠ x := fun c xs r z => by subst z; rw [r] at mu; exact mu
  by_cases hb : b = x
  · subst hb; rw [upd_same] at q; cases q; exact new
  · rw [upd_ne hb] at q
    by_cases hbe : b = e
    · have q' : H b = some (.own x) := by
        rcases he with z | z
        · exact absurd (hbe.trans z) hb
        · rw [hbe]; exact z
      rw [q] at q'; cases q'
      obtain ⟨v, hv⟩ := heo
      exact ⟨v, by rw [hbe]; exact hv⟩
    · refine (ok b u q).stay (fun c v hc r => k c v ?_ r) (fun c r => by rw [upd_ne (nown c b r)]; exact r) fun c xs r => by rw [upd_ne (ntup c xs r)]; exact r
      rcases hc with rfl | hc
      · exact hbe
      · rintro rfl
        rcases he with z | z
        · exact nown c b hc z
        · rw [hc] at z; cases z; exact hb rfl
end
structure Un (fs ex : List Addr) (H H' : Hp) (h h' : Heap) : Prop where
  keep : ∀ b o, h.get? b = some o → H b = none → b ∉ fs → b ∉ ex → h'.get? b = some o
  slot : ∀ b o, h.get? b = some o → H b = none → b ∈ fs → b ∉ ex → ∃ sl, h'.get? b = some { o with slots := sl }
  free : ∀ b o, h.get? b = some o → H b = none → b ∉ ex → H' b = none
  there : ∀ b o, h.get? b = some o → b ∉ ex → ∃ o', h'.get? b = some o'
  tups : ∀ b xs, H b = some (.tup xs) → H' b = some (.tup xs)
  frzs : ∀ b o u, H b = some (.frz o u) → H' b = some (.frz o u)
  tbls : ∀ b ps, H b = some (.tbl ps) → ∃ more, H' b = some (.tbl (ps ++ more))
section
variable {fs fs' ex ex' : List Addr} {H H1 H2 : Hp} {h h1 h2 h' : Heap} {a x e : Addr} {o : HO}
theorem Un.any (u : Un fs ex H H1 h h1) {b : Addr} {ob : Obj} (q : h.get? b = some ob) (n : H b = none) (hx : b ∉ ex) : ∃ sl, h1.get? b = some { ob with slots := sl } := by
  by_cases hb : b ∈ fs
  · exact u.slot b ob q n hb hx
  · exact ⟨ob.slots, u.keep b ob q n hb hx⟩
theorem Un.kept (k : ∀ b u, h.get? b = some u → h'.get? b = some u) : Un fs ex H H h h' :=
  ⟨fun b ob q _ _ _ => k b ob q, fun b ob q _ _ _ => ⟨ob.slots, k b ob q⟩, fun _ _ _ n _ => n, fun b ob q _ => ⟨ob, k b ob q⟩, fun _ _ q => q, fun _ _ _ q => q, fun _ ps q => ⟨#[], by rw [q]; simp⟩⟩
theorem Un.refl : Un fs ex H H h h := Un.kept fun _ _ q => q
theorem Un.laid (k : ∀ b u, h.get? b = some u → h'.get? b = some u) (hp : h.objs.size ≤ a) (hn : H a = none) : Un fs ex H (upd H a o) h h' where
  keep := fun b u q _ _ _ => k b u q
  slot := fun b u q _ _ _ => ⟨u.slots, k b u q⟩
  free := fun b u q n _ => by rw [upd_ne (Nat.ne_of_lt (Nat.lt_of_lt_of_le (Heap.lt_size q) hp))]; exact n
  there := fun b u q _ => ⟨u, k b u q⟩
  tups := fun b xs q => by rw [upd_ne (ne_of_none q hn)]; exact q
  frzs := fun b u xs q => by rw [upd_ne (ne_of_none q hn)]; exact q
  tbls := fun b ps q => ⟨#[], by rw [upd_ne (ne_of_none q hn), q]; simp⟩
theorem Un.write (mu : Mut (H x)) (he : e = x ∨ H e = some (.own x)) (k : ∀ b u, b ≠ e → h.get? b = some u → h'.get? b = some u) (heo : ∃ u, h'.get? e = some u) : Un fs ex H (upd H x o) h h' := by
  have hx : ∀ b, H b = none → b ≠ x := fun b n z => by subst z; rw [n] at mu; exact mu
  have hb : ∀ b, H b = none → b ≠ e := fun b n z => by
    subst z
    rcases he with r | r
    · exact hx b n r
    · rw [n] at r; cases r
  have hm : ∀ b u, H b = some u → ¬ Mut (some u) → b ≠ x := fun b u q nm z => by subst z; rw [q] at mu; exact nm mu
  refine ⟨fun b u q n _ _ => k b u (hb b n) q, fun b u q n _ _ => ⟨u.slots, k b u (hb b n) q⟩, fun b u q n _ => by rw [upd_ne (hx b n)]; exact n, fun b u q _ => ?_,
    fun b xs q => by rw [upd_ne (hm b _ q fun z => z)]; exact q, fun b u xs q => by rw [upd_ne (hm b _ q fun z => z)]; exact q, fun b ps q => ⟨#[], by rw [upd_ne (hm b _ q fun z => z), q]; simp⟩⟩
  by_cases hbe : b = e
  · subst hbe; exact heo
  · exact ⟨u, k b u hbe q⟩
end
def trk (h : Heap) (H : Hp) : List Addr := (List.range h.objs.size).filter fun a => (H a).isSome
def hidT (h : Heap) (H : Hp) : Heap := PySem.W.hideAll h (trk h H)
theorem hidT_size (h : Heap) (H : Hp) : (hidT h H).objs.size = h.objs.size := PySem.W.hideAll_size _ _
theorem hidT_get {h : Heap} {H : Hp} {b : Addr} {o : Obj} (e : h.get? b = some o) (n : H b = none) : (hidT h H).get? b = some o :=
  PySem.W.hideAll_get _ e fun hm => by
    have q : (H b).isSome = true := (List.mem_filter.mp hm).2
    rw [n] at q; simp at q
theorem of_hidT {h : Heap} {H : Hp} {b : Addr} {o : Obj} (e : (hidT h H).get? b = some o) : h.get? b = some o ∧ H b = none := by
  have e' : h.get? b = some o := PySem.W.of_hideAll (trk h H) e
  refine ⟨e', ?_⟩
  cases q : H b with
  | none => rfl
  | some x =>
    have hm : b ∈ trk h H := List.mem_filter.mpr ⟨List.mem_range.mpr (Heap.lt_size e'), by simp [q]⟩
    have z : (hidT h H).get? b = none := PySem.W.hideAll_none (trk h H) hm
    rw [z] at e; cases e
end L2
namespace L2
open PySem PySem.Spec PyProof.Rows
structure Mod (K : PySem.W.Frag) (mg : Str → Option Value) (base : Heap) : Prop where
  kin : K.In base
  glob : base.Ns mainGlobals mg
  blt : ∃ mb, base.Ns builtinsNs mb ∧ ∀ x : Str, x ≠ "__name__" → mb x = bootBuiltins x
  nolimit : base.NoLimit
structure Cx where
  prog : Program
  w : World
  K : PySem.W.Frag
  mg : Str → Option Value
  base : Heap
  A : Around
  N : List Str
  s_0 : Shared
  H_0 : Hp
  env : Env
  outer : List Env
  stack : List Env
  ex : List Addr
  fn : Str → Bool
  calm : Bool
  pn : List (Addr × Obj)
  xe : Value → Shared → Prop
def frs (l : List Env) : List Addr := l.filterMap (·.frame)
abbrev Cx.fs (X : Cx) : List Addr := frs X.outer
def Vis (sc : Scope) (x : Str) : Prop := sc.names.lookup x = some .local ∨ sc.names.lookup x = some .cell ∨ sc.names.lookup x = some .free
def Loc (sc : Scope) (x : Str) : Prop := sc.names.lookup x = some .local ∨ sc.names.lookup x = some .cell
def Look (env : Env) (h : Heap) (m : Str → Option Value) (x : Str) (u : Value) : Prop :=
  (env.kindOf x = some .local ∧ m x = some u) ∨ ((env.kindOf x = some .cell ∨ env.kindOf x = some .free) ∧ ∃ c, env.cells.lookup x = some c ∧ h.IsCell c (some u))
structure Cx.Ok (X : Cx) : Prop where
  mod : Mod X.K X.mg X.base
  kind : X.env.scope.kind = .function
  glob : X.env.globals = mainGlobals
  blt : X.env.builtins = builtinsNs
  above : X.s_0.heap.objs.size ≤ X.env.locals
  inj : ∀ x y c, X.env.cells.lookup x = some c → X.env.cells.lookup y = some c → x = y
  has : ∀ x, (X.env.kindOf x = some .cell ∨ X.env.kindOf x = some .free) → ∃ c, X.env.cells.lookup x = some c
  cab : ∀ x c, X.fn x = true → X.env.cells.lookup x = some c → X.s_0.heap.objs.size ≤ c
  hd : X.calm = true → X.A.handled = none
  frames : X.A.frames = some X.stack
  stk : X.stack = X.outer ∨ (X.stack = X.env :: X.outer ∧ X.env.frame = some X.env.locals)
  exf : ∀ b ∈ X.ex, b ≠ X.env.locals ∧ ∀ x c, X.env.cells.lookup x = some c → c ≠ b
  bs : ∀ b o, X.base.get? b = some o → X.s_0.heap.get? b = some o ∧ X.H_0 b = none
  bsz : X.base.objs.size ≤ X.s_0.heap.objs.size
  noex : ∀ b o, X.base.get? b = some o → b ∉ X.ex
  exfs : ∀ b ∈ X.ex, b ∉ X.fs
  funs : X.s_0.heap.FunFrames X.base X.outer
  frf : ∀ b ∈ X.fs, X.H_0 b = none
structure Inv (X : Cx) (pins : List (Addr × Obj)) (σ : List (Option V)) (H : Hp) (s : Shared) : Prop where
  ok : X.Ok
  os : s.os = X.s_0.os
  bare : AllBare s.gens
  base : Un X.fs X.ex X.H_0 H X.s_0.heap s.heap
  loc : ∃ m, s.heap.Ns X.env.locals m ∧ ∀ (i : Nat) (x : Str) (v : V), X.N[i]? = some x → σ[i]? = some (some v) → Vis X.env.scope x → ∃ u, RelV v u ∧ Look X.env s.heap m x u
  cell : ∀ x c, X.env.cells.lookup x = some c → ∃ v, s.heap.IsCell c v
  free : H X.env.locals = none
  freeC : ∀ x c, X.env.cells.lookup x = some c → H c = none
  pin : ∀ p ∈ X.pn ++ pins, s.heap.get? p.1 = some p.2 ∧ H p.1 = none ∧ p.1 ≠ X.env.locals ∧ p.1 ∉ X.fs ∧ ∀ v, p.2.data ≠ .cell v
  hok : HOk X.prog X.w H s.heap
  len : σ.length = X.N.length
section
variable {X : Cx} {pins : List (Addr × Obj)} {σ : List (Option V)} {H H' : Hp} {s : Shared} {h' : Heap}
theorem Cx.Ok.nofr (ok : X.Ok) {b : Addr} {o : Obj} (e : X.base.get? b = some o) : b ∉ X.fs := fun hb => by
  have := (ok.funs.mem hb).1
  rw [e] at this; cases this
theorem Inv.bs (I : Inv X pins σ H s) : ∀ b o, X.base.get? b = some o → s.heap.get? b = some o ∧ H b = none := fun b o e =>
  ⟨I.base.keep b o (I.ok.bs b o e).1 (I.ok.bs b o e).2 (I.ok.nofr e) (I.ok.noex b o e), I.base.free b o (I.ok.bs b o e).1 (I.ok.bs b o e).2 (I.ok.noex b o e)⟩
theorem Inv.bk (I : Inv X pins σ H s) : ∀ b o, X.base.get? b = some o → s.heap.get? b = some o := fun b o e => (I.bs b o e).1
theorem Inv.mod (I : Inv X pins σ H s) : Mod X.K X.mg X.base := I.ok.mod
theorem Inv.kIn (I : Inv X pins σ H s) : X.K.In s.heap := I.ok.mod.kin.keeps I.bk
theorem Inv.fr (I : Inv X pins σ H s) : ∃ m, Fr X.base X.env.locals s.heap m :=
  let ⟨m, hn, _⟩ := I.loc
  ⟨m, hn, I.bk, Nat.le_trans I.ok.bsz I.ok.above⟩
theorem Inv.lt (I : Inv X pins σ H s) : X.env.locals < s.heap.objs.size := let ⟨_, hn, _⟩ := I.loc; hn.lt
theorem Inv.sz (I : Inv X pins σ H s) : X.s_0.heap.objs.size ≤ s.heap.objs.size := Nat.le_trans I.ok.above (Nat.le_of_lt I.lt)
theorem Inv.nofs (I : Inv X pins σ H s) {a : Addr} (h : s.heap.objs.size ≤ a) : a ∉ X.fs := fun hb => by
  obtain ⟨_, o, ho, _⟩ := I.ok.funs.mem hb
  exact absurd (Nat.lt_of_lt_of_le (Heap.lt_size ho) (Nat.le_trans I.sz h)) (Nat.lt_irrefl _)
theorem Inv.cne (I : Inv X pins σ H s) : ∀ x c, X.env.cells.lookup x = some c → c ≠ X.env.locals := fun x c e z => by
  obtain ⟨v, o, ho, hd⟩ := I.cell x c e
  obtain ⟨m, ⟨o', es, ep, ho', hd', _⟩, _⟩ := I.loc
  rw [z, ho'] at ho; cases ho; rw [hd'] at hd; cases hd
theorem Inv.funs (I : Inv X pins σ H s) : s.heap.FunFrames X.base X.outer := by
  have all : ∀ (l : List Env), (∀ b ∈ frs l, b ∈ X.fs) → X.s_0.heap.FunFrames X.base l → s.heap.FunFrames X.base l := by
    intro l
    induction l with
    | nil => intro _ _; trivial
    | cons env r ih =>
      intro hs hl
      obtain ⟨hk, ⟨L, o, hf, hn, ho, hd⟩, hr⟩ := hl
      have hL : L ∈ X.fs := hs L (by unfold frs; rw [List.filterMap_cons, hf]; exact List.mem_cons_self)
      obtain ⟨sl, e⟩ := I.base.slot L o ho (I.ok.frf L hL) hL fun z => I.ok.exfs L z hL
      exact ⟨hk, ⟨L, _, hf, hn, e, hd⟩, ih (fun b hb => hs b (by unfold frs; rw [List.filterMap_cons, hf]; exact List.mem_cons_of_mem _ hb)) hr⟩
  exact all X.outer (fun _ hb => hb) I.ok.funs
theorem Inv.stack (I : Inv X pins σ H s) : s.heap.FunFrames X.base X.stack := by
  rcases I.ok.stk with e | ⟨e, hf⟩
  · rw [e]; exact I.funs
  · rw [e]
    obtain ⟨m, hn, _⟩ := I.loc
    refine .cons (by rw [I.ok.kind]; decide) hf hn ?_ I.funs
    exact Heap.get?_none_of_le (Nat.le_trans I.ok.bsz I.ok.above)
theorem Inv.stkSub (I : Inv X pins σ H s) : ∀ b ∈ frs X.stack, b ∈ X.env.locals :: X.fs := fun b hb => by
  rcases I.ok.stk with e | ⟨e, hf⟩
  · rw [e] at hb; exact List.mem_cons_of_mem _ hb
  · rw [e] at hb
    unfold frs at hb
    rw [List.filterMap_cons, hf] at hb
    exact hb
theorem Inv.stkFree (I : Inv X pins σ H s) : ∀ b ∈ frs X.stack, H b = none := fun b hb => by
  rcases List.mem_cons.mp (I.stkSub b hb) with e | hb
  · rw [e]; exact I.free
  · obtain ⟨_, o, ho, _⟩ := I.ok.funs.mem hb
    exact I.base.free b o ho (I.ok.frf b hb) fun z => I.ok.exfs b z hb
theorem Inv.step {g' : Array GenState} {t' : Nat} {d' : Drawn} {ch : List Addr} (I : Inv X pins σ H s)
    (hch : ∀ b ∈ ch, (b ∈ X.ex ∨ X.s_0.heap.objs.size ≤ b) ∧ b ≠ X.env.locals ∧ (∀ x c, X.env.cells.lookup x = some c → c ≠ b) ∧ ∀ p ∈ X.pn ++ pins, p.1 ≠ b)
    (keep : ∀ b o, b ≠ X.env.locals → b ∉ X.fs → b ∉ ch → s.heap.get? b = some o → H b = none → h'.get? b = some o)
    (slot : ∀ b o, b ≠ X.env.locals → b ∈ X.fs → b ∉ ch → s.heap.get? b = some o → H b = none → ∃ sl, h'.get? b = some { o with slots := sl }) (free : ∀ b o, b ∉ ch → s.heap.get? b = some o → H b = none → H' b = none)
    (there : ∀ b o, b ∉ ch → s.heap.get? b = some o → ∃ o', h'.get? b = some o')
    (tups : ∀ b xs, H b = some (.tup xs) → H' b = some (.tup xs)) (frzs : ∀ b o u, H b = some (.frz o u) → H' b = some (.frz o u)) (tbls : ∀ b ps, H b = some (.tbl ps) → ∃ more, H' b = some (.tbl (ps ++ more)))
    (ns : ∀ m, s.heap.Ns X.env.locals m → h'.Ns X.env.locals m) (hok : HOk X.prog X.w H' h') (hg : AllBare g') :
    Inv X pins σ H' { s with heap := h', gens := g', drawn := d', toks := t' } := by
  have neL : ∀ b o, X.s_0.heap.get? b = some o → b ≠ X.env.locals := fun b o e => Nat.ne_of_lt (Nat.lt_of_lt_of_le (Heap.lt_size e) I.ok.above)
  have neC : ∀ b o, X.s_0.heap.get? b = some o → b ∉ X.ex → b ∉ ch := fun b o e hx hb => by
    rcases (hch b hb).1 with z | z
    · exact hx z
    · exact absurd (Nat.lt_of_lt_of_le (Heap.lt_size e) z) (Nat.lt_irrefl _)
  have cellK : ∀ x c, X.env.cells.lookup x = some c → ∀ v, s.heap.IsCell c v → h'.IsCell c v := fun x c e v ⟨o, ho, hd⟩ => by
    have nch : c ∉ ch := fun z => (hch c z).2.2.1 x c e rfl
    by_cases hc : c ∈ X.fs
    · obtain ⟨sl, q⟩ := slot c o (I.cne x c e) hc nch ho (I.freeC x c e)
      exact ⟨_, q, hd⟩
    · exact ⟨o, keep c o (I.cne x c e) hc nch ho (I.freeC x c e), hd⟩
  refine ⟨I.ok, I.os, hg, ⟨fun b o e n hb hx => ?_, fun b o e n hb hx => ?_, fun b o e n hx => ?_, fun b o e hx => ?_, fun b xs e => tups b xs (I.base.tups b xs e), fun b o xs e => frzs b o xs (I.base.frzs b o xs e), fun b ps e => ?_⟩, ?_, fun x c e => ?_, ?_, fun x c e => ?_, fun p hp => ?_, hok, I.len⟩
  · exact keep b o (neL b o e) hb (neC b o e hx) (I.base.keep b o e n hb hx) (I.base.free b o e n hx)
  · obtain ⟨sl, e1⟩ := I.base.slot b o e n hb hx
    obtain ⟨sl', e2⟩ := slot b _ (neL b o e) hb (neC b o e hx) e1 (I.base.free b o e n hx)
    exact ⟨sl', e2⟩
  · obtain ⟨o', e1⟩ := I.base.there b o e hx
    exact free b o' (neC b o e hx) e1 (I.base.free b o e n hx)
  · obtain ⟨o', e1⟩ := I.base.there b o e hx
    exact there b o' (neC b o e hx) e1
  · obtain ⟨m1, e1⟩ := I.base.tbls b ps e
    obtain ⟨m2, e2⟩ := tbls b _ e1
    exact ⟨m1 ++ m2, by rw [e2, Array.append_assoc]⟩
  · obtain ⟨m, hn, hl⟩ := I.loc
    refine ⟨m, ns m hn, fun i x v e1 e2 e3 => ?_⟩
    obtain ⟨u, r, l⟩ := hl i x v e1 e2 e3
    refine ⟨u, r, ?_⟩
    rcases l with l | ⟨k, c, e, z⟩
    · exact .inl l
    · exact .inr ⟨k, c, e, cellK x c e _ z⟩
  · obtain ⟨v, z⟩ := I.cell x c e
    exact ⟨v, cellK x c e v z⟩
  · obtain ⟨m, ⟨o, _, _, ho, _⟩, _⟩ := I.loc
    exact free _ o (fun z => (hch _ z).2.1 rfl) ho I.free
  · obtain ⟨v, o, ho, hd⟩ := I.cell x c e
    exact free c o (fun z => (hch c z).2.2.1 x c e rfl) ho (I.freeC x c e)
  · obtain ⟨e, n, ne, nf, d⟩ := I.pin p hp
    have nch : p.1 ∉ ch := fun z => (hch p.1 z).2.2.2 p hp rfl
    exact ⟨keep p.1 p.2 ne nf nch e n, free p.1 p.2 nch e n, ne, nf, d⟩
theorem Inv.un {t' : Nat} (I : Inv X pins σ H s) (u : Un X.fs [] H H' s.heap h') (hok : HOk X.prog X.w H' h') : Inv X pins σ H' { s with heap := h', toks := t' } := by
  obtain ⟨m, ⟨o, es, ep, ho, r⟩, _⟩ := id I.loc
  obtain ⟨sl, hL⟩ := u.any ho I.free (by simp)
  exact I.step (g' := s.gens) (d' := s.drawn) (ch := []) (fun _ z => nomatch z) (fun b o _ hb _ e n => u.keep b o e n hb (by simp)) (fun b o _ hb _ e n => u.slot b o e n hb (by simp)) (fun b o _ e n => u.free b o e n (by simp)) (fun b o _ e => u.there b o e (by simp)) u.tups u.frzs u.tbls (fun m' hm => by
    obtain ⟨o', es', ep', ho', r'⟩ := hm
    rw [ho] at ho'; cases ho'
    exact ⟨_, es', ep', hL, r'⟩) hok I.bare
theorem Inv.call {g' : Array GenState} {t' : Nat} {d' : Drawn} {ch : List Addr} (I : Inv X pins σ H s) (u : Un (frs X.stack) ch H H' s.heap h') (hok : HOk X.prog X.w H' h') (hg : AllBare g')
    (hch : ∀ b ∈ ch, (b ∈ X.ex ∨ X.s_0.heap.objs.size ≤ b) ∧ b ≠ X.env.locals ∧ (∀ x c, X.env.cells.lookup x = some c → c ≠ b) ∧ ∀ p ∈ X.pn ++ pins, p.1 ≠ b) :
    Inv X pins σ H' { s with heap := h', gens := g', drawn := d', toks := t' } := by
  obtain ⟨m, ⟨o, es, ep, ho, r⟩, _⟩ := id I.loc
  obtain ⟨sl, hL⟩ := u.any ho I.free fun z => (hch _ z).2.1 rfl
  exact I.step (ch := ch) hch (fun b o hL hb hc e n => u.keep b o e n (fun z => (List.mem_cons.mp (I.stkSub b z)).elim hL hb) hc) (fun b o _ _ hc e n => u.any e n hc) (fun b o hc e n => u.free b o e n hc) (fun b o hc e => u.there b o e hc) u.tups u.frzs u.tbls (fun m' hm => by
    obtain ⟨o', es', ep', ho', r'⟩ := hm
    rw [ho] at ho'; cases ho'
    exact ⟨_, es', ep', hL, r'⟩) hok hg
theorem Inv.turned {t' : Nat} {it : Addr} (I : Inv X pins σ H s) (k : ∀ b o, b ≠ it → s.heap.get? b = some o → h'.get? b = some o) (hn : H it = none) (hL : it ≠ X.env.locals)
    (h1 : it ∈ X.ex ∨ X.s_0.heap.objs.size ≤ it) (h2 : ∀ x c, X.env.cells.lookup x = some c → c ≠ it) (h3 : ∀ p ∈ X.pn ++ pins, p.1 ≠ it) : Inv X pins σ H { s with heap := h', toks := t' } := by
  have nit : ∀ b u, H b = some u → b ≠ it := fun b u e z => by rw [z, hn] at e; cases e
  refine I.step (g' := s.gens) (d' := s.drawn) (ch := [it]) (fun b hb => ?_) (fun b o _ _ hc e _ => k b o (fun z => hc (by simp [z])) e) (fun b o _ _ hc e _ => ⟨o.slots, k b o (fun z => hc (by simp [z])) e⟩) (fun _ _ _ _ n => n)
    (fun b o hc e => ⟨o, k b o (fun z => hc (by simp [z])) e⟩) (fun _ _ e => e) (fun _ _ _ e => e) (fun b ps e => ⟨#[], by rw [e]; simp⟩) (fun m hm => ?_) (fun b u e => ?_) I.bare
  · have e : b = it := by simpa using hb
    subst e
    exact ⟨h1, hL, h2, h3⟩
  · obtain ⟨o, es, ep, ho, r⟩ := hm
    exact ⟨o, es, ep, k _ o (Ne.symm hL) ho, r⟩
  · refine (I.hok b u e).stay (fun c v hc q => k c v ?_ q) (fun _ q => q) fun _ _ q => q
    rcases hc with z | z
    · rw [z]; exact nit b u e
    · exact nit c _ z
theorem Inv.tok (I : Inv X pins σ H s) (t : Nat) : Inv X pins σ H { s with toks := t } := I.un (h' := s.heap) (t' := t) Un.refl I.hok
theorem Inv.kept {t' : Nat} (I : Inv X pins σ H s) (k : ∀ b u, s.heap.get? b = some u → h'.get? b = some u) : Inv X pins σ H { s with heap := h', toks := t' } := I.un (Un.kept k) (I.hok.kept k)
theorem Inv.laid {a : Addr} {o : HO} {t' : Nat} (I : Inv X pins σ H s) (k : ∀ b u, s.heap.get? b = some u → h'.get? b = some u) (hp : s.heap.objs.size ≤ a) (new : ObjOk X.prog X.w (upd H a o) h' a o) :
    Inv X pins σ (upd H a o) { s with heap := h', toks := t' } := I.un (Un.laid k hp (I.hok.fresh hp)) (I.hok.laid k hp new)
theorem Inv.write {x e : Addr} {o : HO} {t' : Nat} (I : Inv X pins σ H s) (mu : Mut (H x)) (he : e = x ∨ H e = some (.own x)) (k : ∀ b u, b ≠ e → s.heap.get? b = some u → h'.get? b = some u) (heo : ∃ u, h'.get? e = some u)
    (new : ObjOk X.prog X.w (upd H x o) h' x o) : Inv X pins σ (upd H x o) { s with heap := h', toks := t' } := I.un (Un.write mu he k heo) (I.hok.write mu he k heo new)
theorem Inv.weak {σ' : List (Option V)} (I : Inv X pins σ H s) (hl : σ'.length = σ.length) (w : ∀ (i : Nat) v, σ'[i]? = some (some v) → σ[i]? = some (some v)) : Inv X pins σ' H s :=
  ⟨I.ok, I.os, I.bare, I.base, let ⟨m, hn, hl'⟩ := I.loc; ⟨m, hn, fun i x v e1 e2 e3 => hl' i x v e1 (w i v e2) e3⟩, I.cell, I.free, I.freeC, I.pin, I.hok, hl.trans I.len⟩
theorem Inv.pins_of {pins' : List (Addr × Obj)} (I : Inv X pins σ H s) (h : ∀ p ∈ pins', s.heap.get? p.1 = some p.2 ∧ H p.1 = none ∧ p.1 ≠ X.env.locals ∧ p.1 ∉ X.fs ∧ ∀ v, p.2.data ≠ .cell v) : Inv X pins' σ H s :=
  ⟨I.ok, I.os, I.bare, I.base, I.loc, I.cell, I.free, I.freeC, fun p hp => (List.mem_append.mp hp).elim (fun z => I.pin p (List.mem_append_left _ z)) (h p), I.hok, I.len⟩
theorem nodup_ix {N : List Str} (hN : N.Nodup) {i j : Nat} {x : Str} (a : N[i]? = some x) (b : N[j]? = some x) : i = j := by
  obtain ⟨h1, e1⟩ := List.getElem?_eq_some_iff.mp a
  obtain ⟨h2, e2⟩ := List.getElem?_eq_some_iff.mp b
  exact (List.getElem_inj hN).mp (e1.trans e2.symm)
theorem store_ok2 {M : Model} {A : Around} {E : Value → Shared → Prop} {i : Nat} {x : Str} {v : V} {u : Value} {Q : Unit → Shared → Prop} (I : Inv X pins σ H s) (hN : X.N.Nodup) (hi : X.N[i]? = some x) (hx : Loc X.env.scope x) (r : RelV v u)
    (h : ∀ s', Inv X pins (σ.set i (some v)) H s' → (∃ a, Heap.SameBut a s.heap s'.heap ∧ (a = X.env.locals ∨ X.env.cells.lookup x = some a)) → Q () s') (hf : X.fn x = true ∨ X.env.scope.names.lookup x = some .local := by first | exact .inl rfl | exact .inr rfl | assumption) : wpAny M A (storeName X.env x u) Q E s := by
  obtain ⟨m, hn, hl⟩ := id I.loc
  have hcls : (X.env.scope.kind == .class || (X.env.scope.kind == .module && X.env.locals != X.env.globals)) = false := by rw [I.ok.kind]; rfl
  have hiσ : i < σ.length := by rw [I.len]; exact (List.getElem?_eq_some_iff.mp hi).1
  have cne := I.cne
  have tracked : ∀ {a : Addr} {h' : Heap}, (∃ o, s.heap.get? a = some o ∧ H a = none) → Heap.SameBut a s.heap h' → HOk X.prog X.w H h' := fun {a h'} ha hs b ob e => by
    obtain ⟨_, _, hfree⟩ := ha
    refine (I.hok b ob e).stay (fun c w' hc q => (hs.2 c ?_).trans q) (fun _ q => q) fun _ _ q => q
    rintro rfl
    rcases hc with rfl | hc
    · rw [hfree] at e; cases e
    · rw [hfree] at hc; cases hc
  rcases hx with hk | hk
  · refine wpAny_storeName_local hk hn (fun h' hn' hs => ?_) hcls
    obtain ⟨oL, _, _, hoL, _⟩ := id hn
    refine h _ ⟨I.ok, I.os, I.bare, ⟨fun b o e n hb hx => ?_, fun b o e n hb hx => ?_, I.base.free, fun b o e hx => ?_, I.base.tups, I.base.frzs, I.base.tbls⟩, ⟨_, hn', fun j y v' e1 e2 e3 => ?_⟩, fun y c e => ?_, I.free, I.freeC, fun p hp => ?_, tracked ⟨oL, hoL, I.free⟩ hs, by simpa using I.len⟩ ⟨_, hs, .inl rfl⟩
    · exact (hs.2 b (Nat.ne_of_lt (Nat.lt_of_lt_of_le (Heap.lt_size e) I.ok.above))).trans (I.base.keep b o e n hb hx)
    · obtain ⟨sl, e1⟩ := I.base.slot b o e n hb hx
      exact ⟨sl, (hs.2 b (Nat.ne_of_lt (Nat.lt_of_lt_of_le (Heap.lt_size e) I.ok.above))).trans e1⟩
    · obtain ⟨o', e1⟩ := I.base.there b o e hx
      exact ⟨o', (hs.2 b (Nat.ne_of_lt (Nat.lt_of_lt_of_le (Heap.lt_size e) I.ok.above))).trans e1⟩
    · by_cases hj : j = i
      · subst hj
        rw [hi] at e1; cases e1
        rw [List.getElem?_set_self hiσ] at e2
        cases e2
        exact ⟨u, r, .inl ⟨hk, by simp⟩⟩
      · rw [List.getElem?_set_ne (Ne.symm hj)] at e2
        obtain ⟨u', r', q⟩ := hl j y v' e1 e2 e3
        refine ⟨u', r', ?_⟩
        rcases q with ⟨k, e⟩ | ⟨k, c, e, z⟩
        · refine .inl ⟨k, ?_⟩
          have : y ≠ x := fun e => hj (nodup_ix hN e1 (e ▸ hi))
          simp [this, e]
        · exact .inr ⟨k, c, e, z.sameBut hs (cne y c e)⟩
    · obtain ⟨w', z⟩ := I.cell y c e
      exact ⟨w', z.sameBut hs (cne y c e)⟩
    · obtain ⟨e, n, ne, nf, d⟩ := I.pin p hp
      exact ⟨(hs.2 p.1 ne).trans e, n, ne, nf, d⟩
  · have hfn : X.fn x = true := by
      rcases hf with z | z
      · exact z
      · rw [z] at hk; cases hk
    obtain ⟨c, hc⟩ := I.ok.has x (.inl hk)
    obtain ⟨w', z⟩ := I.cell x c hc
    refine wpAny_storeName_cell I.ok.kind hk hc z (fun h' hc' hs => ?_)
    obtain ⟨oc, hoc, hocd⟩ := id z
    refine h { s with heap := h' } ⟨I.ok, I.os, I.bare, ⟨fun b o e n hb hx => ?_, fun b o e n hb hx => ?_, I.base.free, fun b o e hx => ?_, I.base.tups, I.base.frzs, I.base.tbls⟩, ⟨m, hn.sameBut hs (Ne.symm (cne x c hc)), fun j y v' e1 e2 e3 => ?_⟩, fun y c' e => ?_, I.free, I.freeC, fun p hp => ?_, tracked ⟨oc, hoc, I.freeC x c hc⟩ hs, by simpa using I.len⟩ ⟨c, hs, .inr hc⟩
    · exact (hs.2 b (Nat.ne_of_lt (Nat.lt_of_lt_of_le (Heap.lt_size e) (I.ok.cab x c hfn hc)))).trans (I.base.keep b o e n hb hx)
    · obtain ⟨sl, e1⟩ := I.base.slot b o e n hb hx
      exact ⟨sl, (hs.2 b (Nat.ne_of_lt (Nat.lt_of_lt_of_le (Heap.lt_size e) (I.ok.cab x c hfn hc)))).trans e1⟩
    · obtain ⟨o', e1⟩ := I.base.there b o e hx
      exact ⟨o', (hs.2 b (Nat.ne_of_lt (Nat.lt_of_lt_of_le (Heap.lt_size e) (I.ok.cab x c hfn hc)))).trans e1⟩
    · by_cases hj : j = i
      · subst hj
        rw [hi] at e1; cases e1
        rw [List.getElem?_set_self hiσ] at e2
        cases e2
        exact ⟨u, r, .inr ⟨.inl hk, c, hc, hc'⟩⟩
      · rw [List.getElem?_set_ne (Ne.symm hj)] at e2
        obtain ⟨u', r', q⟩ := hl j y v' e1 e2 e3
        refine ⟨u', r', ?_⟩
        rcases q with q | ⟨k, c', e, z'⟩
        · exact .inl q
        · refine .inr ⟨k, c', e, z'.sameBut hs ?_⟩
          rintro rfl
          exact hj (nodup_ix hN e1 (I.ok.inj _ _ _ e hc ▸ hi))
    · by_cases hcc : c' = c
      · subst hcc; exact ⟨_, hc'⟩
      · obtain ⟨w2, z2⟩ := I.cell y c' e
        exact ⟨w2, z2.sameBut hs hcc⟩
    · obtain ⟨e, n, ne, nf, d⟩ := I.pin p hp
      refine ⟨(hs.2 p.1 ?_).trans e, n, ne, nf, d⟩
      intro q
      rw [q, hoc] at e
      have q' : oc = p.2 := Option.some.inj e
      exact d w' (by rw [← q']; exact hocd)
theorem store_ok {M : Model} {A : Around} {E : Value → Shared → Prop} {i : Nat} {x : Str} {v : V} {u : Value} {Q : Unit → Shared → Prop} (I : Inv X pins σ H s) (hN : X.N.Nodup) (hi : X.N[i]? = some x) (hx : Loc X.env.scope x) (r : RelV v u)
    (h : ∀ s', Inv X pins (σ.set i (some v)) H s' → Q () s') (hf : X.fn x = true ∨ X.env.scope.names.lookup x = some .local := by first | exact .inl rfl | exact .inr rfl | assumption) : wpAny M A (storeName X.env x u) Q E s :=
  store_ok2 I hN hi hx r (fun s' I' _ => h s' I') hf
theorem Inv.call' {s' : Shared} {ch : List Addr} (I : Inv X pins σ H s) (ho : s'.os = s.os) (u : Un (frs X.stack) ch H H' s.heap s'.heap) (hok : HOk X.prog X.w H' s'.heap) (hg : AllBare s'.gens)
    (hch : ∀ b ∈ ch, (b ∈ X.ex ∨ X.s_0.heap.objs.size ≤ b) ∧ b ≠ X.env.locals ∧ (∀ x c, X.env.cells.lookup x = some c → c ≠ b) ∧ ∀ p ∈ X.pn ++ pins, p.1 ≠ b) : Inv X pins σ H' s' := by
  obtain ⟨h', g', d', t', o'⟩ := s'
  have e : o' = s.os := ho
  subst e
  exact I.call (g' := g') (t' := t') (d' := d') u hok hg hch
end
abbrev XK := Value → Option Addr → Hp → Prop
abbrev St := List (Option V)
abbrev VK := V → Hp → Prop
abbrev TE := St → Hp → VK → Prop
abbrev TT := St → Hp → (Bool → Hp → Prop) → Prop
abbrev TA := St → Hp → (List V → Hp → Prop) → Prop
structure Ends where
  nx : St → Hp → Prop
  rt : VK
  bk : St → Hp → Prop := fun _ _ => False
  ct : St → Hp → Prop := fun _ _ => False
abbrev TS := Ends → St → Hp → Prop
def EP (X : Cx) (pins : List (Addr × Obj)) (σ : St) (Q : VK) (u : Value) (s' : Shared) : Prop := ∃ v H', Inv X pins σ H' s' ∧ RelV v u ∧ Q v H'
def TP (X : Cx) (pins : List (Addr × Obj)) (σ : St) (Q : Bool → Hp → Prop) (b : Bool) (s' : Shared) : Prop := ∃ H', Inv X pins σ H' s' ∧ Q b H'
def AP (X : Cx) (pins : List (Addr × Obj)) (σ : St) (Q : List V → Hp → Prop) (us : List Value) (s' : Shared) : Prop := ∃ vs H', Inv X pins σ H' s' ∧ Vals vs us ∧ Q vs H'
def SP (X : Cx) (pins : List (Addr × Obj)) (D : Ends) (f : Flow) (s' : Shared) : Prop :=
  match f with
  | .next => ∃ σ' H', Inv X pins σ' H' s' ∧ D.nx σ' H'
  | .brk => ∃ σ' H', Inv X pins σ' H' s' ∧ D.bk σ' H'
  | .cont => ∃ σ' H', Inv X pins σ' H' s' ∧ D.ct σ' H'
  | .ret u => ∃ v σ' H', Inv X pins σ' H' s' ∧ RelV v u ∧ D.rt v H'
def PE (X : Cx) (e : Expr) (t : TE) : Prop :=
  ∀ (pins : List (Addr × Obj)) (s : Shared) (σ : St) (H : Hp) (Q : VK), Inv X pins σ H s → t σ H Q → wpAny (model X.prog X.w) X.A (eval e X.env) (EP X pins σ Q) X.xe s
def PT (X : Cx) (e : Expr) (t : TT) : Prop :=
  ∀ (pins : List (Addr × Obj)) (s : Shared) (σ : St) (H : Hp) (Q : Bool → Hp → Prop), Inv X pins σ H s → t σ H Q → wpAny (model X.prog X.w) X.A (isTrue e X.env (eval e X.env)) (TP X pins σ Q) X.xe s
def PW (X : Cx) (e : Expr) (t : TT) : Prop :=
  ∀ (whole : Sem Value) (pins : List (Addr × Obj)) (s : Shared) (σ : St) (H : Hp) (Q : Bool → Hp → Prop), Inv X pins σ H s → t σ H Q → wpAny (model X.prog X.w) X.A (isTrue e X.env whole) (TP X pins σ Q) X.xe s
theorem PW.pt {X : Cx} {e : Expr} {t : TT} (h : PW X e t) : PT X e t := h _
def PA (X : Cx) (es : List Expr) (t : TA) : Prop :=
  ∀ (pos : Pos) (pins : List (Addr × Obj)) (s : Shared) (σ : St) (H : Hp) (Q : List V → Hp → Prop), Inv X pins σ H s → t σ H Q → wpAny (model X.prog X.w) X.A (spliced (backTo pos (starEach es X.env))) (AP X pins σ Q) X.xe s
def PS (X : Cx) (st : Stmt) (t : TS) : Prop :=
  ∀ (pins : List (Addr × Obj)) (s : Shared) (σ : St) (H : Hp) (D : Ends), Inv X pins σ H s → t D σ H → wpAny (model X.prog X.w) X.A (exec st X.env) (SP X pins D) X.xe s
def PSs (X : Cx) (st : List Stmt) (t : TS) : Prop :=
  ∀ (pins : List (Addr × Obj)) (s : Shared) (σ : St) (H : Hp) (D : Ends), Inv X pins σ H s → t D σ H → wpAny (model X.prog X.w) X.A (execs st X.env) (SP X pins D) X.xe s
theorem thn {α : Type} {t : Sem α} {Q Q' : α → Shared → Prop} {M : Model} {A : Around} {E : Value → Shared → Prop} {s : Shared} (h : wpAny M A t Q E s) (hQ : ∀ a s, Q a s → Q' a s) : wpAny M A t Q' E s := wpAny_mono h hQ fun _ _ x => x
end L2
namespace L2
open PySem PySem.Spec PyProof.Rows
section
variable {X : Cx}
theorem bin {a b : Expr} {ta tb : TE} (ha : PE X a ta) (hb : PE X b tb) {pins : List (Addr × Obj)} {s : Shared} {σ : St} {H : Hp} {R : V → V → Hp → Prop} (I : Inv X pins σ H s) (h : ta σ H fun x H1 => tb σ H1 fun y H2 => R x y H2)
    {α : Type} {Q : α → Shared → Prop} {f : Value → Value → Sem α}
    (hf : ∀ v u s2 x y H2, Inv X pins σ H2 s2 → RelV x v → RelV y u → R x y H2 → wpAny (model X.prog X.w) X.A (f v u) Q X.xe s2) :
    wpAny (model X.prog X.w) X.A (eval a X.env) (fun v s₁ => wpAny (model X.prog X.w) X.A (eval b X.env) (fun u s₂ => wpAny (model X.prog X.w) X.A (f v u) Q X.xe s₂) X.xe s₁) X.xe s := by
  refine thn (ha pins s σ H _ I h) fun v s1 ⟨x, H1, I1, r1, q1⟩ => ?_
  refine thn (hb pins s1 σ H1 _ I1 q1) fun u s2 ⟨y, H2, I2, r2, q2⟩ => ?_
  exact hf v u s2 x y H2 I2 r1 r2 q2
def tVar (i : Nat) : TE := fun σ H Q => ∃ v, σ[i]? = some (some v) ∧ Q v H
def tC (v : V) : TE := fun _ H Q => Q v H
theorem pe_var {i : Nat} {x : Str} {pos : Pos} (hN : X.N[i]? = some x) (hv : Vis X.env.scope x) (hd : (x == ("__debug__" : Str)) = false := by decide) (hcd : (x == ("__classdict__" : Str)) = false := by decide) : PE X (.Name x pos) (tVar i) := by
  intro pins s σ H Q I h
  obtain ⟨v, e, h⟩ := h
  obtain ⟨m, hn, hl⟩ := I.loc
  obtain ⟨u, r, l⟩ := hl i x v hN e hv
  have fin : EP X pins σ Q u s := ⟨v, H, I, r, h⟩
  rcases l with ⟨hk, hm⟩ | ⟨hk, c, hc, hcell⟩
  · exact wpAny_Name (wpAny_loadName_local I.ok.kind hk hn hm fin) hd
  · rcases hk with hk | hk
    · exact wpAny_Name (wpAny_loadName_cell I.ok.kind hk hc hcell fin) hd
    · exact wpAny_Name (wpAny_loadName_free I.ok.kind hk hc hcell fin hcd) hd
theorem pe_int {i j pos} : PE X (.Constant (.int i) j pos) (tC (.int i)) := fun _ _ _ H _ I h => wpAny_Constant_int ⟨.int i, H, I.tok _, ⟨_, rfl⟩, h⟩
theorem pe_bl {b j pos} : PE X (.Constant (.bool b) j pos) (tC (.bl b)) := fun _ _ _ H _ I h => Constant_bool ⟨.bl b, H, I, rfl, h⟩
theorem pe_non {j pos} : PE X (.Constant .none j pos) (tC .non) := fun _ _ _ H _ I h => Constant_none ⟨.non, H, I, rfl, h⟩
def Gl (X : Cx) (x : Str) : Prop := X.env.kindOf x = some .globalImplicit
theorem ld_glob {E : Value → Shared → Prop} {pins : List (Addr × Obj)} {s : Shared} {σ : St} {H : Hp} {x : Str} {u : Value} {pos : Pos} {Q : Value → Shared → Prop} (I : Inv X pins σ H s) (hg : Gl X x) (hm : X.mg x = some u) (h : Q u s)
    (hd : (x == ("__debug__" : Str)) = false := by decide) : wpAny (model X.prog X.w) X.A (eval (.Name x pos) X.env) Q E s :=
  Calls.Name_function_global I.ok.kind hg (Calls.loadGlobal_global (by rw [I.ok.glob]; exact I.mod.glob.keeps I.bk) hm h) hd
theorem ld_blt {E : Value → Shared → Prop} {pins : List (Addr × Obj)} {s : Shared} {σ : St} {H : Hp} {x : Str} {u : Value} {pos : Pos} {Q : Value → Shared → Prop} (I : Inv X pins σ H s) (hg : Gl X x) (hm : X.mg x = none) (hv : bootBuiltins x = some u) (h : Q u s)
    (hn : x ≠ "__name__" := by decide) (hd : (x == ("__debug__" : Str)) = false := by decide) : wpAny (model X.prog X.w) X.A (eval (.Name x pos) X.env) Q E s := by
  obtain ⟨mb, h1, h2⟩ := I.mod.blt
  exact Calls.Name_function_global I.ok.kind hg (Calls.loadGlobal_builtin (by rw [I.ok.glob]; exact I.mod.glob.keeps I.bk) hm (by rw [I.ok.blt]; exact h1.keeps I.bk) ((h2 x hn).trans hv) h) hd
theorem pe_glob {x : Str} {v : V} {u : Value} {pos : Pos} (hg : Gl X x) (hm : X.mg x = some u) (r : RelV v u) (hd : (x == ("__debug__" : Str)) = false := by decide) : PE X (.Name x pos) (tC v) :=
  fun _ _ _ H _ I h => ld_glob I hg hm ⟨v, H, I, r, h⟩ hd
variable {a b : Expr} {ta tb : TE} {pos : Pos}
def PC (X : Cx) (op : CmpOp) (a b : Expr) (t : TE) : Prop :=
  ∀ (pins : List (Addr × Obj)) (s : Shared) (σ : St) (H : Hp) (Q : VK), Inv X pins σ H s → t σ H Q →
    wpAny (model X.prog X.w) X.A (eval a X.env) (fun v s₁ => wpAny (model X.prog X.w) X.A (eval b X.env) (fun u s₂ => wpAny (model X.prog X.w) X.A (compareOp op v u) (EP X pins σ Q) X.xe s₂) X.xe s₁) X.xe s
theorem nobehind (b : Expr) {op : CmpOp} (h : op ≠ .In) (h2 : op ≠ .NotIn) : behindInMarks op b = false := by
  have e1 : (op == CmpOp.In) = false := by cases op <;> first | rfl | exact absurd rfl h
  have e2 : (op == CmpOp.NotIn) = false := by cases op <;> first | rfl | exact absurd rfl h2
  cases b <;> simp [behindInMarks, e1, e2]
def tIsN (ta : TE) : TE := fun σ H Q => ta σ H fun x H1 => Q (.bl (decide (x = .non))) H1
def tNotN (ta : TE) : TE := fun σ H Q => ta σ H fun x H1 => Q (.bl (!decide (x = .non))) H1
theorem RelV.none_iff {x : V} {v : Value} (r : RelV x v) : (v == Value.none) = decide (x = .non) := by
  cases x with
  | non => cases r; rfl
  | bl _ => cases r; rfl
  | int _ => obtain ⟨t, rfl⟩ := r; rfl
  | str _ => obtain ⟨t, rfl⟩ := r; rfl
  | byt _ => obtain ⟨t, rfl⟩ := r; rfl
  | flt _ => obtain ⟨t, rfl⟩ := r; rfl
  | ref _ => cases r; rfl
  | ty _ => cases r; rfl
theorem pc_isN {j pos'} (ha : PE X a ta) : PC X .Is a (.Constant .none j pos') (tIsN ta) := by
  intro pins s σ H Q I h
  refine thn (ha pins s σ H _ I h) fun v s1 ⟨x, H1, I1, r1, q1⟩ => ?_
  exact Constant_none (is_none_gen ⟨.bl _, H1, I1, by rw [r1.none_iff]; rfl, q1⟩)
theorem pc_notN {j pos'} (ha : PE X a ta) : PC X .IsNot a (.Constant .none j pos') (tNotN ta) := by
  intro pins s σ H Q I h
  refine thn (ha pins s σ H _ I h) fun v s1 ⟨x, H1, I1, r1, q1⟩ => ?_
  exact Constant_none (isnot_none_gen ⟨.bl _, H1, I1, by rw [r1.none_iff]; rfl, q1⟩)
def tB (t : TE) : TT := fun σ H Q => t σ H fun x H1 => ∃ c, x = .bl c ∧ Q c H1
theorem pt_cmp {op : CmpOp} {t : TE} (h : PC X op a b t) (h1 : behindInMarks op b = false := by first | exact nobehind _ (by decide) (by decide) | rfl) : PT X (.Compare a [op] [b] pos) (tB t) := by
  intro pins s σ H Q I hw
  refine wpAny_isTrue_Compare1 (thn (h pins s σ H _ I hw) fun v s1 h1 => thn h1 fun u s2 h2 => thn h2 fun c s3 ⟨x, H1, I1, r1, q1⟩ => ?_) h1
  obtain ⟨d, rfl, q⟩ := q1
  cases r1
  exact wpAny_truthy_bool ⟨H1, I1, q⟩
theorem pt_val {e : Expr} {t : TE} (h : PE X e t) (he : ∀ whole, isTrue e X.env whole = (do let v ← whole; standAt e.pos; holding [v] (truthy v)) := by intro _; rfl) : PT X e (tB t) := by
  intro pins s σ H Q I hw
  refine isTrue_plain (thn (h pins s σ H _ I hw) fun v s1 ⟨x, H1, I1, r1, q1⟩ => ?_) (he _)
  obtain ⟨d, rfl, q⟩ := q1
  cases r1
  exact wpAny_truthy_bool ⟨H1, I1, q⟩
variable {tA tB' : TT} {rest : List Expr}
def tAnd (t u : TT) : TT := fun σ H Q => t σ H fun c H1 => if c = true then u σ H1 Q else Q false H1
def tOr (t u : TT) : TT := fun σ H Q => t σ H fun c H1 => if c = true then Q true H1 else u σ H1 Q
def tNot (t : TT) : TT := fun σ H Q => t σ H fun c H1 => Q (!c) H1
theorem pw_and1 (ha : PT X a tA) : PW X (.BoolOp .And [a] pos) tA := by
  intro wh pins s σ H Q I h
  refine isTrue_and (thn (ha pins s σ H Q I h) fun c s1 e => ?_)
  cases c with
  | true => exact isTrue_and_nil e
  | false => exact e
theorem pw_or1 (ha : PT X a tA) : PW X (.BoolOp .Or [a] pos) tA := by
  intro wh pins s σ H Q I h
  refine isTrue_or (thn (ha pins s σ H Q I h) fun c s1 e => ?_)
  cases c with
  | false => exact isTrue_or_nil e
  | true => exact e
theorem pw_and (ha : PT X a tA) (hb : PW X (.BoolOp .And (b :: rest) pos) tB') : PW X (.BoolOp .And (a :: b :: rest) pos) (tAnd tA tB') := by
  intro wh pins s σ H Q I h
  refine isTrue_and (thn (ha pins s σ H _ I h) fun c s1 ⟨H1, I1, q1⟩ => ?_)
  cases c with
  | true => exact hb wh pins s1 σ H1 Q I1 q1
  | false => exact ⟨H1, I1, q1⟩
theorem pw_or (ha : PT X a tA) (hb : PW X (.BoolOp .Or (b :: rest) pos) tB') : PW X (.BoolOp .Or (a :: b :: rest) pos) (tOr tA tB') := by
  intro wh pins s σ H Q I h
  refine isTrue_or (thn (ha pins s σ H _ I h) fun c s1 ⟨H1, I1, q1⟩ => ?_)
  cases c with
  | true => exact ⟨H1, I1, q1⟩
  | false => exact hb wh pins s1 σ H1 Q I1 q1
theorem pt_not (ha : PT X a tA) : PT X (.UnaryOp .Not a pos) (tNot tA) := by
  intro pins s σ H Q I h
  exact isTrue_not (ha pins s σ H (fun c H1 => Q (!c) H1) I h)
def tAndV (ta tb : TE) : TE := fun σ H Q => ta σ H fun x H1 => ∃ c, x = .bl c ∧ if c = true then tb σ H1 Q else Q (.bl false) H1
def tOrV (ta tb : TE) : TE := fun σ H Q => ta σ H fun x H1 => ∃ c, x = .bl c ∧ if c = true then Q (.bl true) H1 else tb σ H1 Q
theorem pe_one {op} {t : TE} (h : PE X a t) : PE X (.BoolOp op [a] pos) t := fun pins s σ H Q I hw => BoolOp_one (h pins s σ H Q I hw)
theorem pe_and (ha : PE X a ta) (hb : PE X (.BoolOp .And (b :: rest) pos) tb) : PE X (.BoolOp .And (a :: b :: rest) pos) (tAndV ta tb) := by
  intro pins s σ H Q I h
  refine BoolOp_and (thn (ha pins s σ H _ I h) fun v s1 ⟨x, H1, I1, r1, q1⟩ => ?_)
  obtain ⟨c, rfl, q1⟩ := q1
  cases r1
  refine wpAny_truthy_bool ?_
  cases c with
  | true => exact hb pins s1 σ H1 Q I1 q1
  | false => exact ⟨.bl false, H1, I1, rfl, q1⟩
theorem pe_or (ha : PE X a ta) (hb : PE X (.BoolOp .Or (b :: rest) pos) tb) : PE X (.BoolOp .Or (a :: b :: rest) pos) (tOrV ta tb) := by
  intro pins s σ H Q I h
  refine BoolOp_or (thn (ha pins s σ H _ I h) fun v s1 ⟨x, H1, I1, r1, q1⟩ => ?_)
  obtain ⟨c, rfl, q1⟩ := q1
  cases r1
  refine wpAny_truthy_bool ?_
  cases c with
  | false => exact hb pins s1 σ H1 Q I1 q1
  | true => exact ⟨.bl true, H1, I1, rfl, q1⟩
def tIf (t : TT) (ta tb : TE) : TE := fun σ H Q => t σ H fun c H1 => if c = true then ta σ H1 Q else tb σ H1 Q
theorem pe_ifExp {c : Expr} (hc : PT X c tA) (ha : PE X a ta) (hb : PE X b tb) : PE X (.IfExp c a b pos) (tIf tA ta tb) := by
  intro pins s σ H Q I h
  refine wpAny_IfExp (thn (hc pins s σ H _ I h) fun d s1 ⟨H1, I1, q1⟩ => ?_)
  cases d with
  | true => exact ha pins s1 σ H1 Q I1 q1
  | false => exact hb pins s1 σ H1 Q I1 q1
end
end L2
namespace L2
open PySem PySem.Spec PyProof.Rows
def SqL (K : PySem.W.Frag) (H : Hp) (a : Addr) (xs : List V) : Prop :=
  Rd H a (.lst xs) ∨
    ∃ (o : Obj) (its : Array Value) (n : Nat), K.lookup a = some o ∧ o.cls = .type "list" ∧ o.dict = none ∧ o.data = .seq its n ∧ its.size ≤ sizeLine ∧ Vals xs its.toList
def SqT (K : PySem.W.Frag) (H : Hp) (a : Addr) (xs : List V) : Prop :=
  Rd H a (.tup xs) ∨
    ∃ (o : Obj) (its : Array Value) (n : Nat), K.lookup a = some o ∧ o.cls = .type "tuple" ∧ o.data = .seq its n ∧ its.size ≤ sizeLine ∧ Vals xs its.toList
def absV : Value → Option V
  | .none => some .non
  | .bool b => some (.bl b)
  | .int i _ => some (.int i)
  | .str x _ => some (.str x)
  | .bytes b _ => some (.byt b)
  | .float b _ => some (.flt b)
  | .ref a => some (.ref a)
  | .type n => some (.ty n)
  | _ => none
theorem RelV.abs {x : V} {u : Value} (r : RelV x u) : absV u = some x := by
  cases x with
  | non => cases r; rfl
  | bl _ => cases r; rfl
  | int _ => obtain ⟨t, rfl⟩ := r; rfl
  | str _ => obtain ⟨t, rfl⟩ := r; rfl
  | byt _ => obtain ⟨t, rfl⟩ := r; rfl
  | flt _ => obtain ⟨t, rfl⟩ := r; rfl
  | ref _ => cases r; rfl
  | ty _ => cases r; rfl
theorem RelV.inj {x y : V} {u : Value} (r : RelV x u) (q : RelV y u) : x = y := Option.some.inj (r.abs.symm.trans q.abs)
theorem Vals.inj : ∀ {xs ys : List V} {us : List Value}, Vals xs us → Vals ys us → xs = ys
  | _, _, _, .nil, .nil => rfl
  | _, _, _, .cons r t, .cons r' t' => by rw [r.inj r', Vals.inj t t']
section
variable {X : Cx} {pins : List (Addr × Obj)} {σ : St} {H : Hp} {s : Shared} {a : Addr} {xs ys : List V}
theorem SqL.of {K : PySem.W.Frag} (h : H a = some (.lst xs)) : SqL K H a xs := .inl (.inl h)
theorem SqT.of {K : PySem.W.Frag} (h : H a = some (.tup xs)) : SqT K H a xs := .inl (.inl h)
theorem Inv.list (I : Inv X pins σ H s) (h : SqL X.K H a xs) : ∃ its : List Value, Vals xs its ∧ PlainL s.heap a its.toArray ∧ xs.length ≤ sizeLine := by
  rcases h with h | ⟨o, its, n, hk, hc, hd, hs, hz, r⟩
  · obtain ⟨z, its, n, r, e⟩ := h.ok I.hok
    exact ⟨its, r, ⟨_, n, e, rfl, rfl, rfl⟩, z⟩
  · refine ⟨its.toList, r, ⟨o, n, I.kIn a o hk, hc, hd, by simpa using hs⟩, ?_⟩
    have e := r.length
    simp only [Array.length_toList] at e
    omega
theorem Inv.tuple (I : Inv X pins σ H s) (h : SqT X.K H a xs) : ∃ its : List Value, Vals xs its ∧ IsTup s.heap a its.toArray ∧ xs.length ≤ sizeLine := by
  rcases h with h | ⟨o, its, n, hk, hc, hs, hz, r⟩
  · obtain ⟨z, its, r, p⟩ := h.ok I.hok
    exact ⟨its, r, p, z⟩
  · refine ⟨its.toList, r, ⟨o, I.kIn a o hk, hc, n, by simpa using hs⟩, ?_⟩
    have e := r.length
    simp only [Array.length_toList] at e
    omega
theorem Inv.list_inj (I : Inv X pins σ H s) (h : SqL X.K H a xs) (h' : SqL X.K H a ys) : xs = ys := by
  obtain ⟨its, r, ⟨o, n, e, _, _, d⟩, _⟩ := I.list h
  obtain ⟨its', r', ⟨o', n', e', _, _, d'⟩, _⟩ := I.list h'
  rw [e] at e'; cases e'
  rw [d] at d'
  injection d' with d1 _
  have : its = its' := by simpa using congrArg Array.toList d1
  subst this
  exact r.inj r'
theorem Inv.tuple_inj (I : Inv X pins σ H s) (h : SqT X.K H a xs) (h' : SqT X.K H a ys) : xs = ys := by
  obtain ⟨its, r, ⟨o, e, _, n, d⟩, _⟩ := I.tuple h
  obtain ⟨its', r', ⟨o', e', _, n', d'⟩, _⟩ := I.tuple h'
  rw [e] at e'; cases e'
  rw [d] at d'
  injection d' with d1 _
  have : its = its' := by simpa using congrArg Array.toList d1
  subst this
  exact r.inj r'
end
abbrev Cx.wish (X : Cx) (E : Value → Shared → Prop) : Cx := { X with xe := E }
abbrev Cx.nox (X : Cx) : Cx := X.wish fun _ _ => False
theorem Cx.Ok.wish {X : Cx} (ok : X.Ok) (E : Value → Shared → Prop) : (X.wish E).Ok :=
  ⟨ok.mod, ok.kind, ok.glob, ok.blt, ok.above, ok.inj, ok.has, ok.cab, ok.hd, ok.frames, ok.stk, ok.exf, ok.bs, ok.bsz, ok.noex, ok.exfs, ok.funs, ok.frf⟩
theorem Cx.Ok.unwish {X : Cx} {E : Value → Shared → Prop} (ok : (X.wish E).Ok) : X.Ok :=
  ⟨ok.mod, ok.kind, ok.glob, ok.blt, ok.above, ok.inj, ok.has, ok.cab, ok.hd, ok.frames, ok.stk, ok.exf, ok.bs, ok.bsz, ok.noex, ok.exfs, ok.funs, ok.frf⟩
section
variable {X : Cx} {pins : List (Addr × Obj)} {σ : St} {H : Hp} {s : Shared} {E : Value → Shared → Prop}
theorem Inv.wish (I : Inv X pins σ H s) (E : Value → Shared → Prop) : Inv (X.wish E) pins σ H s := ⟨I.ok.wish E, I.os, I.bare, I.base, I.loc, I.cell, I.free, I.freeC, I.pin, I.hok, I.len⟩
theorem Inv.unwish (I : Inv (X.wish E) pins σ H s) : Inv X pins σ H s := ⟨I.ok.unwish, I.os, I.bare, I.base, I.loc, I.cell, I.free, I.freeC, I.pin, I.hok, I.len⟩
theorem SP.unwish {D : Ends} {f : Flow} {s' : Shared} (h : SP (X.wish E) pins D f s') : SP X pins D f s' := by
  cases f with
  | next => obtain ⟨σ', H', I, q⟩ := h; exact ⟨σ', H', I.unwish, q⟩
  | brk => obtain ⟨σ', H', I, q⟩ := h; exact ⟨σ', H', I.unwish, q⟩
  | cont => obtain ⟨σ', H', I, q⟩ := h; exact ⟨σ', H', I.unwish, q⟩
  | ret u => obtain ⟨v, σ', H', I, r, q⟩ := h; exact ⟨v, σ', H', I.unwish, r, q⟩
theorem PSs.nox {st : List Stmt} {t : TS} (h : PSs X.nox st t) : PSs X st t := fun pins s σ H D I hw =>
  wpAny_mono (h pins s σ H D (I.wish _) hw) (fun _ _ q => q.unwish) fun _ _ z => False.elim z
end
section
variable {X : Cx} {st : Stmt} {rest : List Stmt} {t u : TS} {e : Expr} {te : TE} {pos : Pos}
def tNext : TS := fun D σ H => D.nx σ H
def tSeq (t u : TS) : TS := fun D σ H => t { D with nx := u D } σ H
theorem pss_nil : PSs X [] tNext := fun _ _ σ H _ I h => wpAny_execs_nil ⟨σ, H, I, h⟩
theorem pss_cons (h1 : PS X st t) (h2 : PSs X rest u) : PSs X (st :: rest) (tSeq t u) := by
  intro pins s σ H D I h
  refine wpAny_execs_cons (thn (h1 pins s σ H { D with nx := u D } I h) fun f s1 q => ?_)
  cases f with
  | next =>
    obtain ⟨σ', H', I', q⟩ := q
    exact h2 pins s1 σ' H' D I' q
  | ret v => exact q
  | brk => exact q
  | cont => exact q
theorem pss_one (h1 : PS X st t) : PSs X [st] t := by
  intro pins s σ H D I h
  refine wpAny_execs_cons (thn (h1 pins s σ H D I h) fun f s1 q => ?_)
  cases f with
  | next => exact wpAny_execs_nil q
  | ret v => exact q
  | brk => exact q
  | cont => exact q
def tCont : TS := fun D σ H => D.ct σ H
theorem ps_continue : PS X (.Continue pos) tCont := fun _ _ σ H _ I h => wpAny_Continue ⟨σ, H, I, h⟩
theorem Inv.quiet {pins : List (Addr × Obj)} {σ : St} {H : Hp} {s : Shared} (I : Inv X pins σ H s) : interactive X.env = false := by simp [interactive, I.ok.kind]
def tDrop (te : TE) : TS := fun D σ H => te σ H fun _ H1 => D.nx σ H1
theorem ps_expr (he : PE X e te) (hs : swapsWith e none pos.line X.env = pure false := by rfl) : PS X (.Expr e pos) (tDrop te) := by
  intro pins s σ H D I h
  exact wpAny_Expr_any (thn (he pins s σ H _ I h) fun v s1 ⟨x, H1, I1, r1, q1⟩ => ⟨σ, H1, I1, q1⟩) I.quiet hs
def tRet (te : TE) : TS := fun D σ H => te σ H D.rt
theorem ps_ret (he : PE X e te) : PS X (.Return (some e) pos) (tRet te) := by
  intro pins s σ H D I h
  exact wpAny_Return_some (thn (he pins s σ H _ I h) fun v s1 ⟨x, H1, I1, r1, q1⟩ => ⟨x, σ, H1, I1, r1, q1⟩)
def tIfS (c : TT) (t u : TS) : TS := fun D σ H => c σ H fun b H1 => if b = true then t D σ H1 else u D σ H1
theorem ps_if {c : Expr} {a b : List Stmt} {tc : TT} (hc : PT X c tc) (ha : PSs X a t) (hb : PSs X b u) : PS X (.If c a b pos) (tIfS tc t u) := by
  intro pins s σ H D I h
  refine wpAny_If (thn (hc pins s σ H _ I h) fun d s1 ⟨H1, I1, q1⟩ => ?_)
  cases d with
  | true => exact ha pins s1 σ H1 D I1 q1
  | false => exact hb pins s1 σ H1 D I1 q1
def tNever : TS := fun _ _ _ => False
theorem ps_never : PS X st tNever := fun _ _ _ _ _ _ h => h.elim
end
abbrev TG := V → St → Hp → (St → Hp → Prop) → Prop
abbrev TGs := List V → St → Hp → (St → Hp → Prop) → Prop
def PG (X : Cx) (target : Expr) (t : TG) : Prop :=
  ∀ (pins : List (Addr × Obj)) (s : Shared) (σ : St) (H : Hp) (v : V) (u : Value) (Q : St → Hp → Prop), Inv X pins σ H s → RelV v u → t v σ H Q →
    wpAny (model X.prog X.w) X.A (assign target X.env u) (fun _ s' => ∃ σ' H', Inv X pins σ' H' s' ∧ Q σ' H') X.xe s
def PGs (X : Cx) (ts : List Expr) (t : TGs) : Prop :=
  ∀ (pins : List (Addr × Obj)) (s : Shared) (σ : St) (H : Hp) (vs : List V) (us : List Value) (Q : St → Hp → Prop), Inv X pins σ H s → Vals vs us → t vs σ H Q →
    wpAny (model X.prog X.w) X.A (assignInOrder ((assignEach ts X.env).map (·.2)) us) (fun _ s' => ∃ σ' H', Inv X pins σ' H' s' ∧ Q σ' H') X.xe s
section
variable {X : Cx} {pos : Pos}
def gName (i : Nat) : TG := fun v σ H Q => Q (σ.set i (some v)) H
theorem pg_name {i : Nat} {x : Str} (hN : X.N.Nodup) (hi : X.N[i]? = some x) (hx : Loc X.env.scope x) (hf : X.fn x = true ∨ X.env.scope.names.lookup x = some .local := by first | exact .inl rfl | exact .inr rfl | assumption) : PG X (.Name x pos) (gName i) := by
  intro pins s σ H v u Q I r h
  exact wpAny_assign_Name (store_ok I hN hi hx r (fun s' I' => ⟨_, H, I', h⟩) hf)
def gNil : TGs := fun vs σ H Q => vs = [] ∧ Q σ H
def gCons (t : TG) (u : TGs) : TGs := fun vs σ H Q => ∃ v r, vs = v :: r ∧ t v σ H fun σ' H' => u r σ' H' Q
theorem pgs_nil : PGs X [] gNil := by
  intro pins s σ H vs us Q I r h
  obtain ⟨e, h⟩ := h
  subst e
  cases r
  exact assignInOrder_nil ⟨σ, H, I, h⟩
theorem pgs_cons {e : Expr} {es : List Expr} {t : TG} {u : TGs} (h1 : PG X e t) (h2 : PGs X es u)
    (hs : (assignEach (e :: es) X.env).map (·.2) = assign e X.env :: (assignEach es X.env).map (·.2) := by rfl) : PGs X (e :: es) (gCons t u) := by
  intro pins s σ H vs us Q I r h
  obtain ⟨v, vr, e1, h⟩ := h
  subst e1
  cases r with
  | cons r rr =>
    rw [hs]
    refine assignInOrder_cons (thn (h1 pins s σ H _ _ _ I r h) fun _ s1 ⟨σ1, H1, I1, q1⟩ => ?_)
    exact h2 pins s1 σ1 H1 _ _ Q I1 rr q1
def gTup (K : PySem.W.Frag) (n : Nat) (t : TGs) : TG := fun v σ H Q => ∃ a xs, v = .ref a ∧ SqT K H a xs ∧ xs.length = n ∧ t xs σ H Q
theorem pg_tup {es : List Expr} {k : Nat} {t : TGs} {n : Nat} (hc : X.calm = true) (h : PGs X es t)
    (hn : (assignEach es X.env).length = n := by rfl) (hst : (assignEach es X.env).findIdx? (·.1) = none := by rfl) : PG X (.Tuple es k pos) (gTup X.K n t) := by
  intro pins s σ H v u Q I r hw
  obtain ⟨a, xs, e1, hq, hl, hw⟩ := hw
  subst e1
  cases r
  obtain ⟨its, rv, ht, hz⟩ := I.tuple hq
  refine assign_Tuple_tuple (I.ok.hd hc) ht (by simp [hn, ← hl, rv.length]) hst fun h' hx => ?_
  have I1 : Inv X pins σ H { s with heap := h' } := I.kept (t' := s.toks) fun b o e => hx b o (Nat.ne_of_lt (Heap.lt_size e)) e
  exact h pins _ σ H xs _ Q I1 (by simpa using rv) hw
def tAsg (te : TE) (g : TG) : TS := fun D σ H => te σ H fun x H1 => g x σ H1 D.nx
theorem ps_set {i : Nat} {x : Str} {e : Expr} {te : TE} {pos' : Pos} (hN : X.N.Nodup) (hi : X.N[i]? = some x) (hx : Loc X.env.scope x) (he : PE X e te) (hs : swapsWith e (some (.Name x pos')) pos.line X.env = pure false := by rfl) (hf : X.fn x = true ∨ X.env.scope.names.lookup x = some .local := by first | exact .inl rfl | exact .inr rfl | assumption) :
    PS X (.Assign [.Name x pos'] e pos) (tAsg te (gName i)) := by
  intro pins s σ H D I h
  refine wpAny_Assign_Name (thn (he pins s σ H _ I h) fun v s1 ⟨y, H1, I1, r1, q1⟩ => ?_) hs
  exact store_ok I1 hN hi hx r1 (fun s2 I2 => ⟨_, H1, I2, q1⟩) hf
end
section
variable {X : Cx} {pos : Pos}
def tWhile (c : TT) (tb : TS) : TS := fun D σ H => ∃ W : Nat → St → Hp → Prop, (∃ m, W m σ H) ∧ ∀ m σ H, W m σ H →
  c σ H fun b H1 => if b = true then ∃ N : St → Hp → Prop, (∀ σ' H', N σ' H' → ∃ m', m' < m ∧ W m' σ' H') ∧ tb { D with nx := N, ct := N, bk := D.nx } σ H1 else D.nx σ H1
theorem ps_while {c : Expr} {body : List Stmt} {tc : TT} {tb : TS} (hp : PassesOwn (model X.prog X.w) X.A X.env X.xe) (hc : PT X c tc) (hb : PSs X body tb) : PS X (.While c body [] pos) (tWhile tc tb) := by
  intro pins s σ H D I h
  obtain ⟨W, ⟨m0, w0⟩, turn⟩ := h
  refine wpAny_While (codeAny_whileLoop (fun n s' => ∃ σ' H', Inv X pins σ' H' s' ∧ W n σ' H') ?_ m0 ⟨σ, H, I, w0⟩)
  rintro n s1 ⟨σ1, H1, I1, w1⟩
  refine wpAny_passesOwn hp (thn (hc pins s1 σ1 H1 _ I1 (turn n σ1 H1 w1)) fun b s2 ⟨H2, I2, q2⟩ => ?_)
  cases b with
  | true =>
    obtain ⟨N, hN, q2⟩ := q2
    rw [if_pos rfl]
    refine wpAny_passesOwn hp (thn (hb pins s2 σ1 H2 _ I2 q2) fun f s3 q3 => ?_)
    cases f with
    | next =>
      obtain ⟨σ3, H3, I3, n3⟩ := q3
      obtain ⟨m', hm, w3⟩ := hN σ3 H3 n3
      exact ⟨m', hm, σ3, H3, I3, w3⟩
    | cont =>
      obtain ⟨σ3, H3, I3, n3⟩ := q3
      obtain ⟨m', hm, w3⟩ := hN σ3 H3 n3
      exact ⟨m', hm, σ3, H3, I3, w3⟩
    | brk => exact q3
    | ret v => exact q3
  | false =>
    rw [if_neg Bool.false_ne_true]
    exact wpAny_execs_nil ⟨σ1, H2, I2, q2⟩
end
structure It where
  go : Nat → Hp → Prop
  yld : Nat → Hp → V → Hp → Prop
  stop : Nat → Hp → Prop
def FpOk (X : Cx) (pins : List (Addr × Obj)) (H : Hp) (b : Addr) : Prop :=
  H b = none ∧ b ≠ X.env.locals ∧ b ∉ X.fs ∧ (b ∈ X.ex ∨ X.s_0.heap.objs.size ≤ b) ∧ (∀ x c, X.env.cells.lookup x = some c → c ≠ b) ∧ ∀ p ∈ X.pn ++ pins, p.1 ≠ b
theorem Inv.fpOk {X : Cx} {pins : List (Addr × Obj)} {σ : St} {H H' : Hp} {s : Shared} {b : Addr} (I : Inv X pins σ H s) (hb : s.heap.objs.size ≤ b) (hn : H' b = none) : FpOk X pins H' b := by
  refine ⟨hn, Nat.ne_of_gt (Nat.lt_of_lt_of_le I.lt hb), I.nofs hb, .inr (Nat.le_trans I.sz hb), fun x c e z => ?_, fun p hp z => ?_⟩
  · obtain ⟨v, q⟩ := I.cell x c e
    exact absurd (Nat.lt_of_lt_of_le q.lt (by rw [z]; exact hb)) (Nat.lt_irrefl _)
  · exact absurd (Nat.lt_of_lt_of_le (Heap.lt_size (I.pin p hp).1) (by rw [z]; exact hb)) (Nat.lt_irrefl _)
structure Turn (P : Program) (w : World) (K : PySem.W.Frag) (tg : Expr) (J : It) (fp : List Addr) (it : Addr) (tn : Nat → Heap → Prop) : Prop where
  mem : it ∈ fp
  obj : ∀ i h, tn i h → ∀ b ∈ fp, ∃ o, h.get? b = some o ∧ ∀ v, o.data ≠ .cell v
  keep : ∀ i h h', tn i h → (∀ b ∈ fp, ∀ o, h.get? b = some o → h'.get? b = some o) → tn i h'
  item : ∀ (X : Cx), X.prog = P → X.w = w → X.K = K → X.calm = true → ∀ (i : Nat) (pins : List (Addr × Obj)) (s : Shared) (σ : St) (H : Hp) (E : Value → Shared → Prop), Inv X pins σ H s → (∀ b ∈ fp, FpOk X pins H b) → tn i s.heap → J.go i H →
    wpAny (model P w) X.A (pyNext (.ref it)) (fun r s1 => ∃ u, r = some u ∧
      wpAny (model P w) X.A (letOwnedTupleGo tg (.ref it) u) (fun _ s2 => ∃ x H', Inv X pins σ H' s2 ∧ RelV x u ∧ J.yld i H x H' ∧ tn (i + 1) s2.heap ∧ ∀ b ∈ fp, H' b = none) E s1) E s
  done : ∀ (X : Cx), X.prog = P → X.w = w → X.K = K → X.calm = true → ∀ (i : Nat) (pins : List (Addr × Obj)) (s : Shared) (σ : St) (H : Hp) (E : Value → Shared → Prop), Inv X pins σ H s → (∀ b ∈ fp, FpOk X pins H b) → tn i s.heap → J.stop i H →
    wpAny (model P w) X.A (pyNext (.ref it)) (fun r s1 => r = none ∧ Inv X pins σ H s1) E s
  self : ∀ (A : Around) (i : Nat) (s : Shared) (Q : Value → Shared → Prop) (E : Value → Shared → Prop), tn i s.heap → Q (.ref it) s → wpAny (model P w) A (pyIter (.ref it)) Q E s
abbrev TI := St → Hp → (It → Hp → Prop) → Prop
def PIE (X : Cx) (pins : List (Addr × Obj)) (σ : St) (tg : Expr) (R : It → Hp → Prop) (itv : Value) (s2 : Shared) : Prop :=
  ∃ (it : Addr) (fp : List Addr) (tn : Nat → Heap → Prop) (J : It) (H' : Hp), itv = .ref it ∧ Inv X pins σ H' s2 ∧ Turn X.prog X.w X.K tg J fp it tn ∧ tn 0 s2.heap ∧ (∀ b ∈ fp, FpOk X pins H' b) ∧ R J H'
def PI (X : Cx) (tg iter : Expr) (wi : TI) : Prop :=
  ∀ (pins : List (Addr × Obj)) (s : Shared) (σ : St) (H : Hp) (R : It → Hp → Prop), Inv X pins σ H s → wi σ H R →
    wpAny (model X.prog X.w) X.A (eval iter X.env) (fun v s1 => wpAny (model X.prog X.w) X.A (pyIter v) (PIE X pins σ tg R) X.xe s1) X.xe s
theorem go_of {M : Model} {A : Around} {E : Value → Shared → Prop} {s : Shared} {tg : Expr} {it : Addr} {u : Value} {o : Obj} {n : String} {vs : Array Value} {Q : Unit → Shared → Prop} (ho : s.heap.get? it = some o) (hc : o.cls = .type n) (hd : o.data = .fields vs)
    (hn : ["enumerate", "zip", "dict_itemiterator", "dict_reverseitemiterator", "odict_iterator", "itertools.zip_longest", "itertools.pairwise"].contains n = false) (hQ : Q () s) : wpAny M A (letOwnedTupleGo tg (.ref it) u) Q E s := by
  unfold letOwnedTupleGo
  cases tg <;> first
    | exact wpAny_pure hQ
    | (cases u <;> first
        | exact wpAny_pure hQ
        | (refine wpAny_bind (wpAny_load ho ?_)
           rw [hc, hd]
           show wpAny M A (if (["enumerate", "zip", "dict_itemiterator", "dict_reverseitemiterator", "odict_iterator", "itertools.zip_longest", "itertools.pairwise"].contains n && vs[0]? == some (rawInt _)) = true then _ else _) Q E s
           rw [if_neg (by intro h; rw [hn, Bool.false_and] at h; cases h)]
           exact wpAny_pure hQ))
def Itl (K : PySem.W.Frag) (a : Addr) : It :=
  ⟨fun i H => ∃ xs x, SqL K H a xs ∧ xs[i]? = some x, fun i H x H' => H' = H ∧ ∀ xs, SqL K H a xs → xs[i]? = some x, fun i H => ∃ xs, SqL K H a xs ∧ xs.length ≤ i⟩
def Itt (K : PySem.W.Frag) (a : Addr) : It :=
  ⟨fun i H => ∃ xs x, SqT K H a xs ∧ xs[i]? = some x, fun i H x H' => H' = H ∧ ∀ xs, SqT K H a xs → xs[i]? = some x, fun i H => ∃ xs, SqT K H a xs ∧ xs.length ≤ i⟩
def Itr (lo : Int) (n : Nat) : It := ⟨fun i _ => i < n, fun i H x H' => H' = H ∧ x = .int (lo + i), fun i _ => n ≤ i⟩
theorem turn_list {P : Program} {w : World} {K : PySem.W.Frag} {tg : Expr} (a it : Addr) : Turn P w K tg (Itl K a) [it] it (fun i h => h.IsListIter it a i) where
  mem := by simp
  obj := fun i h st b hb => by
    have e : b = it := by simpa using hb
    subst e
    obtain ⟨o, e, c, d⟩ := st
    exact ⟨o, e, fun v z => by rw [d] at z; cases z⟩
  keep := fun i h h' st k => st.at fun o e => k it (by simp) o e
  item := by
    intro X hP hw hK hc i pins s σ H E I hf st hg
    subst hP hw hK
    obtain ⟨xs, x, hq, hx⟩ := hg
    obtain ⟨its, rv, p, hz⟩ := I.list hq
    obtain ⟨u, hu, ru⟩ := rv.get hx
    obtain ⟨f0, f1, f2, f3, f4, f5⟩ := hf it (by simp)
    refine wpAny_pyNext_list_item st p.isList (x := u) (by simpa using hu) fun h' st' sb => ?_
    have I1 : Inv X pins σ H { s with heap := h' } := I.turned (t' := s.toks) (fun b o hb e => (sb.2 b hb).trans e) f0 f1 f3 f4 f5
    obtain ⟨o, e, c, d⟩ := id st'
    exact ⟨u, rfl, go_of (s := { s with heap := h' }) e c d (by decide) ⟨x, H, I1, ru, ⟨rfl, fun ys hy => by rw [I.list_inj hy hq]; exact hx⟩, st', fun b hb => (hf b hb).1⟩⟩
  done := by
    intro X hP hw hK hc i pins s σ H E I hf st hg
    subst hP hw hK
    obtain ⟨xs, hq, hx⟩ := hg
    obtain ⟨its, rv, p, hz⟩ := I.list hq
    obtain ⟨f0, f1, f2, f3, f4, f5⟩ := hf it (by simp)
    have hl := rv.length
    exact wpAny_pyNext_list_end (I.ok.hd hc) st p.isList (by simp; omega) fun h' eb => ⟨rfl, I.turned (t' := s.toks) (fun b o hb e => eb b o hb e) f0 f1 f3 f4 f5⟩
  self := fun _ _ _ _ _ st h => wpAny_pyIter_listiter st h
theorem turn_tuple {P : Program} {w : World} {K : PySem.W.Frag} {tg : Expr} (a it : Addr) : Turn P w K tg (Itt K a) [it] it (fun i h => h.IsTupleIter it a i) where
  mem := by simp
  obj := fun i h st b hb => by
    have e : b = it := by simpa using hb
    subst e
    obtain ⟨o, e, c, d⟩ := st
    exact ⟨o, e, fun v z => by rw [d] at z; cases z⟩
  keep := fun i h h' st k => st.at fun o e => k it (by simp) o e
  item := by
    intro X hP hw hK hc i pins s σ H E I hf st hg
    subst hP hw hK
    obtain ⟨xs, x, hq, hx⟩ := hg
    obtain ⟨its, rv, p, hz⟩ := I.tuple hq
    obtain ⟨u, hu, ru⟩ := rv.get hx
    obtain ⟨f0, f1, f2, f3, f4, f5⟩ := hf it (by simp)
    refine wpAny_pyNext_tuple_item st (show s.heap.IsTuple a its.toArray from p) (x := u) (by simpa using hu) fun h' st' sb => ?_
    have I1 : Inv X pins σ H { s with heap := h' } := I.turned (t' := s.toks) (fun b o hb e => (sb.2 b hb).trans e) f0 f1 f3 f4 f5
    obtain ⟨o, e, c, d⟩ := id st'
    exact ⟨u, rfl, go_of (s := { s with heap := h' }) e c d (by decide) ⟨x, H, I1, ru, ⟨rfl, fun ys hy => by rw [I.tuple_inj hy hq]; exact hx⟩, st', fun b hb => (hf b hb).1⟩⟩
  done := by
    intro X hP hw hK hc i pins s σ H E I hf st hg
    subst hP hw hK
    obtain ⟨xs, hq, hx⟩ := hg
    obtain ⟨its, rv, p, hz⟩ := I.tuple hq
    obtain ⟨f0, f1, f2, f3, f4, f5⟩ := hf it (by simp)
    have hl := rv.length
    exact wpAny_pyNext_tuple_end (I.ok.hd hc) st (show s.heap.IsTuple a its.toArray from p) (by simp; omega) fun h' eb => ⟨rfl, I.turned (t' := s.toks) (fun b o hb e => eb b o hb e) f0 f1 f3 f4 f5⟩
  self := fun _ _ _ _ _ st h => wpAny_pyIter_tupleiter st h
theorem turn_range {P : Program} {w : World} {K : PySem.W.Frag} {tg : Expr} (it : Addr) (lo : Int) (n : Nat) : Turn P w K tg (Itr lo n) [it] it (fun i h => IsRangeIter h it (lo + (i : Nat) * 1) ((n : Int) - (i : Nat)) 1) where
  mem := by simp
  obj := fun i h st b hb => by
    have e : b = it := by simpa using hb
    subst e
    exact ⟨_, st, fun v z => by
      have z' : Data.fields _ = Data.cell v := z
      cases z'⟩
  keep := fun i h h' st k => k it (by simp) _ st
  item := by
    intro X hP hw hK hc i pins s σ H E I hf st hg
    subst hP hw hK
    obtain ⟨f0, f1, f2, f3, f4, f5⟩ := hf it (by simp)
    have W := Walks.range (prog := X.prog) (w := X.w) (I.ok.hd hc) it lo 1 n
    refine W.item i s _ _ hg st fun v h' tk hv st' kk => ?_
    obtain ⟨t, rfl⟩ := hv
    have I1 : Inv X pins σ H { s with heap := h', toks := tk } := I.turned (fun b o hb e => kk b o (by simpa using hb) e) f0 f1 f3 f4 f5
    refine ⟨_, rfl, go_of (s := { s with heap := h', toks := tk }) (n := "range_iterator") st' rfl rfl (by decide) ⟨.int (lo + i), H, I1, ⟨t, ?_⟩, ⟨rfl, rfl⟩, st', fun b hb => (hf b hb).1⟩⟩
    rw [Int.mul_one]
  done := by
    intro X hP hw hK hc i pins s σ H E I hf st hg
    subst hP hw hK
    obtain ⟨f0, f1, f2, f3, f4, f5⟩ := hf it (by simp)
    exact wpAny_pyNext_range_end (I.ok.hd hc) st (by have : n ≤ i := hg; omega) fun h' eb => ⟨rfl, I.turned (t' := s.toks) (fun b o hb e => eb b o hb e) f0 f1 f3 f4 f5⟩
  self := fun _ _ _ _ _ st h => wpAny_pyIter_rangeiter st h
end L2
namespace L2
open PySem PySem.Spec PyProof.Rows
section
variable {X : Cx} {tg : Expr}
def iList (K : PySem.W.Frag) (tl : TE) : TI := fun σ H R => tl σ H fun x H1 => ∃ a, x = .ref a ∧ (∃ xs, SqL K H1 a xs) ∧ R (Itl K a) H1
def iTup (K : PySem.W.Frag) (tl : TE) : TI := fun σ H R => tl σ H fun x H1 => ∃ a, x = .ref a ∧ (∃ xs, SqT K H1 a xs) ∧ R (Itt K a) H1
theorem pi_list {l : Expr} {tl : TE} (hl : PE X l tl) : PI X tg l (iList X.K tl) := by
  intro pins s σ H R I h
  refine thn (hl pins s σ H _ I h) fun v s1 ⟨x, H1, I1, r1, q1⟩ => ?_
  obtain ⟨a, e, ⟨xs, hq⟩, q⟩ := q1
  subst e
  cases r1
  obtain ⟨its, rv, p, hz⟩ := I1.list hq
  refine wpAny_pyIter_list p.isList ?_
  refine ⟨s1.heap.objs.size, [s1.heap.objs.size], _, _, H1, rfl, I1.kept (t' := s1.toks) fun b o e => Heap.get?_push_of_some _ e, turn_list a _, ⟨_, Heap.get?_push_size _ rfl, rfl, rfl⟩, fun b hb => ?_, q⟩
  have e : b = s1.heap.objs.size := by simpa using hb
  subst e
  exact I1.fpOk (Nat.le_refl _) (I1.hok.fresh (Nat.le_refl _))
theorem pi_tup {l : Expr} {tl : TE} (hl : PE X l tl) : PI X tg l (iTup X.K tl) := by
  intro pins s σ H R I h
  refine thn (hl pins s σ H _ I h) fun v s1 ⟨x, H1, I1, r1, q1⟩ => ?_
  obtain ⟨a, e, ⟨xs, hq⟩, q⟩ := q1
  subst e
  cases r1
  obtain ⟨its, rv, p, hz⟩ := I1.tuple hq
  refine wpAny_pyIter_tuple (show s1.heap.IsTuple a its.toArray from p) ?_
  refine ⟨s1.heap.objs.size, [s1.heap.objs.size], _, _, H1, rfl, I1.kept (t' := s1.toks) fun b o e => Heap.get?_push_of_some _ e, turn_tuple a _, ⟨_, Heap.get?_push_size _ rfl, rfl, rfl⟩, fun b hb => ?_, q⟩
  have e : b = s1.heap.objs.size := by simpa using hb
  subst e
  exact I1.fpOk (Nat.le_refl _) (I1.hok.fresh (Nat.le_refl _))
theorem range_it {pins : List (Addr × Obj)} {σ : St} {H : Hp} {s : Shared} {R : It → Hp → Prop} {E : Value → Shared → Prop} {lo hi : Int} {t u v : Tok} {tk : Nat} (I : Inv X pins σ H s) (h1 : -(2 ^ 62) ≤ lo) (h2 : lo < 2 ^ 62) (h3 : -(2 ^ 62) ≤ hi) (h4 : hi < 2 ^ 62)
    (q : R (Itr lo (hi - lo).toNat) H) : wpAny (model X.prog X.w) X.A (pyIter (.ref s.heap.objs.size)) (PIE X pins σ tg R) E { s with heap := s.heap.push { cls := .type "range", data := .fields #[.int lo t, .int hi u, .int 1 v] }, toks := tk } := by
  refine wpAny_pyIter_range (IsRange.new ..) (small_one h1 h2 h3 h4) ?_
  have I1 : Inv X pins σ H { s with heap := s.heap.push { cls := .type "range", data := .fields #[.int lo t, .int hi u, .int 1 v] }, toks := tk } := I.kept fun b o e => Heap.get?_push_of_some _ e
  refine ⟨(s.heap.push { cls := .type "range", data := .fields #[.int lo t, .int hi u, .int 1 v] }).objs.size, [(s.heap.push { cls := .type "range", data := .fields #[.int lo t, .int hi u, .int 1 v] }).objs.size], _, _, H, rfl,
    I1.kept (t' := tk) fun b o e => Heap.get?_push_of_some _ e, turn_range _ lo (hi - lo).toNat, ?_, fun b hb => ?_, q⟩
  · have e1 : lo + ((0 : Nat) : Int) * 1 = lo := by simp
    have e2 : (((hi - lo).toNat : Nat) : Int) - ((0 : Nat) : Int) = Builtin.Range.rangeSize lo hi 1 := by rw [rangeSize_one]; split <;> omega
    show IsRangeIter _ _ (lo + ((0 : Nat) : Int) * 1) ((((hi - lo).toNat : Nat) : Int) - ((0 : Nat) : Int)) 1
    rw [e1, e2]
    exact Heap.get?_push_size _ rfl
  · have e : b = (s.heap.push { cls := .type "range", data := .fields #[.int lo t, .int hi u, .int 1 v] }).objs.size := by simpa using hb
    subst e
    exact I1.fpOk (Nat.le_refl _) (I1.hok.fresh (Nat.le_refl _))
def iRng1 (ta : TA) : TI := fun σ H R => ta σ H fun vs H1 => ∃ j : Int, vs = [.int j] ∧ -(2 ^ 62) ≤ j ∧ j < 2 ^ 62 ∧ R (Itr 0 j.toNat) H1
theorem pi_range1 {a : Expr} {ta : TA} {p pos : Pos} (hg : Gl X "range") (hm : X.mg "range" = none) (ha : PA X [a] ta) (hs : starEach [a] X.env = [(false, eval a X.env)] := by rfl) : PI X tg (.Call (.Name "range" p) [a] [] pos) (iRng1 ta) := by
  intro pins s σ H R I h
  refine Call_ (ld_blt I hg hm boot_range (PyProof.Rows.callWith_type1 (thn (ha pos pins s σ H _ I h) fun us s1 ⟨vs, H1, I1, r1, q1⟩ => ?_) hs rfl))
  obtain ⟨j, e, q1, q2, q⟩ := q1
  subst e
  cases r1 with
  | cons r rr =>
    cases rr
    obtain ⟨t, rfl⟩ := r
    exact call_range_1 (range_it I1 (by omega) (by omega) q1 q2 (by simpa using q))
def tFor (wi : TI) (g : TG) (tb : TS) : TS := fun D σ H => wi σ H fun J H1 => ∃ W : Nat → Nat → St → Hp → Prop, (∃ m, W 0 m σ H1) ∧ ∀ i m σ H, W i m σ H →
  (J.stop i H ∧ D.nx σ H) ∨ (J.go i H ∧ ∃ N : St → Hp → Prop, (∀ σ' H', N σ' H' → ∃ m', m' < m ∧ W (i + 1) m' σ' H') ∧ ∀ x H', J.yld i H x H' → g x σ H' fun σ2 H2 => tb { D with nx := N, ct := N, bk := D.nx } σ2 H2)
def pinsAt (fp : List Addr) (h : Heap) : List (Addr × Obj) := fp.filterMap fun b => (h.get? b).map fun o => (b, o)
theorem mem_pinsAt {fp : List Addr} {h : Heap} {b : Addr} {o : Obj} (hb : b ∈ fp) (e : h.get? b = some o) : (b, o) ∈ pinsAt fp h := List.mem_filterMap.mpr ⟨b, hb, by rw [e]; rfl⟩
theorem of_pinsAt {fp : List Addr} {h : Heap} {p : Addr × Obj} (hp : p ∈ pinsAt fp h) : p.1 ∈ fp ∧ h.get? p.1 = some p.2 := by
  obtain ⟨b, hb, e⟩ := List.mem_filterMap.mp hp
  cases q : h.get? b with
  | none => rw [q] at e; cases e
  | some o =>
    rw [q] at e
    have e' : (b, o) = p := Option.some.inj e
    subst e'
    exact ⟨hb, q⟩
theorem Inv.pinned {pins : List (Addr × Obj)} {σ : St} {H : Hp} {s : Shared} {fp : List Addr} (I : Inv X pins σ H s) (hf : ∀ b ∈ fp, FpOk X pins H b) (ho : ∀ b ∈ fp, ∃ o, s.heap.get? b = some o ∧ ∀ v, o.data ≠ .cell v) : Inv X (pins ++ pinsAt fp s.heap) σ H s :=
  I.pins_of fun p hp => (List.mem_append.mp hp).elim (fun z => I.pin p (List.mem_append_right _ z)) fun z => by
    obtain ⟨hb, e⟩ := of_pinsAt z
    obtain ⟨f0, f1, f2, _⟩ := hf p.1 hb
    obtain ⟨o, e', d⟩ := ho p.1 hb
    rw [e] at e'; cases e'
    exact ⟨e, f0, f1, f2, d⟩
theorem Inv.unpinned {pins pl : List (Addr × Obj)} {σ : St} {H : Hp} {s : Shared} (I : Inv X (pins ++ pl) σ H s) : Inv X pins σ H s := I.pins_of fun p hp => I.pin p (List.mem_append_right _ (List.mem_append_left _ hp))
theorem ps_for {iter : Expr} {body : List Stmt} {wi : TI} {g : TG} {tb : TS} {pos : Pos} (hp : PassesOwn (model X.prog X.w) X.A X.env X.xe) (hc : X.calm = true) (hi : PI X tg iter wi) (hg : PG X tg g) (hb : PSs X body tb)
    (hs : ∀ x, foldedSetIterable iter X.env x = pure x := by intro _; rfl) : PS X (.For tg iter body [] pos) (tFor wi g tb) := by
  intro pins s σ H D I h
  refine wpAny_For (thn (hi pins s σ H _ I h) fun v s1 h1 => thn h1 fun itv s2 h2 => ?_) hs
  obtain ⟨it, fp, tn, J, H2, e, I2, T, st2, f2, W, ⟨m0, w0⟩, turn⟩ := h2
  subst e
  have stat : ∀ {H' : Hp}, (∀ b ∈ fp, H' b = none) → ∀ b ∈ fp, FpOk X pins H' b := fun hn b hb => ⟨hn b hb, (f2 b hb).2⟩
  refine codeAny_forLoop_any (fun n s' => ∃ i σ' H', Inv X pins σ' H' s' ∧ tn i s'.heap ∧ (∀ b ∈ fp, H' b = none) ∧ W i n σ' H') ?_ m0 ⟨0, σ, H2, I2, st2, fun b hb => (f2 b hb).1, w0⟩
  rintro n s3 ⟨i, σ3, H3, I3, st3, fr3, w3⟩
  rcases turn i n σ3 H3 w3 with ⟨stop, qn⟩ | ⟨go, N, hN, step⟩
  · refine wpAny_passesOwn hp (thn (T.done X rfl rfl rfl hc i pins s3 σ3 H3 X.xe I3 (stat fr3) st3 stop) fun r s4 ⟨hr, I4⟩ => ?_)
    subst hr
    exact wpAny_execs_nil ⟨σ3, H3, I4, qn⟩
  · refine wpAny_passesOwn hp (thn (T.item X rfl rfl rfl hc i pins s3 σ3 H3 X.xe I3 (stat fr3) st3 go) fun r s4 ⟨u, hr, h4⟩ => ?_)
    subst hr
    refine wpAny_passesOwn hp (thn h4 fun _ s5 ⟨x, H5, I5, r5, y5, st5, fr5⟩ => ?_)
    have I5' := I5.pinned (stat fr5) (T.obj _ _ st5)
    refine wpAny_passesOwn hp (thn (hg _ s5 σ3 H5 x u _ I5' r5 (step x H5 y5)) fun _ s6 ⟨σ6, H6, I6, q6⟩ => ?_)
    refine wpAny_passesOwn hp (thn (hb _ s6 σ6 H6 _ I6 q6) fun f s7 q7 => ?_)
    have again : ∀ {σ7 : St} {H7 : Hp}, Inv X (pins ++ pinsAt fp s5.heap) σ7 H7 s7 → N σ7 H7 → ∃ m, m < n ∧ ∃ i σ' H', Inv X pins σ' H' s7 ∧ tn i s7.heap ∧ (∀ b ∈ fp, H' b = none) ∧ W i m σ' H' := fun {σ7 H7} I7 n7 => by
      obtain ⟨m', hm, w7⟩ := hN σ7 H7 n7
      refine ⟨m', hm, i + 1, σ7, H7, I7.unpinned, T.keep _ _ _ st5 fun b hb o e => (I7.pin (b, o) (List.mem_append_right _ (List.mem_append_right _ (mem_pinsAt hb e)))).1, fun b hb => ?_, w7⟩
      obtain ⟨o, e, d⟩ := T.obj _ _ st5 b hb
      exact (I7.pin (b, o) (List.mem_append_right _ (List.mem_append_right _ (mem_pinsAt hb e)))).2.1
    cases f with
    | next => obtain ⟨σ7, H7, I7, n7⟩ := q7; exact again I7 n7
    | cont => obtain ⟨σ7, H7, I7, n7⟩ := q7; exact again I7 n7
    | brk => obtain ⟨σ7, H7, I7, q7⟩ := q7; exact ⟨σ7, H7, I7.unpinned, q7⟩
    | ret v => obtain ⟨x7, σ7, H7, I7, r7, q7⟩ := q7; exact ⟨x7, σ7, H7, I7.unpinned, r7, q7⟩
end
theorem for_list {K : PySem.W.Frag} {a : Addr} {xs : List V} {g : TG} {tb : TS} {D : Ends} {σ : St} {H : Hp} (Pv : Nat → St → Hp → Prop) (h0 : Pv 0 σ H) (hl : ∀ i σ H, i ≤ xs.length → Pv i σ H → SqL K H a xs)
    (hs : ∀ i x σ H, xs[i]? = some x → Pv i σ H → g x σ H fun σ2 H2 => tb { D with nx := Pv (i + 1), ct := Pv (i + 1), bk := D.nx } σ2 H2) (hd : ∀ σ H, Pv xs.length σ H → D.nx σ H) :
    ∃ W : Nat → Nat → St → Hp → Prop, (∃ m, W 0 m σ H) ∧ ∀ i m σ H, W i m σ H →
      ((Itl K a).stop i H ∧ D.nx σ H) ∨ ((Itl K a).go i H ∧ ∃ N : St → Hp → Prop, (∀ σ' H', N σ' H' → ∃ m', m' < m ∧ W (i + 1) m' σ' H') ∧ ∀ x H', (Itl K a).yld i H x H' → g x σ H' fun σ2 H2 => tb { D with nx := N, ct := N, bk := D.nx } σ2 H2) := by
  refine ⟨fun i m σ H => m = xs.length - i ∧ i ≤ xs.length ∧ Pv i σ H, ⟨xs.length, by simp, Nat.zero_le _, h0⟩, ?_⟩
  rintro i m σ H ⟨rfl, hi, p⟩
  have q := hl i σ H hi p
  by_cases hlt : i < xs.length
  · refine .inr ⟨⟨xs, xs[i], q, by simp [hlt]⟩, Pv (i + 1), fun σ' H' p' => ⟨xs.length - (i + 1), by omega, rfl, hlt, p'⟩, fun x H' y => ?_⟩
    obtain ⟨e, y⟩ := y
    subst e
    exact hs i x σ _ (y xs q) p
  · have e : i = xs.length := by omega
    subst e
    exact .inl ⟨⟨xs, q, Nat.le_refl _⟩, hd σ H p⟩
theorem for_range {lo : Int} {n : Nat} {g : TG} {tb : TS} {D : Ends} {σ : St} {H : Hp} (Pv : Nat → St → Hp → Prop) (h0 : Pv 0 σ H)
    (hs : ∀ i σ H, i < n → Pv i σ H → g (.int (lo + i)) σ H fun σ2 H2 => tb { D with nx := Pv (i + 1), ct := Pv (i + 1), bk := D.nx } σ2 H2) (hd : ∀ σ H, Pv n σ H → D.nx σ H) :
    ∃ W : Nat → Nat → St → Hp → Prop, (∃ m, W 0 m σ H) ∧ ∀ i m σ H, W i m σ H →
      ((Itr lo n).stop i H ∧ D.nx σ H) ∨ ((Itr lo n).go i H ∧ ∃ N : St → Hp → Prop, (∀ σ' H', N σ' H' → ∃ m', m' < m ∧ W (i + 1) m' σ' H') ∧ ∀ x H', (Itr lo n).yld i H x H' → g x σ H' fun σ2 H2 => tb { D with nx := N, ct := N, bk := D.nx } σ2 H2) := by
  refine ⟨fun i m σ H => m = n - i ∧ i ≤ n ∧ Pv i σ H, ⟨n, by simp, Nat.zero_le _, h0⟩, ?_⟩
  rintro i m σ H ⟨rfl, hi, p⟩
  by_cases hlt : i < n
  · refine .inr ⟨hlt, Pv (i + 1), fun σ' H' p' => ⟨n - (i + 1), by omega, rfl, hlt, p'⟩, fun x H' y => ?_⟩
    obtain ⟨e, y⟩ := y
    subst e y
    exact hs i σ _ hlt p
  · have e : i = n := by omega
    subst e
    exact .inl ⟨Nat.le_refl _, hd σ H p⟩
end L2
namespace L2
open PySem PySem.Spec PyProof.Rows
abbrev R2 := V → V → Hp → VK → Prop
def OpR (X : Cx) (f : Value → Value → Sem Value) (r : R2) : Prop :=
  ∀ (pins : List (Addr × Obj)) (s : Shared) (σ : St) (H : Hp) (x y : V) (v u : Value) (Q : VK), Inv X pins σ H s → RelV x v → RelV y u → r x y H Q →
    wpAny (model X.prog X.w) X.A (f v u) (EP X pins σ Q) X.xe s
def CallR (X : Cx) (f : Value) (r : List V → Hp → VK → Prop) : Prop :=
  ∀ (pins : List (Addr × Obj)) (s : Shared) (σ : St) (H : Hp) (xs : List V) (us : List Value) (Q : VK), Inv X pins σ H s → Vals xs us → r xs H Q →
    wpAny (model X.prog X.w) X.A (call f us) (EP X pins σ Q) X.xe s
def TruR (X : Cx) (r : V → Hp → (Bool → Hp → Prop) → Prop) : Prop :=
  ∀ (pins : List (Addr × Obj)) (s : Shared) (σ : St) (H : Hp) (x : V) (v : Value) (Q : Bool → Hp → Prop), Inv X pins σ H s → RelV x v → r x H Q →
    wpAny (model X.prog X.w) X.A (truthy v) (TP X pins σ Q) X.xe s
def tOp (r : R2) (ta tb : TE) : TE := fun σ H Q => ta σ H fun x H1 => tb σ H1 fun y H2 => r x y H2 Q
def rI (C : Int → Int → Prop) (g : Int → Int → V) : R2 := fun x y H Q => ∃ i j, x = .int i ∧ y = .int j ∧ C i j ∧ Q (g i j) H
def rI0 (g : Int → Int → V) : R2 := fun x y H Q => ∃ i j, x = .int i ∧ y = .int j ∧ Q (g i j) H
section
variable {X : Cx} {a b c : Expr} {ta tb tc : TE} {pos : Pos}
theorem binT (ha : PE X a ta) (hb : PE X b tb) {pins : List (Addr × Obj)} {s : Shared} {σ : St} {H : Hp} {R : V → V → Hp → Prop} (I : Inv X pins σ H s)
    (h : ta σ H fun x H1 => tb σ H1 fun y H2 => R x y H2) {Q : Value → Shared → Prop} {f : Value → Value → Sem Value}
    (hf : ∀ v u s2 x y H2, Inv X pins σ H2 s2 → RelV x v → RelV y u → R x y H2 → wpAny (model X.prog X.w) X.A (f v u) Q X.xe s2) :
    wpAny (model X.prog X.w) X.A (eval a X.env) (fun v s₁ => wpAny (model X.prog X.w) X.A (eval b X.env) (fun u s₂ => wpAny (model X.prog X.w) X.A (f v u) Q X.xe s₂) X.xe s₁) X.xe s := by
  refine thn (ha pins s σ H _ I h) fun v s1 ⟨x, H1, I1, r1, q1⟩ => ?_
  refine thn (hb pins s1 σ H1 _ I1 q1) fun u s2 ⟨y, H2, I2, r2, q2⟩ => ?_
  exact hf v u s2 x y H2 I2 r1 r2 q2
theorem pe_op {op : Operator} {r : R2} (ho : OpR X (binaryOp op) r) (ha : PE X a ta) (hb : PE X b tb) : PE X (.BinOp a op b pos) (tOp r ta tb) := by
  intro pins s σ H Q I h
  exact wpAny_BinOp (binT ha hb I h fun v u s2 x y H2 I2 rx ry q => ho pins s2 σ H2 x y v u Q I2 rx ry q)
theorem opI {f : Value → Value → Sem Value} {C : Int → Int → Prop} {g : Int → Int → Int}
    (rule : ∀ (i j : Int) (t u : Tok) (s : Shared) (Q : Value → Shared → Prop) (E : Value → Shared → Prop), C i j → Q (.int (g i j) s.toks) { s with toks := s.toks + 1 } → wpAny (model X.prog X.w) X.A (f (.int i t) (.int j u)) Q E s) :
    OpR X f (rI C fun i j => .int (g i j)) := by
  intro pins s σ H x y v u Q I rx ry h
  obtain ⟨i, j, rfl, rfl, hc, q⟩ := h
  obtain ⟨t, rfl⟩ := rx
  obtain ⟨t', rfl⟩ := ry
  exact rule i j t t' s _ _ hc ⟨.int (g i j), H, I.tok _, ⟨_, rfl⟩, q⟩
theorem opI0 {f : Value → Value → Sem Value} {g : Int → Int → Int}
    (rule : ∀ (i j : Int) (t u : Tok) (s : Shared) (Q : Value → Shared → Prop) (E : Value → Shared → Prop), Q (.int (g i j) s.toks) { s with toks := s.toks + 1 } → wpAny (model X.prog X.w) X.A (f (.int i t) (.int j u)) Q E s) :
    OpR X f (rI0 fun i j => .int (g i j)) := by
  intro pins s σ H x y v u Q I rx ry h
  obtain ⟨i, j, rfl, rfl, q⟩ := h
  obtain ⟨t, rfl⟩ := rx
  obtain ⟨t', rfl⟩ := ry
  exact rule i j t t' s _ _ ⟨.int (g i j), H, I.tok _, ⟨_, rfl⟩, q⟩
theorem opB0 {f : Value → Value → Sem Value} {g : Int → Int → Bool}
    (rule : ∀ (i j : Int) (t u : Tok) (s : Shared) (Q : Value → Shared → Prop) (E : Value → Shared → Prop), Q (.bool (g i j)) s → wpAny (model X.prog X.w) X.A (f (.int i t) (.int j u)) Q E s) :
    OpR X f (rI0 fun i j => .bl (g i j)) := by
  intro pins s σ H x y v u Q I rx ry h
  obtain ⟨i, j, rfl, rfl, q⟩ := h
  obtain ⟨t, rfl⟩ := rx
  obtain ⟨t', rfl⟩ := ry
  exact rule i j t t' s _ _ ⟨.bl (g i j), H, I, rfl, q⟩
def CPow (i j : Int) : Prop := 0 ≤ j ∧ j ≤ 1000000 ∧ i.natAbs < 2 ^ 64
def CMul (i j : Int) : Prop := (-(2 ^ 64) < i ∧ i < 2 ^ 64) ∨ (-(2 ^ 64) < j ∧ j < 2 ^ 64)
theorem CMul.ok {i j : Int} (h : CMul i j) : IntMulOk i j := by
  rcases h with ⟨h1, h2⟩ | ⟨h1, h2⟩
  · exact .of_left (intBits_le_64 h1 h2)
  · exact .of_right (intBits_le_64 h1 h2)
theorem two_pow_nn (k : Nat) : (0 : Int) ≤ 2 ^ k := by
  rw [two_pow_cast]
  exact Int.natCast_nonneg _
theorem op_add : OpR X (binaryOp .Add) (rI0 fun i j => .int (i + j)) := opI0 fun _ _ _ _ _ _ _ q => add_int q
theorem op_mul : OpR X (binaryOp .Mult) (rI CMul fun i j => .int (i * j)) := opI fun _ _ _ _ _ _ _ hc q => mul_int q hc.ok
theorem op_shl : OpR X (binaryOp .LShift) (rI CPow fun i j => .int (i * 2 ^ j.toNat)) := opI fun _ _ _ _ _ _ _ hc q => lshift_int_small hc.1 hc.2.1 hc.2.2 q
theorem op_shr : OpR X (binaryOp .RShift) (rI (fun _ j => 0 ≤ j) fun i j => .int (i / 2 ^ j.toNat)) := opI fun i j _ _ _ _ _ hc q =>
  rshift_int hc (by rw [Int.fdiv_eq_ediv_of_nonneg i (two_pow_nn _)]; exact q)
theorem op_and : OpR X (binaryOp .BitAnd) (rI0 fun i j => .int (Builtin.bitAnd i j)) := opI0 fun _ _ _ _ _ _ _ q => and_int q
end
def scal : V → V → Bool
  | .non, .non => true | .non, .int _ => true | .int _, .non => true | .non, .bl _ => true | .bl _, .non => true | .non, .str _ => true | .str _, .non => true
  | .int _, .int _ => true | .bl _, .bl _ => true | .str _, .str _ => true | .byt _, .byt _ => true
  | .int _, .str _ => true | .str _, .int _ => true | .bl _, .str _ => true | .str _, .bl _ => true
  | _, _ => false
def rEq : R2 := fun x y H Q => scal x y = true ∧ Q (.bl (decide (x = y))) H
def rNe : R2 := fun x y H Q => scal x y = true ∧ Q (.bl (!decide (x = y))) H
theorem dec_int {i j : Int} : decide (V.int i = V.int j) = (i == j) := by
  rw [Bool.eq_iff_iff]
  simp
theorem dec_bl {i j : Bool} : decide (V.bl i = V.bl j) = (i == j) := by
  rw [Bool.eq_iff_iff]
  simp
theorem dec_str {i j : Str} : decide (V.str i = V.str j) = (i == j) := by
  rw [Bool.eq_iff_iff]
  simp
theorem dec_byt {i j : Array UInt8} : decide (V.byt i = V.byt j) = (i.toList == j.toList) := by
  rw [Bool.eq_iff_iff]
  cases i
  cases j
  simp
section
variable {X : Cx} {a b c : Expr} {ta tb tc : TE} {pos : Pos}
theorem fin_bl {pins : List (Addr × Obj)} {σ : St} {H : Hp} {s : Shared} {Q : VK} {k k' : Bool} (I : Inv X pins σ H s) (q : Q (.bl k) H) (e : k = k') : EP X pins σ Q (.bool k') s := by
  subst e
  exact ⟨.bl k, H, I, rfl, q⟩
theorem op_eq : OpR X (compareOp .Eq) rEq := by
  intro pins s σ H x y v u Q I rx ry h
  obtain ⟨hs, q⟩ := h
  cases x with
  | non =>
    cases rx
    cases y with
    | non => cases ry; exact PySem.EqNone.eq_none_none (fin_bl I q (by simp))
    | bl j => cases ry; exact PySem.EqNone.eq_none_bool (fin_bl I q (by simp))
    | int j => obtain ⟨t', rfl⟩ := ry; exact PySem.EqNone.eq_none_int (fin_bl I q (by simp))
    | str j => obtain ⟨t', rfl⟩ := ry; exact PySem.EqNone.eq_none_str (fin_bl I q (by simp))
    | _ => exact absurd (show false = true from hs) Bool.false_ne_true
  | bl i =>
    cases rx
    cases y with
    | non => cases ry; exact PySem.EqNone.eq_bool_none (fin_bl I q (by simp))
    | bl j => cases ry; exact eq_bool (fin_bl I q dec_bl)
    | str j => obtain ⟨t', rfl⟩ := ry; exact PySem.EqMixed.eq_bool_str (fin_bl I q (by simp))
    | _ => exact absurd (show false = true from hs) Bool.false_ne_true
  | int i =>
    obtain ⟨t, rfl⟩ := rx
    cases y with
    | non => cases ry; exact PySem.EqNone.eq_int_none (fin_bl I q (by simp))
    | int j => obtain ⟨t', rfl⟩ := ry; exact eq_int (fin_bl I q dec_int)
    | str j => obtain ⟨t', rfl⟩ := ry; exact PySem.EqMixed.eq_int_str (fin_bl I q (by simp))
    | _ => exact absurd (show false = true from hs) Bool.false_ne_true
  | str i =>
    obtain ⟨t, rfl⟩ := rx
    cases y with
    | non => cases ry; exact PySem.EqNone.eq_str_none (fin_bl I q (by simp))
    | bl j => cases ry; exact PySem.EqMixed.eq_str_bool (fin_bl I q (by simp))
    | int j => obtain ⟨t', rfl⟩ := ry; exact PySem.EqMixed.eq_str_int (fin_bl I q (by simp))
    | str j => obtain ⟨t', rfl⟩ := ry; exact eq_str (fin_bl I q dec_str)
    | _ => exact absurd (show false = true from hs) Bool.false_ne_true
  | byt i =>
    obtain ⟨t, rfl⟩ := rx
    cases y with
    | byt j => obtain ⟨t', rfl⟩ := ry; exact PySem.W.eq_bytes (fin_bl I q dec_byt)
    | _ => exact absurd (show false = true from hs) Bool.false_ne_true
  | _ => cases y <;> exact absurd (show false = true from hs) Bool.false_ne_true
theorem op_ne : OpR X (compareOp .NotEq) rNe := by
  intro pins s σ H x y v u Q I rx ry h
  obtain ⟨hs, q⟩ := h
  cases x with
  | non =>
    cases rx
    cases y with
    | non => cases ry; exact PySem.EqNone.ne_none_none (fin_bl I q (by simp))
    | bl j => cases ry; exact PySem.EqNone.ne_none_bool (fin_bl I q (by simp))
    | int j => obtain ⟨t', rfl⟩ := ry; exact PySem.EqNone.ne_none_int (fin_bl I q (by simp))
    | str j => obtain ⟨t', rfl⟩ := ry; exact PySem.EqNone.ne_none_str (fin_bl I q (by simp))
    | _ => exact absurd (show false = true from hs) Bool.false_ne_true
  | bl i =>
    cases rx
    cases y with
    | non => cases ry; exact PySem.EqNone.ne_bool_none (fin_bl I q (by simp))
    | bl j => cases ry; exact ne_bool (fin_bl I q (congrArg not dec_bl))
    | str j => obtain ⟨t', rfl⟩ := ry; exact PySem.EqMixed.ne_bool_str (fin_bl I q (by simp))
    | _ => exact absurd (show false = true from hs) Bool.false_ne_true
  | int i =>
    obtain ⟨t, rfl⟩ := rx
    cases y with
    | non => cases ry; exact PySem.EqNone.ne_int_none (fin_bl I q (by simp))
    | int j => obtain ⟨t', rfl⟩ := ry; exact ne_int (fin_bl I q (congrArg not dec_int))
    | str j => obtain ⟨t', rfl⟩ := ry; exact PySem.EqMixed.ne_int_str (fin_bl I q (by simp))
    | _ => exact absurd (show false = true from hs) Bool.false_ne_true
  | str i =>
    obtain ⟨t, rfl⟩ := rx
    cases y with
    | non => cases ry; exact PySem.EqNone.ne_str_none (fin_bl I q (by simp))
    | bl j => cases ry; exact PySem.EqMixed.ne_str_bool (fin_bl I q (by simp))
    | int j => obtain ⟨t', rfl⟩ := ry; exact PySem.EqMixed.ne_str_int (fin_bl I q (by simp))
    | str j => obtain ⟨t', rfl⟩ := ry; exact ne_str (fin_bl I q (congrArg not dec_str))
    | _ => exact absurd (show false = true from hs) Bool.false_ne_true
  | byt i =>
    obtain ⟨t, rfl⟩ := rx
    cases y with
    | byt j => obtain ⟨t', rfl⟩ := ry; exact PySem.W.ne_bytes (fin_bl I q (congrArg not dec_byt))
    | _ => exact absurd (show false = true from hs) Bool.false_ne_true
  | _ => cases y <;> exact absurd (show false = true from hs) Bool.false_ne_true
theorem op_lt : OpR X (compareOp .Lt) (rI0 fun i j => .bl (decide (i < j))) := opB0 fun _ _ _ _ _ _ _ q => lt_int q
theorem op_le : OpR X (compareOp .LtE) (rI0 fun i j => .bl (decide (i ≤ j))) := opB0 fun _ _ _ _ _ _ _ q => le_int q
theorem op_gt : OpR X (compareOp .Gt) (rI0 fun i j => .bl (decide (j < i))) := opB0 fun _ _ _ _ _ _ _ q => gt_int q
theorem op_ge : OpR X (compareOp .GtE) (rI0 fun i j => .bl (decide (j ≤ i))) := opB0 fun _ _ _ _ _ _ _ q => ge_int q
theorem nomark (b : Expr) {op : CmpOp} (h : op ≠ .In := by decide) (h2 : op ≠ .NotIn := by decide) : behindInMarks op b = false := by
  have e1 : (op == CmpOp.In) = false := by cases op <;> first | rfl | exact absurd rfl h
  have e2 : (op == CmpOp.NotIn) = false := by cases op <;> first | rfl | exact absurd rfl h2
  cases b <;> simp [behindInMarks, e1, e2]
theorem pe_cmpR {op : CmpOp} {r : R2} (ho : OpR X (compareOp op) r) (ha : PE X a ta) (hb : PE X b tb) (hm : behindInMarks op b = false) : PE X (.Compare a [op] [b] pos) (tOp r ta tb) := by
  intro pins s σ H Q I h
  exact wpAny_Compare1 (binT ha hb I h fun v u s2 x y H2 I2 rx ry q => ho pins s2 σ H2 x y v u Q I2 rx ry q) hm
def tTest (t : TE) : TT := fun σ H Q => t σ H fun x H' => ∃ k, x = .bl k ∧ Q k H'
theorem pt_cmpR {op : CmpOp} {r : R2} (ho : OpR X (compareOp op) r) (ha : PE X a ta) (hb : PE X b tb) (hm : behindInMarks op b = false) : PT X (.Compare a [op] [b] pos) (tTest (tOp r ta tb)) := by
  intro pins s σ H Q I h
  refine wpAny_isTrue_Compare1 (thn (ha pins s σ H _ I h) fun v s1 ⟨x, H1, I1, r1, q1⟩ => thn (hb pins s1 σ H1 _ I1 q1) fun u s2 ⟨y, H2, I2, r2, q2⟩ =>
    thn (ho pins s2 σ H2 x y v u _ I2 r1 r2 q2) fun c s3 ⟨z, H3, I3, r3, k, e, q3⟩ => ?_) hm
  subst e
  cases r3
  exact wpAny_truthy_bool ⟨H3, I3, q3⟩
def TruV (K : PySem.W.Frag) (x : V) (H : Hp) (k : Bool) : Prop :=
  match x with
  | .non => k = false
  | .bl b => k = b
  | .int i => k = (i != 0)
  | .str y => y.length ≤ sizeLine ∧ k = ((y.length : Int) != 0)
  | .byt y => y.size ≤ sizeLine ∧ k = ((y.size : Int) != 0)
  | .ref p => (∃ xs, SqL K H p xs ∧ k = !xs.isEmpty) ∨ (∃ xs, SqT K H p xs ∧ k = !xs.isEmpty) ∨ ∃ kvs, H p = some (.dK kvs) ∧ k = !kvs.isEmpty
  | _ => False
theorem isEmpty_kv {κ : Type} {kvs : List (κ × V)} {vs : List (κ × Value)} (r : KV kvs vs) : (!vs.isEmpty) = !kvs.isEmpty := by
  cases r <;> rfl
theorem isEmpty_of {xs : List V} {its : List Value} (r : Vals xs its) : (!its.toArray.isEmpty) = !xs.isEmpty := by
  cases r <;> simp
theorem line63 : (sizeLine : Nat) < 2 ^ 63 := by rw [sizeLine_eq]; decide
theorem tru_ok : TruR X (fun x H Q => ∃ k, TruV X.K x H k ∧ Q k H) := by
  intro pins s σ H x v Q I rx h
  obtain ⟨k, e, q⟩ := h
  have hl := line63
  have hs : sizeLine = 16777216 := sizeLine_eq
  cases x with
  | non =>
    cases rx
    have e' : k = false := e
    subst e'
    exact truthy_none ⟨H, I, q⟩
  | bl b =>
    cases rx
    have e' : k = b := e
    subst e'
    exact wpAny_truthy_bool ⟨H, I, q⟩
  | int i =>
    obtain ⟨t, rfl⟩ := rx
    have e' : k = (i != 0) := e
    subst e'
    exact PySem.P.truthy_int ⟨H, I, q⟩
  | str y =>
    obtain ⟨t, rfl⟩ := rx
    obtain ⟨hy, e'⟩ : y.length ≤ sizeLine ∧ k = ((y.length : Int) != 0) := e
    subst e'
    exact PySem.P.truthy_str (by omega) ⟨H, I.tok _, q⟩
  | byt y =>
    obtain ⟨t, rfl⟩ := rx
    obtain ⟨hy, e'⟩ : y.size ≤ sizeLine ∧ k = ((y.size : Int) != 0) := e
    subst e'
    exact PySem.W.truthy_bytes (by omega) ⟨H, I.tok _, q⟩
  | ref p =>
    cases rx
    have e' : (∃ xs, SqL X.K H p xs ∧ k = !xs.isEmpty) ∨ (∃ xs, SqT X.K H p xs ∧ k = !xs.isEmpty) ∨ ∃ kvs, H p = some (.dK kvs) ∧ k = !kvs.isEmpty := e
    rcases e' with ⟨xs, hx, e'⟩ | ⟨xs, hx, e'⟩ | ⟨kvs, hx, e'⟩
    · subst e'
      obtain ⟨its, r, pl, hz⟩ := I.list hx
      have hlen := r.length
      exact wpAny_truthy_list pl.isList (by simp only [List.size_toArray]; omega) ⟨H, I.tok _, by rw [isEmpty_of r]; exact q⟩
    · subst e'
      obtain ⟨its, r, pl, hz⟩ := I.tuple hx
      have hlen := r.length
      exact truthy_tuple pl (by simp only [List.size_toArray]; omega) ⟨H, I.tok _, by rw [isEmpty_of r]; exact q⟩
    · subst e'
      obtain ⟨hz, hS, vs, r, m⟩ : kvs.length ≤ sizeLine ∧ (p == sysModules) = false ∧ ∃ vs, KV kvs vs ∧ s.heap.DictOf (mixKind X.prog X.w) p vs := I.hok p _ hx
      have hlen : kvs.length = vs.length := Paired.length r
      exact wpAny_truthy_dict hS m (by omega) ⟨H, I.tok _, by rw [isEmpty_kv r]; exact q⟩
  | _ => exact (show False from e).elim
theorem pt_truth (ha : PE X a ta) (he : ∀ whole, isTrue a X.env whole = (do let v ← whole; standAt a.pos; holding [v] (truthy v))) :
    PT X a (fun σ H Q => ta σ H fun x H' => ∃ k, TruV X.K x H' k ∧ Q k H') := by
  intro pins s σ H Q I h
  exact isTrue_plain (thn (ha pins s σ H _ I h) fun v s1 ⟨x, H1, I1, r1, q1⟩ => tru_ok pins s1 σ H1 x v Q I1 r1 q1) (he _)
theorem vals1 {x : V} {us : List Value} (r : Vals [x] us) : ∃ u, us = [u] ∧ RelV x u := by
  cases r with
  | cons r1 r2 => cases r2; exact ⟨_, rfl, r1⟩
theorem vals2 {x y : V} {us : List Value} (r : Vals [x, y] us) : ∃ u w', us = [u, w'] ∧ RelV x u ∧ RelV y w' := by
  cases r with
  | cons r1 r2 =>
    cases r2 with
    | cons r3 r4 => cases r4; exact ⟨_, _, rfl, r1, r3⟩
theorem call_max2 (hc : X.calm = true) : CallR X (.builtin "max") (fun xs H Q => ∃ i j, xs = [.int i, .int j] ∧ Q (.int (if j > i then j else i)) H) := by
  intro pins s σ H xs us Q I r h
  obtain ⟨i, j, rfl, q⟩ := h
  obtain ⟨u, w', rfl, ⟨t, rfl⟩, ⟨t', rfl⟩⟩ := vals2 r
  refine max_two_ints (I.ok.hd hc) fun h' tk k => ⟨_, H, I.kept k, ?_, q⟩
  by_cases hj : j > i
  · rw [if_pos hj, if_pos hj]; exact ⟨_, rfl⟩
  · rw [if_neg hj, if_neg hj]; exact ⟨_, rfl⟩
end
end L2
namespace L2
open PySem PySem.Spec PyProof.Rows
structure ObjM (h : Heap) (x dx C : Addr) (mA : Str → Option Value) : Prop where
  obj : h.get? x = some (PySem.W.instObj C dx)
  ns : h.Ns1 dx mA
  ne : dx ≠ x
theorem lookIn_ns {h : Heap} {dx : Addr} {mA : Str → Option Value} (n : h.Ns1 dx mA) : ∃ od, h.get? dx = some od ∧ ∀ name, PySem.W.lookIn name od = some (mA name) := by
  obtain ⟨o, es, ep, ho, hd, hk, _, hm⟩ := n
  refine ⟨o, ho, fun name => ?_⟩
  have e := hm name
  unfold nsFind findBy at e
  rw [← Array.find?_toList] at e
  unfold PySem.W.lookIn
  rw [hd]
  dsimp only
  split
  · rename_i y q
    rw [q] at e
    exact congrArg some e
  · rename_i q
    rw [q] at e
    have a : es.toList.any (·.refKey) = false := by
      rw [List.any_eq_false]
      intro y hy
      obtain ⟨z, t, hkey⟩ := hk y (Array.mem_toList_iff.mp hy)
      simp [DictEntry.refKey, hkey]
    have a' : ¬ es.toList.any (·.refKey) = true := by rw [a]; exact Bool.false_ne_true
    rw [if_neg a']
    exact congrArg some e
theorem ObjM.look {h : Heap} {x dx C : Addr} {mA : Str → Option Value} (I : ObjM h x dx C mA) : ∃ od, PySem.W.InstAt h x (PySem.W.instObj C dx) C (some od) ∧ ∀ name, PySem.W.lookIn name od = some (mA name) :=
  let ⟨od, ho, hl⟩ := lookIn_ns I.ns
  ⟨od, ⟨I.obj, rfl, rfl, ho⟩, hl⟩
section
variable {prog : Program} {w : World} {A : Around} {E : Value → Shared → Prop} {s : Shared} {K : PySem.W.Frag} {x dx C f : Addr} {mA : Str → Option Value} {name : Str} {v : Value}
theorem get_map {expr : Bool} {Q : Value → Shared → Prop} (X : K.In s.heap) (I : ObjM s.heap x dx C mA) (hg : PySem.W.plainGet K C name = true) (hh : PySem.W.hasDictIn K C = true)
    (ha : PySem.W.findIn K (.ref C) name = some none) (hv : mA name = some v) (hv' : PySem.W.handedIn v = true) (h : Q v { s with toks := s.toks + 1 }) :
    wpAny (model prog w) A (getAttr (.ref x) name expr) Q E s := by
  obtain ⟨od, J, hl⟩ := I.look
  exact PySem.W.get_value X J (PySem.W.plainGet_of hg).1 (PySem.W.findObj_own hh ha rfl (by rw [hl, hv])) hv' h
theorem get_meth {pl : Sem Bool} {Q : Value × List Value → Shared → Prop} (X : K.In s.heap) (I : ObjM s.heap x dx C mA) (hg : PySem.W.plainGet K C name = true)
    (hf : PySem.W.findIn K (.ref C) name = some (some (.ref f))) (ht : PySem.W.isFn K (.ref f) = true) (hv : mA name = none) (h : Q (.ref f, [.ref x]) s) :
    wpAny (model prog w) A (getMethod (.ref x) name pl) Q E s := by
  obtain ⟨od, J, hl⟩ := I.look
  exact PySem.W.method_fn X J (PySem.W.plainGet_of hg).1 (PySem.W.plainGet_of hg).2 hf (beq_iff_eq.mp ht) (by show (PySem.W.lookIn name od).map (·.isSome) = some false; rw [hl, hv]; rfl) h
theorem set_map {ns : List Str} {Q : Unit → Shared → Prop} (X : K.In s.heap) (I : ObjM s.heap x dx C mA)
    (hs : PySem.W.findIn K (.ref C) "__setattr__" = some (some (.builtin "object.__setattr__"))) (hp : PySem.W.plainOver K C = true) (ht : PySem.W.takerIn K C name = some none) (hh : PySem.W.hasDictIn K C = true)
    (hw : PySem.Within mA ns) (hsz : ns.length ≤ sizeLine)
    (h : ∀ h', ObjM h' x dx C (fun y => if y = name then some v else mA y) → Heap.SameBut dx s.heap h' → Q () { s with heap := h', toks := s.toks + 2 }) :
    wpAny (model prog w) A (setAttr (.ref x) name v) Q E s := by
  obtain ⟨od, J, hl⟩ := I.look
  refine PySem.W.set_plain X J hs (PySem.W.osa_open (s := { s with toks := s.toks + 1 }) (r := none) X J hp ht fun b => ?_)
  obtain ⟨cd, hc, hd'⟩ := PySem.W.any_some hh
  have hx : s.heap.get? x = some ⟨.ref C, some dx, .plain, #[]⟩ := I.obj
  refine wpAny_bind (wpAny_pure (wpAny_bind (wpAny_bind (wpAny_loadPart hx (wpAny_bind (PySem.W.Looks.here (s := { s with toks := s.toks + 1 }) (PySem.W.looks_clsIn X hc) ?_))))))
  rw [hd']
  refine wpAny_pure (a := some dx) (wpAny_bind (wpAny_pure (wpAny_bind ?_)))
  refine wpAny_nsSet1 (s := { s with toks := s.toks + 1 }) I.ns fun h' hn2 hs2 => ?_
  obtain ⟨oD, esD, epD, hoD, hdD, hcD⟩ := hn2.count (PySem.Within.cons name v hw)
  refine wpAny_bind (wpAny_lookBehind hoD (by rw [hdD]; exact pastItsLine_dict (Nat.le_trans hcD (by rw [List.length_cons]; omega))) ?_)
  exact wpAny_pure (h _ ⟨(hs2.2 _ (Ne.symm I.ne)).trans I.obj, hn2, I.ne⟩ hs2)
theorem make_map {R : Result → Shared → Prop} {vs : List Value} {kw : List (Str × Value)} (X : K.In s.heap) (hm : PySem.W.makesIn K C = true)
    (hi : PySem.W.findIn K (.ref C) "__init__" = some (some (.ref f))) (hf : PySem.W.typeIn K (.ref f) = some (.type "function"))
    (h : codeAny (model prog w) (A.under (.builtin "type.__call__" ⟨.ref C :: vs, kw⟩)) (.call (.ref f) ⟨.ref (s.heap.objs.size + 1) :: vs, kw⟩) (PySem.W.InitBack (s.heap.objs.size + 1) R)
      { s with heap := (s.heap.push PySem.W.emptyDict).push (PySem.W.instObj C s.heap.objs.size) }) :
    codeAny (model prog w) A (.call (.ref C) ⟨vs, kw⟩) R s := by
  obtain ⟨hh, g, d, t, os⟩ := s
  exact PySem.W.make_core (PySem.W.makes_of X hm) (PySem.W.looks_findIn X hi) (fun self => PySem.W.bind_fn X self hf) (.inl rfl) h
end
def putF (f : Str) (v : V) : List (Str × V) → List (Str × V)
  | [] => [(f, v)]
  | (g, x) :: r => if g = f then (g, v) :: r else (g, x) :: putF f v r
theorem lookup_putF (f g : Str) (v : V) : ∀ fs : List (Str × V), (putF f v fs).lookup g = if g = f then some v else fs.lookup g
  | [] => by
    show List.lookup g [(f, v)] = _
    by_cases h : g = f
    · have hb : (g == f) = true := beq_iff_eq.mpr h
      simp only [List.lookup, hb, if_pos h]
    · have hb : (g == f) = false := beq_eq_false_iff_ne.mpr h
      simp only [List.lookup, hb, if_neg h]
  | (k, x) :: r => by
    have ih := lookup_putF f g v r
    rw [show putF f v ((k, x) :: r) = (if k = f then (k, v) :: r else (k, x) :: putF f v r) from rfl]
    by_cases hk : k = f
    · rw [if_pos hk]
      by_cases h : g = k
      · have hb : (g == k) = true := beq_iff_eq.mpr h
        simp only [List.lookup, hb, if_pos (h.trans hk)]
      · have hb : (g == k) = false := beq_eq_false_iff_ne.mpr h
        simp only [List.lookup, hb, if_neg (fun e : g = f => h (e.trans hk.symm))]
    · rw [if_neg hk]
      by_cases h : g = k
      · have hb : (g == k) = true := beq_iff_eq.mpr h
        simp only [List.lookup, hb, if_neg (fun e : g = f => hk (h.symm.trans e))]
      · have hb : (g == k) = false := beq_eq_false_iff_ne.mpr h
        simp only [List.lookup, hb]
        exact ih
theorem keys_putF (f : Str) (v : V) : ∀ fs : List (Str × V), f ∈ (putF f v fs).map (·.1) ∧ ∀ g, g ∈ fs.map (·.1) → g ∈ (putF f v fs).map (·.1)
  | [] => ⟨by simp [putF], fun g h => by simp at h⟩
  | (k, x) :: r => by
    obtain ⟨i1, i2⟩ := keys_putF f v r
    rw [show putF f v ((k, x) :: r) = (if k = f then (k, v) :: r else (k, x) :: putF f v r) from rfl]
    by_cases hk : k = f
    · rw [if_pos hk]
      subst hk
      exact ⟨by simp, fun g h => by simpa using h⟩
    · rw [if_neg hk]
      refine ⟨?_, fun g h => ?_⟩
      · rw [List.map_cons]
        exact List.mem_cons_of_mem _ i1
      · rw [List.map_cons] at h ⊢
        rcases List.mem_cons.mp h with e | e
        · exact List.mem_cons.mpr (.inl e)
        · exact List.mem_cons_of_mem _ (i2 g e)
theorem length_putF (f : Str) (v : V) : ∀ fs : List (Str × V), (putF f v fs).length ≤ fs.length + 1
  | [] => by simp [putF]
  | (k, x) :: r => by
    have ih := length_putF f v r
    rw [show putF f v ((k, x) :: r) = (if k = f then (k, v) :: r else (k, x) :: putF f v r) from rfl]
    by_cases hk : k = f
    · rw [if_pos hk, List.length_cons, List.length_cons]; omega
    · rw [if_neg hk, List.length_cons, List.length_cons]; omega
theorem RelO.some_of {v : V} {o : Option Value} (r : RelO (some v) o) : ∃ u, o = some u ∧ RelV v u := by
  cases o with
  | none => exact (show False from r).elim
  | some u => exact ⟨u, rfl, r⟩
theorem RelO.none_of {o : Option Value} (r : RelO none o) : o = none := by
  cases o with
  | none => rfl
  | some u => exact (show False from r).elim
theorem handed_of {v : V} {u : Value} (r : RelV v u) : PySem.W.handedIn u = true := by
  cases v with
  | non => cases (show u = Value.none from r); rfl
  | bl b => cases (show u = Value.bool b from r); rfl
  | int i => obtain ⟨t, e⟩ := (show ∃ t, u = Value.int i t from r); cases e; rfl
  | str x => obtain ⟨t, e⟩ := (show ∃ t, u = Value.str x t from r); cases e; rfl
  | byt b => obtain ⟨t, e⟩ := (show ∃ t, u = Value.bytes b t from r); cases e; rfl
  | flt b => obtain ⟨t, e⟩ := (show ∃ t, u = Value.float b t from r); cases e; rfl
  | ref a => cases (show u = Value.ref a from r); rfl
  | ty n => cases (show u = Value.type n from r); rfl
section
variable {P : Program} {w : World} {H H' : Hp} {h h' : Heap} {a C dx : Addr} {fs fs' : List (Str × V)}
theorem ins_get (hok : HOk P w H h) (e : H a = some (.ins C dx fs)) : ∃ mA, ObjM h a dx C mA ∧ (∀ f, RelO (fs.lookup f) (mA f)) ∧ PySem.Within mA (fs.map (·.1)) ∧ fs.length ≤ 1000 ∧ H dx = some (.own a) := by
  obtain ⟨d, z, ne, ob, mA, n, r, q⟩ := (show ObjOk P w H h a (.ins C dx fs) from hok a _ e)
  exact ⟨mA, ⟨ob, n, ne⟩, r, q, z, d⟩
end
structure Cls (K : PySem.W.Frag) (C : Addr) : Prop where
  pg : PySem.W.plainGet K C Str.empty = true
  hd : PySem.W.hasDictIn K C = true
  po : PySem.W.plainOver K C = true
  sa : PySem.W.findIn K (.ref C) "__setattr__" = some (some (.builtin "object.__setattr__"))
theorem Cls.get {K : PySem.W.Frag} {C : Addr} (c : Cls K C) (f : Str) : PySem.W.plainGet K C f = true := c.pg
def NoAttr (K : PySem.W.Frag) (C : Addr) (f : Str) : Prop := PySem.W.findIn K (.ref C) f = some none
theorem NoAttr.taker {K : PySem.W.Frag} {C : Addr} {f : Str} (n : NoAttr K C f) : PySem.W.takerIn K C f = some none := by
  unfold PySem.W.takerIn
  rw [show PySem.W.findIn K (.ref C) f = some none from n]
  rfl
structure Meth (K : PySem.W.Frag) (C : Addr) (m : Str) (f : Addr) : Prop where
  at_ : PySem.W.findIn K (.ref C) m = some (some (.ref f))
  fn : PySem.W.isFn K (.ref f) = true
  kp : PySem.W.keepIn K (.ref f) = true
section
variable {X : Cx} {pins : List (Addr × Obj)} {σ : St} {H : Hp} {s : Shared} {a C dx : Addr} {fs : List (Str × V)} {f : Str} {v : V} {A : Around} {E : Value → Shared → Prop}
theorem getattr_ok {b : Bool} {Q : Value → Shared → Prop} (I : Inv X pins σ H s) (e : H a = some (.ins C dx fs)) (c : Cls X.K C) (n : NoAttr X.K C f) (l : fs.lookup f = some v)
    (h : ∀ u s', Inv X pins σ H s' → RelV v u → Q u s') : wpAny (model X.prog X.w) A (getAttr (.ref a) f b) Q E s := by
  obtain ⟨mA, O, r, _, _, _⟩ := ins_get I.hok e
  obtain ⟨u, hu, ru⟩ := RelO.some_of (v := v) (o := mA f) (by rw [← l]; exact r f)
  exact get_map I.kIn O (c.get f) c.hd n hu (handed_of ru) (h u _ (I.tok _) ru)
theorem getmeth_ok {m : Str} {g : Addr} {pl : Sem Bool} {Q : Value × List Value → Shared → Prop} (I : Inv X pins σ H s) (e : H a = some (.ins C dx fs)) (c : Cls X.K C) (k : Meth X.K C m g) (l : fs.lookup m = none)
    (h : Q (.ref g, [.ref a]) s) : wpAny (model X.prog X.w) A (getMethod (.ref a) m pl) Q E s := by
  obtain ⟨mA, O, r, _, _, _⟩ := ins_get I.hok e
  have hn : mA m = none := RelO.none_of (by rw [← l]; exact r m)
  exact get_meth I.kIn O (c.get m) k.at_ k.fn hn h
theorem setattr_ok {y : V} {u : Value} {Q : Unit → Shared → Prop} (I : Inv X pins σ H s) (e : H a = some (.ins C dx fs)) (c : Cls X.K C) (n : NoAttr X.K C f) (hl : fs.length < 1000) (ry : RelV y u)
    (h : ∀ s', Inv X pins σ (upd H a (.ins C dx (putF f y fs))) s' → Q () s') : wpAny (model X.prog X.w) A (setAttr (.ref a) f u) Q E s := by
  obtain ⟨mA, O, r, wi, _, ho⟩ := ins_get I.hok e
  have hz : (fs.map (·.1)).length ≤ sizeLine := by rw [List.length_map, sizeLine_eq]; omega
  refine set_map I.kIn O c.sa c.po n.taker c.hd wi hz fun h' O' sb => h _ ?_
  have hd : ∃ o, h'.get? dx = some o := let ⟨o, _, _, e', _⟩ := O'.ns; ⟨o, e'⟩
  refine I.write (x := a) (e := dx) (by rw [e]; exact True.intro) (.inr ho) (fun b q hb z => (sb.2 b hb).trans z) hd ?_
  refine ⟨by rw [upd_ne O.ne]; exact ho, ?_, O.ne, O'.obj, _, O'.ns, fun g => ?_, fun g hg => ?_⟩
  · have := length_putF f y fs; omega
  · show RelO ((putF f y fs).lookup g) (if g = f then some u else mA g)
    rw [lookup_putF]
    by_cases q : g = f
    · rw [if_pos q, if_pos q]; exact ry
    · rw [if_neg q, if_neg q]; exact r g
  · by_cases q : g = f
    · rw [q]; exact (keys_putF f y fs).1
    · refine (keys_putF f y fs).2 g (wi g fun z => hg ?_)
      show (if g = f then some u else mA g) = none
      rw [if_neg q]; exact z
theorem Inv.made (I : Inv X pins σ H s) : Inv X pins σ (upd (upd H s.heap.objs.size (.own (s.heap.objs.size + 1))) (s.heap.objs.size + 1) (.ins C s.heap.objs.size []))
    { s with heap := (s.heap.push PySem.W.emptyDict).push (PySem.W.instObj C s.heap.objs.size) } := by
  have e1 : (s.heap.push PySem.W.emptyDict).get? s.heap.objs.size = some PySem.W.emptyDict := Heap.get?_push_size s.heap rfl
  have e2 : ((s.heap.push PySem.W.emptyDict).push (PySem.W.instObj C s.heap.objs.size)).get? (s.heap.objs.size + 1) = some (PySem.W.instObj C s.heap.objs.size) := by
    have := Heap.get?_push_size (s.heap.push PySem.W.emptyDict) (o := PySem.W.instObj C s.heap.objs.size) rfl
    rwa [Heap.size_push] at this
  have e3 : (s.heap.push PySem.W.emptyDict).Ns s.heap.objs.size (fun _ => none) := ⟨PySem.W.emptyDict, #[], _, e1, rfl, (fun e he => absurd he (by simp)), fun _ => rfl⟩
  have I1 := I.laid (a := s.heap.objs.size) (o := .own (s.heap.objs.size + 1)) (h' := s.heap.push PySem.W.emptyDict) (t' := s.toks) (fun b u q => Heap.get?_push_of_some _ q) (Nat.le_refl _) ⟨_, e1⟩
  refine I1.laid (a := s.heap.objs.size + 1) (o := .ins C s.heap.objs.size []) (t' := s.toks) (fun b u q => Heap.get?_push_of_some _ q) (Nat.le_of_eq (Heap.size_push _ _)) ?_
  have ne : s.heap.objs.size ≠ s.heap.objs.size + 1 := Nat.ne_of_lt (Nat.lt_succ_self _)
  refine ⟨by rw [upd_ne ne, upd_same], Nat.zero_le _, ne, e2, fun _ => none, (Heap.Ns1.of_empty e3).at fun o q => Heap.get?_push_of_some _ q, fun _ => True.intro, fun y hy => absurd rfl hy⟩
theorem attr_of {prog : Program} {w : World} {env : Env} {e : Expr} {f : Str} {pos : Pos} {s : Shared} {Q : Value → Shared → Prop} (hb : attributeBase e f env (eval e env) = eval e env)
    (h : wpAny (model prog w) A (eval e env) (fun o s₁ => wpAny (model prog w) A (getAttr o f true) Q E s₁) E s) : wpAny (model prog w) A (eval (.Attribute e f pos) env) Q E s :=
  Attribute_any_ h (by rw [arm_eval_Attribute, hb])
end
def tFld (K : PySem.W.Frag) (ta : TE) (f : Str) : TE := fun σ H Q => ta σ H fun x H1 => ∃ a C dx fs v, x = .ref a ∧ H1 a = some (.ins C dx fs) ∧ Cls K C ∧ NoAttr K C f ∧ fs.lookup f = some v ∧ Q v H1
def sFld (K : PySem.W.Frag) (ta tv : TE) (f : Str) : TS := fun D σ H => tv σ H fun y H1 => ta σ H1 fun x H2 => ∃ a C dx fs, x = .ref a ∧ H2 a = some (.ins C dx fs) ∧ Cls K C ∧ NoAttr K C f ∧ fs.length < 1000 ∧
  D.nx σ (upd H2 a (.ins C dx (putF f y fs)))
section
variable {X : Cx} {o e value : Expr} {f : Str} {pos pos' tpos : Pos} {ta tv : TE}
theorem pe_fld (he : PE X e ta) (hb : attributeBase e f X.env (eval e X.env) = eval e X.env) : PE X (.Attribute e f pos) (tFld X.K ta f) := by
  intro pins s σ H Q I h
  refine attr_of hb (thn (he pins s σ H _ I h) fun u s1 ⟨x, H1, I1, rx, a, C, dx, fs, v, ex, ea, c, n, l, q⟩ => ?_)
  subst ex
  obtain rfl : u = Value.ref a := rx
  exact getattr_ok I1 ea c n l fun u' s2 I2 ru => ⟨v, H1, I2, ru, q⟩
theorem ps_fld (ha : PE X o ta) (hv : PE X value tv) (hs : swapsWith value (some (.Attribute o f pos')) pos.line X.env = pure false) : PS X (.Assign [.Attribute o f pos'] value pos) (sFld X.K ta tv f) := by
  intro pins s σ H D I h
  refine plainObj_wpAny_Assign_Attribute (thn (hv pins s σ H _ I h) fun u s1 ⟨y, H1, I1, ry, q⟩ => thn (ha pins s1 σ H1 _ I1 q) fun ov s2 ⟨x, H2, I2, rx, a, C, dx, fs, ex, ea, c, n, l, q2⟩ => ?_) hs
  subst ex
  obtain rfl : ov = Value.ref a := rx
  exact setattr_ok I2 ea c n l ry fun s3 I3 => ⟨σ, _, I3, q2⟩
theorem methcall_of {pl : Sem Bool} {m : Str} {apos : Pos} {args : List Expr} {pins : List (Addr × Obj)} {s : Shared} {σ : St} {H : Hp} {Q : Value → Shared → Prop} {te : TE} (he : PE X e te) (I : Inv X pins σ H s)
    (h : te σ H fun x H1 => ∃ a C dx fs g, x = .ref a ∧ H1 a = some (.ins C dx fs) ∧ Cls X.K C ∧ Meth X.K C m g ∧ fs.lookup m = none ∧
      ∀ s1, Inv X pins σ H1 s1 → wpAny (model X.prog X.w) X.A (callWith pos (.ref g) [.ref a] (backTo pos (starEach args X.env)) (backToKw pos (keywordEach [] X.env))) Q X.xe s1)
    (ht : eval (.Call (.Attribute e m apos) args [] pos) X.env = (do
      let ov ← eval e X.env
      standAt apos.atName
      let (f, first) ← holding [ov] (getMethod ov m pl)
      callWith pos f first (backTo pos (starEach args X.env)) (backToKw pos (keywordEach [] X.env)))) :
    wpAny (model X.prog X.w) X.A (eval (.Call (.Attribute e m apos) args [] pos) X.env) Q X.xe s := by
  refine PySem.W.methodCall_KW (pl := pl) (thn (he pins s σ H _ I h) fun u s1 ⟨x, H1, I1, rx, a, C, dx, fs, g, ex, ea, c, k, l, q⟩ => ?_) ht
  subst ex
  obtain rfl : u = Value.ref a := rx
  exact getmeth_ok I1 ea c k l (q s1 I1)
end
end L2
namespace L2
open PySem PySem.Spec PyProof.Rows
structure Room (k : Nat) (A : Around) : Prop where
  hd : A.handled = none
  dp : A.depth + 3 * k + 5 < recursionLimit
  un : A.units + 16 * k + 200 < cLine
theorem Room.mono {j k : Nat} {A : Around} (r : Room k A) (h : j ≤ k) : Room j A := ⟨r.hd, by have := r.dp; omega, by have := r.un; omega⟩
theorem Room.deeper {k : Nat} {A : Around} (r : Room (k + 1) A) (env : Env) : Room k (A.deeper env) :=
  ⟨r.hd, by have := r.dp; show A.depth + 1 + 3 * k + 5 < _; omega, by have := r.un; show A.units + 3 + 16 * k + 200 < _; omega⟩
theorem Room.in1 {k : Nat} {A : Around} (r : Room (k + 1) A) : Room k A.in1 :=
  ⟨r.hd, by have := r.dp; show A.depth + 3 * k + 5 < _; omega, by have := r.un; show A.units + 1 + 16 * k + 200 < _; omega⟩
theorem make_depth {A : Around} {C : Addr} {us : List Value} {kw : List (Str × Value)} : (A.under (.builtin "type.__call__" ⟨.ref C :: us, kw⟩)).depth = A.depth + 1 := by
  first | rfl | simp [Around.under, Code.weight, Code.isCreation, Code.isGuard, Code.isCaller, Code.frames, Code.isFrame, guardIds]
theorem make_units {A : Around} {C : Addr} {us : List Value} {kw : List (Str × Value)} : (A.under (.builtin "type.__call__" ⟨.ref C :: us, kw⟩)).units = A.units + 1 := by
  first | rfl | simp [Around.under, Code.cUnits, Code.frames, Code.isFrame]
theorem Room.make {k : Nat} {A : Around} (r : Room (k + 1) A) (C : Addr) (us : List Value) (kw : List (Str × Value)) : Room k (A.under (.builtin "type.__call__" ⟨.ref C :: us, kw⟩)) :=
  ⟨r.hd, by have := r.dp; rw [make_depth]; omega, by have := r.un; rw [make_units]; omega⟩
theorem Room.depth {k : Nat} {A : Around} (r : Room k A) : A.depth < recursionLimit := by have := r.dp; omega
theorem Room.units {k : Nat} {A : Around} (r : Room k A) : A.units + 64 < cLine := by have := r.un; omega
def tNil : TA := fun _ H Q => Q [] H
def tCons (ta : TE) (tr : TA) : TA := fun σ H Q => ta σ H fun x H1 => tr σ H1 fun xs H2 => Q (x :: xs) H2
section
variable {X : Cx} {e : Expr} {es : List Expr} {te : TE} {t : TA} {pos : Pos}
theorem pa_nil : PA X [] tNil := fun _ _ _ _ H Q I h => Calls.spliced_nil ⟨[], H, I, .nil, h⟩
theorem pa_cons (ha : PE X e te) (hr : PA X es t) (hs : starEach (e :: es) X.env = (false, eval e X.env) :: starEach es X.env := by rfl) : PA X (e :: es) (tCons te t) := by
  intro pos pins s σ H Q I h
  rw [hs]
  show wpAny _ _ (spliced ((false, eval e X.env) :: backTo pos (starEach es X.env))) _ _ s
  refine Calls.spliced_cons (thn (ha pins s σ H _ I h) fun u s1 ⟨x, H1, I1, r1, q1⟩ => ?_)
  exact thn (hr pos pins s1 σ H1 _ I1 q1) fun us s2 ⟨xs, H2, I2, r2, q2⟩ => ⟨x :: xs, H2, I2, .cons r1 r2, q2⟩
def tTup (t : TA) : TE := fun σ H Q => t σ H fun xs H1 => xs.length ≤ sizeLine ∧ ∀ p, H1 p = none → Q (.ref p) (upd H1 p (.tup xs))
def tLst (t : TA) : TE := fun σ H Q => t σ H fun xs H1 => xs.length ≤ sizeLine ∧ ∀ p, H1 p = none → Q (.ref p) (upd H1 p (.lst xs))
theorem pe_tup {x1} (h : PA X es t) : PE X (.Tuple es x1 pos) (tTup t) := by
  intro pins s σ H Q I hq
  refine wpAny_Tuple_spliced (thn (h pos pins s σ H _ I hq) fun us s1 ⟨xs, H1, I1, r, z, q⟩ => ⟨by rw [← r.length]; exact z, ?_⟩)
  have hf : H1 s1.heap.objs.size = none := I1.hok.fresh (Nat.le_refl _)
  refine ⟨.ref s1.heap.objs.size, upd H1 s1.heap.objs.size (.tup xs), I1.laid (t' := s1.toks) (fun b u e => Heap.get?_push_of_some _ e) (Nat.le_refl _) ?_, rfl, q _ hf⟩
  exact ⟨z, us, r, ⟨_, Heap.get?_push_size _ rfl, rfl, _, rfl⟩⟩
theorem pe_lst (h : PA X es t) : PE X (.List es pos) (tLst t) := by
  intro pins s σ H Q I hq
  refine wpAny_List_spliced (thn (h pos pins s σ H _ I hq) fun us s1 ⟨xs, H1, I1, r, z, q⟩ => ⟨by rw [← r.length]; exact z, ?_⟩)
  have hf : H1 s1.heap.objs.size = none := I1.hok.fresh (Nat.le_refl _)
  refine ⟨.ref s1.heap.objs.size, upd H1 s1.heap.objs.size (.lst xs), I1.laid (t' := s1.toks) (fun b u e => Heap.get?_push_of_some _ e) (Nat.le_refl _) ?_, rfl, q _ hf⟩
  exact ⟨z, us, 0, r, Heap.get?_push_size _ rfl⟩
end
abbrev Sp := List V → Hp → VK → XK → Prop
abbrev CXT := List Env → Hp → Shared → XK → Value → Shared → Prop
structure Env0 (P : Program) (w : World) (K : PySem.W.Frag) (mg : Str → Option Value) (base : Heap) (A : Around) (outer : List Env) (s : Shared) (H : Hp) : Prop where
  frames : A.frames = some outer
  mod : Mod K mg base
  bs : ∀ b o, base.get? b = some o → s.heap.get? b = some o ∧ H b = none
  bsz : base.objs.size ≤ s.heap.objs.size
  funs : s.heap.FunFrames base outer
  frf : ∀ b ∈ frs outer, H b = none
  hok : HOk P w H s.heap
  bare : AllBare s.gens
def CE (outer : List Env) (P : Program) (w : World) (H : Hp) (s : Shared) (Q : VK) (u : Value) (s' : Shared) : Prop :=
  ∃ v H', s'.os = s.os ∧ AllBare s'.gens ∧ Un (frs outer) [] H H' s.heap s'.heap ∧ HOk P w H' s'.heap ∧ RelV v u ∧ Q v H'
def CR (CX : CXT) (outer : List Env) (P : Program) (w : World) (H : Hp) (s : Shared) (Q : VK) (E : XK) (r : Result) (s' : Shared) : Prop :=
  match r with
  | .ok (.ret u) => CE outer P w H s Q u s'
  | .ok _ => False
  | .error e => CX outer H s E e s'
structure FnOk (P : Program) (w : World) (K : PySem.W.Frag) (mg : Str → Option Value) (base : Heap) (CX : CXT) (k : Nat) (f : Addr) (fd : FuncData) (ps : List Str) (sp : Sp) : Prop where
  len : ∀ vs H Q E, sp vs H Q E → vs.length = ps.length
  run : ∀ (A : Around) (outer : List Env) (s : Shared) (H : Hp) (args : Args) (us : List Value) (vs : List V) (Q : VK) (E : XK), Room k A → Env0 P w K mg base A outer s H → BindsTo s fd args (ps.zip us) → Vals vs us → sp vs H Q E →
    codeAny (model P w) A (.call (.ref f) args) (CR CX outer P w H s Q E) s
theorem Env0.make {P : Program} {w : World} {K : PySem.W.Frag} {mg : Str → Option Value} {base : Heap} {A : Around} {outer : List Env} {s : Shared} {H : Hp} (e : Env0 P w K mg base A outer s H) (C : Addr) (us : List Value) (kw : List (Str × Value)) :
    Env0 P w K mg base (A.under (.builtin "type.__call__" ⟨.ref C :: us, kw⟩)) outer s H := ⟨by first | exact e.frames | (simpa [Around.under, Code.envs, Code.isFrame, pushEnvs] using e.frames), e.mod, e.bs, e.bsz, e.funs, e.frf, e.hok, e.bare⟩
theorem Env0.in1 {P : Program} {w : World} {K : PySem.W.Frag} {mg : Str → Option Value} {base : Heap} {A : Around} {outer : List Env} {s : Shared} {H : Hp} (e : Env0 P w K mg base A outer s H) :
    Env0 P w K mg base A.in1 outer s H := ⟨e.frames, e.mod, e.bs, e.bsz, e.funs, e.frf, e.hok, e.bare⟩
section
variable {X : Cx} {pins : List (Addr × Obj)} {σ : St} {H : Hp} {s s' : Shared}
theorem Inv.env0 (I : Inv X pins σ H s) : Env0 X.prog X.w X.K X.mg X.base X.A X.stack s H :=
  ⟨I.ok.frames, I.ok.mod, I.bs, Nat.le_trans I.ok.bsz I.sz, I.stack, I.stkFree, I.hok, I.bare⟩
theorem Inv.after {Q : VK} {u : Value} (I : Inv X pins σ H s) (h : CE X.stack X.prog X.w H s Q u s') : EP X pins σ Q u s' := by
  obtain ⟨v, H', os, bare, un, hok, r, q⟩ := h
  obtain ⟨hh, g, d, t, os'⟩ := s'
  obtain rfl : os' = s.os := os
  exact ⟨v, H', I.call (h' := hh) (g' := g) (d' := d) (t' := t) (ch := []) un hok bare (fun b z => absurd z (by simp)), r, q⟩
end
def tCall (sp : Sp) (dvs : List V) (E : XK) (t : TA) : TE := fun σ H Q => t σ H fun vs H1 => sp (vs ++ dvs) H1 Q E
def tMeth (C : Addr) (m : Str) (sp : Sp) (dvs : List V) (E : XK) (ta : TE) (t : TA) : TE := fun σ H Q => ta σ H fun x H1 => ∃ a dx fs, x = .ref a ∧ H1 a = some (.ins C dx fs) ∧ fs.lookup m = none ∧
  t σ H1 fun vs H2 => sp (x :: (vs ++ dvs)) H2 Q E
def tMake (C : Addr) (sp : Sp) (dvs : List V) (E : XK) (t : TA) : TE := fun σ H Q => t σ H fun vs H1 => ∀ x dx, H1 x = none → H1 dx = none → dx ≠ x →
  sp (.ref x :: (vs ++ dvs)) (upd (upd H1 dx (.own x)) x (.ins C dx [])) (fun v H2 => v = .non ∧ Q (.ref x) H2) E
def Binds (K : PySem.W.Frag) (fd : FuncData) (ps : List Str) (ds : List Value) : Prop :=
  ∀ (s : Shared) (us : List Value), K.In s.heap → (us ++ ds).length = ps.length → BindsTo s fd ⟨us, []⟩ (ps.zip (us ++ ds))
theorem Binds.all {K : PySem.W.Frag} {fd : FuncData} {ps : List Str} (h : ∀ us : List Value, us.length = ps.length → bindArgs fd ⟨us, []⟩ = pure (ps.zip us)) : Binds K fd ps [] := fun s us _ hl => by
  rw [List.append_nil] at hl ⊢
  exact .of_eq (h us hl)
def Passes (CX : CXT) (X : Cx) (E : XK) : Prop := ∀ (pins : List (Addr × Obj)) (σ : St) (H : Hp) (s : Shared) (e : Value) (s' : Shared), Inv X pins σ H s → CX X.stack H s E e s' → X.xe e s'
section
variable {X : Cx} {CX : CXT} {k : Nat} {f C : Addr} {fd : FuncData} {ps : List Str} {sp : Sp} {dvs : List V} {ds : List Value} {E : XK} {x m : Str} {p pos apos : Pos} {e o : Expr} {es : List Expr} {ta : TE} {t : TA}
theorem run_fn {pins : List (Addr × Obj)} {σ : St} {H : Hp} {s : Shared} {Q : VK} {us : List Value} {vs : List V} (F : FnOk X.prog X.w X.K X.mg X.base CX k f fd ps sp) (hr : Room k X.A) (hb : Binds X.K fd ps ds) (hd : Vals dvs ds) (hx : Passes CX X E)
    (I : Inv X pins σ H s) (r : Vals vs us) (h : sp (vs ++ dvs) H Q E) : wpAny (model X.prog X.w) X.A (call (.ref f) us) (EP X pins σ Q) X.xe s := by
  have r2 : Vals (vs ++ dvs) (us ++ ds) := r.append hd
  have hl : (us ++ ds).length = ps.length := by rw [← r2.length]; exact F.len _ _ _ _ h
  refine wpAny_call (codeAny_mono (F.run X.A X.stack s H ⟨us, []⟩ (us ++ ds) (vs ++ dvs) Q E hr I.env0 (hb s us I.kIn hl) r2 h) fun r s' hq => ?_)
  cases r with
  | error e => exact hx pins σ H s e s' I hq
  | ok fl =>
    cases fl with
    | ret u => exact I.after hq
    | next => exact False.elim hq
    | brk => exact False.elim hq
    | cont => exact False.elim hq
theorem pe_call (F : FnOk X.prog X.w X.K X.mg X.base CX k f fd ps sp) (hr : Room k X.A) (hg : Gl X x) (hm : X.mg x = some (.ref f)) (hk : PySem.W.keepIn X.K (.ref f) = true) (hb : Binds X.K fd ps ds) (hd : Vals dvs ds) (hx : Passes CX X E)
    (ha : PA X (e :: es) t) (hdb : (x == ("__debug__" : Str)) = false := by decide) (he : starEach (e :: es) X.env = (false, eval e X.env) :: starEach es X.env := by rfl) (hpl : (backTo pos (starEach es X.env)).any (·.1) = false := by rfl) :
    PE X (.Call (.Name x p) (e :: es) [] pos) (tCall sp dvs E t) := by
  intro pins s σ H Q I h
  refine wpAny_Call_Name_kw (ld_glob I hg hm ?_ hdb)
  refine PySem.W.callWith_K (h₀ := X.base) I.ok.mod.kin hk (thn (ha pos pins s σ H _ I h) fun us s1 ⟨vs, H1, I1, r, q⟩ => ⟨I1.kIn, ?_⟩) he hpl
  exact run_fn F hr hb hd hx I1 r q
theorem pe_meth {pl : Sem Bool} (he : PE X o ta) (c : Cls X.K C) (hm : Meth X.K C m f) (F : FnOk X.prog X.w X.K X.mg X.base CX k f fd ps sp) (hr : Room k X.A) (hb : Binds X.K fd ps ds) (hd : Vals dvs ds) (hx : Passes CX X E) (ha : PA X (e :: es) t)
    (hst : starEach (e :: es) X.env = (false, eval e X.env) :: starEach es X.env := by rfl) (hpl : (backTo pos (starEach es X.env)).any (·.1) = false := by rfl)
    (ht : eval (.Call (.Attribute o m apos) (e :: es) [] pos) X.env = (do
      let ov ← eval o X.env
      standAt apos.atName
      let (f, first) ← holding [ov] (getMethod ov m pl)
      callWith pos f first (backTo pos (starEach (e :: es) X.env)) (backToKw pos (keywordEach [] X.env))) := by rfl) :
    PE X (.Call (.Attribute o m apos) (e :: es) [] pos) (tMeth C m sp dvs E ta t) := by
  intro pins s σ H Q I h
  refine PySem.W.methodCall_KW (pl := pl) (thn (he pins s σ H _ I h) fun u s1 ⟨x, H1, I1, rx, a, dx, fs, ex, ea, l, q⟩ => ?_) ht
  subst ex
  obtain rfl : u = Value.ref a := rx
  refine getmeth_ok I1 ea c hm l ?_
  refine PySem.W.callWith_K (first := [.ref a]) (h₀ := X.base) I.ok.mod.kin hm.kp (thn (ha pos pins s1 σ H1 _ I1 q) fun us s2 ⟨vs, H2, I2, r, q2⟩ => ⟨I2.kIn, ?_⟩) hst hpl
  exact run_fn (us := .ref a :: us) (vs := .ref a :: vs) F hr hb hd hx I2 (.cons rfl r) q2
theorem pe_meth0 {pl : Sem Bool} (he : PE X o ta) (c : Cls X.K C) (hm : Meth X.K C m f) (F : FnOk X.prog X.w X.K X.mg X.base CX k f fd ps sp) (hr : Room k X.A) (hb : Binds X.K fd ps ds) (hd : Vals dvs ds) (hx : Passes CX X E)
    (ht : eval (.Call (.Attribute o m apos) [] [] pos) X.env = (do
      let ov ← eval o X.env
      standAt apos.atName
      let (f, first) ← holding [ov] (getMethod ov m pl)
      callWith pos f first (backTo pos (starEach [] X.env)) (backToKw pos (keywordEach [] X.env))) := by rfl) :
    PE X (.Call (.Attribute o m apos) [] [] pos) (tMeth C m sp dvs E ta tNil) := by
  intro pins s σ H Q I h
  refine PySem.W.methodCall_KW (pl := pl) (thn (he pins s σ H _ I h) fun u s1 ⟨x, H1, I1, rx, a, dx, fs, ex, ea, l, q⟩ => ?_) ht
  subst ex
  obtain rfl : u = Value.ref a := rx
  refine getmeth_ok I1 ea c hm l ?_
  exact PySem.W.callWith_K0 (first := [.ref a]) I1.kIn hm.kp (run_fn (us := [.ref a]) (vs := [.ref a]) F hr hb hd hx I1 (.cons rfl .nil) q)
structure Mk (K : PySem.W.Frag) (C f : Addr) : Prop where
  makes : PySem.W.makesIn K C = true
  init : PySem.W.findIn K (.ref C) "__init__" = some (some (.ref f))
  fn : PySem.W.isFn K (.ref f) = true
  kp : PySem.W.keepIn K (.ref C) = true
theorem run_make {pins : List (Addr × Obj)} {σ : St} {H : Hp} {s : Shared} {Q : VK} {us : List Value} {vs : List V} (M : Mk X.K C f) (F : FnOk X.prog X.w X.K X.mg X.base CX k f fd ps sp) (hr : Room (k + 1) X.A) (hb : Binds X.K fd ps ds) (hd : Vals dvs ds)
    (hx : Passes CX X E) (I : Inv X pins σ H s) (r : Vals vs us)
    (h : ∀ x dx, H x = none → H dx = none → dx ≠ x → sp (.ref x :: (vs ++ dvs)) (upd (upd H dx (.own x)) x (.ins C dx [])) (fun v H2 => v = .non ∧ Q (.ref x) H2) E) :
    wpAny (model X.prog X.w) X.A (call (.ref C) us) (EP X pins σ Q) X.xe s := by
  have hq := h (s.heap.objs.size + 1) s.heap.objs.size (I.hok.fresh (Nat.le_succ _)) (I.hok.fresh (Nat.le_refl _)) (Nat.ne_of_lt (Nat.lt_succ_self _))
  have I2 := Inv.made (C := C) I
  have r2 : Vals (V.ref (s.heap.objs.size + 1) :: (vs ++ dvs)) (Value.ref (s.heap.objs.size + 1) :: (us ++ ds)) := .cons rfl (r.append hd)
  have hl : (Value.ref (s.heap.objs.size + 1) :: us ++ ds).length = ps.length := by
    have e := r2.length
    rw [F.len _ _ _ _ hq] at e
    exact e.symm
  refine wpAny_call (make_map (f := f) I.kIn M.makes M.init (beq_iff_eq.mp M.fn) (codeAny_mono (F.run _ X.stack _ _ ⟨Value.ref (s.heap.objs.size + 1) :: us, []⟩ (Value.ref (s.heap.objs.size + 1) :: (us ++ ds)) _ _ E (hr.make C us [])
    (I2.env0.make C us []) (hb _ (Value.ref (s.heap.objs.size + 1) :: us) I2.kIn hl) r2 hq) fun r s' hq' => ?_))
  cases r with
  | error e => exact hx pins σ _ _ e s' I2 hq'
  | ok fl =>
    cases fl with
    | ret u =>
      obtain ⟨v, H', I3, rv, ev, q3⟩ := I2.after hq'
      subst ev
      exact ⟨rv, ⟨V.ref (s.heap.objs.size + 1), H', I3, rfl, q3⟩⟩
    | next => exact False.elim hq'
    | brk => exact False.elim hq'
    | cont => exact False.elim hq'
theorem pe_make (M : Mk X.K C f) (F : FnOk X.prog X.w X.K X.mg X.base CX k f fd ps sp) (hr : Room (k + 1) X.A) (hg : Gl X x) (hm : X.mg x = some (.ref C)) (hb : Binds X.K fd ps ds) (hd : Vals dvs ds) (hx : Passes CX X E)
    (ha : PA X (e :: es) t) (hdb : (x == ("__debug__" : Str)) = false := by decide) (he : starEach (e :: es) X.env = (false, eval e X.env) :: starEach es X.env := by rfl) (hpl : (backTo pos (starEach es X.env)).any (·.1) = false := by rfl) :
    PE X (.Call (.Name x p) (e :: es) [] pos) (tMake C sp dvs E t) := by
  intro pins s σ H Q I h
  refine wpAny_Call_Name_kw (ld_glob I hg hm ?_ hdb)
  refine PySem.W.callWith_K (h₀ := X.base) I.ok.mod.kin M.kp (thn (ha pos pins s σ H _ I h) fun us s1 ⟨vs, H1, I1, r, q⟩ => ⟨I1.kIn, ?_⟩) he hpl
  exact run_make M F hr hb hd hx I1 r q
end
def PK (X : Cx) (kws : List Keyword) (t : TA) : Prop :=
  ∀ (pos : Pos) (pins : List (Addr × Obj)) (s : Shared) (σ : St) (H : Hp) (Q : List V → Hp → Prop), Inv X pins σ H s → t σ H Q → wpAny (model X.prog X.w) X.A (evalAll ((backToKw pos (keywordEach kws X.env)).map (·.2))) (AP X pins σ Q) X.xe s
section
variable {X : Cx} {CX : CXT} {k : Nat} {f C : Addr} {fd : FuncData} {ps ks : List Str} {sp : Sp} {E : XK} {x m : Str} {p pos apos kpos : Pos} {e o : Expr} {es : List Expr} {kws : List Keyword} {te ta : TE} {t tk : TA} {nm : Option Str}
theorem pk_nil : PK X [] tNil := fun _ _ _ _ H Q I h => wpAny_evalAll_nil ⟨[], H, I, .nil, h⟩
theorem pk_cons (ha : PE X e te) (hr : PK X kws t) : PK X (⟨nm, e, kpos⟩ :: kws) (tCons te t) := by
  intro pos pins s σ H Q I h
  show wpAny _ _ (evalAll ((do let v ← eval e X.env; standAt pos; pure v) :: (backToKw pos (keywordEach kws X.env)).map (·.2))) _ _ s
  refine wpAny_evalAll_cons (wpAny_bind (thn (ha pins s σ H _ I h) fun u s1 ⟨x, H1, I1, r1, q1⟩ => wpAny_bind (wpAny_standAt (wpAny_pure ?_))))
  exact thn (hr pos pins s1 σ H1 _ I1 q1) fun us s2 ⟨xs, H2, I2, r2, q2⟩ => ⟨x :: xs, H2, I2, .cons r1 r2, q2⟩
variable {g : List Value → List Value → List Value} {gV : List V → List V → List V}
end
structure FnScope (N P : List Str) (sc : Scope) : Prop where
  kind : sc.kind = .function
  co : sc.isCoroutine = false
  gen : sc.isGenerator = false
  nd : N.Nodup
  pre : N.take P.length = P
  par : ∀ x ∈ P, sc.names.lookup x = some .local ∨ sc.names.lookup x = some .cell
  nofree : ∀ y ∈ sc.names, y.2 ≠ .free
theorem bindL_out {kindOf : Str → Option NameKind} {x : Str} : ∀ {binds : List (Str × Value)} {m : Str → Option Value}, (∀ v, (x, v) ∉ binds) → bindL kindOf binds m x = m x
  | [], _, _ => rfl
  | (n, v) :: r, m, h => by
    unfold bindL
    rw [bindL_out fun w hw => h w (List.mem_cons_of_mem _ hw)]
    split
    · have : x ≠ n := by rintro rfl; exact h v List.mem_cons_self
      simp [this]
    · rfl
theorem bindC_out {kindOf : Str → Option NameKind} {x : Str} : ∀ {binds : List (Str × Value)} {m : Str → Option Value}, (∀ v, (x, v) ∉ binds) → bindC kindOf binds m x = m x
  | [], _, _ => rfl
  | (n, v) :: r, m, h => by
    unfold bindC
    rw [bindC_out fun w hw => h w (List.mem_cons_of_mem _ hw)]
    split
    · rfl
    · have : x ≠ n := by rintro rfl; exact h v List.mem_cons_self
      simp [this]
theorem bindL_get {kindOf : Str → Option NameKind} {x : Str} {v : Value} : ∀ {P : List Str} {vs : List Value} {i : Nat} {m : Str → Option Value}, P.Nodup → P[i]? = some x → vs[i]? = some v → kindOf x = some .local →
    bindL kindOf (P.zip vs) m x = some v
  | [], _, _, _, _, h, _, _ => by simp at h
  | _ :: _, [], _, _, _, _, h, _ => by simp at h
  | p :: P, w :: vs, 0, m, nd, h1, h2, hk => by
    simp at h1 h2; subst h1; subst h2
    show bindL kindOf ((p, w) :: P.zip vs) m p = _
    unfold bindL
    rw [bindL_out fun v hv => (List.nodup_cons.mp nd).1 (List.of_mem_zip hv).1, if_pos hk]
    simp
  | p :: P, w :: vs, i + 1, m, nd, h1, h2, hk => by
    show bindL kindOf ((p, w) :: P.zip vs) m x = _
    unfold bindL
    exact bindL_get (i := i) (List.nodup_cons.mp nd).2 (by simpa using h1) (by simpa using h2) hk
theorem bindC_get {kindOf : Str → Option NameKind} {x : Str} {v : Value} : ∀ {P : List Str} {vs : List Value} {i : Nat} {m : Str → Option Value}, P.Nodup → P[i]? = some x → vs[i]? = some v → kindOf x ≠ some .local →
    bindC kindOf (P.zip vs) m x = some v
  | [], _, _, _, _, h, _, _ => by simp at h
  | _ :: _, [], _, _, _, _, h, _ => by simp at h
  | p :: P, w :: vs, 0, m, nd, h1, h2, hk => by
    simp at h1 h2; subst h1; subst h2
    show bindC kindOf ((p, w) :: P.zip vs) m p = _
    unfold bindC
    rw [bindC_out fun v hv => (List.nodup_cons.mp nd).1 (List.of_mem_zip hv).1, if_neg hk]
    simp
  | p :: P, w :: vs, i + 1, m, nd, h1, h2, hk => by
    show bindC kindOf ((p, w) :: P.zip vs) m x = _
    unfold bindC
    exact bindC_get (i := i) (List.nodup_cons.mp nd).2 (by simpa using h1) (by simpa using h2) hk
def start (N : List Str) (vs : List V) : St := vs.map some ++ List.replicate (N.length - vs.length) none
def cxOf (CX : CXT) (P : Program) (w : World) (K : PySem.W.Frag) (mg : Str → Option Value) (base : Heap) (N : List Str) (qual : Str) (scope : Scope) (f : Addr) (cd : Value) (A : Around) (outer : List Env) (s : Shared) (H : Hp) (E : XK) : Cx where
  prog := P
  w := w
  K := K
  mg := mg
  base := base
  A := A.deeper (envOfC qual scope s.heap.objs.size f cd)
  N := N
  s_0 := s
  H_0 := H
  env := envOfC qual scope s.heap.objs.size f cd
  outer := outer
  stack := envOfC qual scope s.heap.objs.size f cd :: outer
  ex := []
  calm := true
  fn := fun _ => true
  pn := []
  xe := fun e s' => wpAny (model P w) (A.deeper (envOfC qual scope s.heap.objs.size f cd)) (leaving (envOfC qual scope s.heap.objs.size f cd) e) (fun _ s'' => CX outer H s E e s'') (fun e' s'' => CX outer H s E e' s'') s'
theorem cell_has {sc : Scope} {n : Nat} {x : Str} (h : sc.names.lookup x = some .cell) : ∃ c, (cellsFrom n sc.names []).lookup x = some c := by
  have q := PySem.W.cellsFrom_some sc.names n [] (.inl h)
  exact Option.isSome_iff_exists.mp q
theorem inv_start {CX : CXT} {P : Program} {w : World} {K : PySem.W.Frag} {mg : Str → Option Value} {base : Heap} {N ps : List Str} {qual : Str} {scope : Scope} {f : Addr} {cd : Value} {A : Around} {outer : List Env} {s s1 : Shared} {H : Hp} {E : XK} {us : List Value} {vs : List V}
    (S : FnScope N ps scope) (hd : A.handled = none) (e0 : Env0 P w K mg base A outer s H) (hl : vs.length = ps.length) (r : Vals vs us)
    (x : InCallC s s.heap.objs.size (bindL (envOfC qual scope s.heap.objs.size f cd).kindOf (ps.zip us) fun _ => none) (cellsFrom (s.heap.objs.size + 1) scope.names []) (bindC (envOfC qual scope s.heap.objs.size f cd).kindOf (ps.zip us) fun _ => none) s1) :
    Inv (cxOf CX P w K mg base N qual scope f cd A outer s H E) [] (start N vs) H s1 := by
  have hpl : ps.length ≤ N.length := by have := congrArg List.length S.pre; rw [List.length_take] at this; omega
  obtain ⟨h1, tk, rfl, hk⟩ := x.done
  have noA : ∀ b : Addr, b ∉ (cxOf CX P w K mg base N qual scope f cd A outer s H E).ex := fun b z => absurd (show b ∈ ([] : List Addr) from z) (by simp)
  refine ⟨⟨e0.mod, S.kind, rfl, rfl, Nat.le_refl _, fun y z c h1 h2 => ?_, fun y hy => ?_, fun y c _ h => ?_, fun _ => hd, Around.frames_deeper e0.frames, .inr ⟨rfl, rfl⟩, fun b z => absurd z (noA b), e0.bs, e0.bsz, fun b _ _ => noA b, fun b z => absurd z (noA b), e0.funs, e0.frf⟩,
    rfl, e0.bare, Un.kept hk, ⟨_, x.toInCall.ns, fun i y v h1 h2 h3 => ?_⟩, fun y c h => ⟨_, x.cell y c h⟩, e0.hok.fresh (Nat.le_refl _), fun y c h => ?_, fun p hp => absurd (show p ∈ ([] : List (Addr × Obj)) from hp) (by simp), e0.hok.kept hk, ?_⟩
  · exact name_of_addr x.apart (PySem.mem_of_lookup h1) (PySem.mem_of_lookup h2)
  · have hy : scope.names.lookup y = some .cell ∨ scope.names.lookup y = some .free := hy
    rcases hy with hy | hy
    · exact cell_has hy
    · exact absurd rfl (S.nofree _ (PySem.mem_of_lookup hy))
  · exact Nat.le_of_lt (x.above y c (PySem.mem_of_lookup h))
  · have hi : i < vs.length := by
      unfold start at h2
      by_cases hi : i < vs.length
      · exact hi
      · rw [List.getElem?_append_right (by simpa using hi)] at h2
        rw [List.getElem?_replicate] at h2
        split at h2 <;> cases h2
    have ha : vs[i]? = some v := by
      unfold start at h2
      rw [List.getElem?_append_left (by simpa using hi), List.getElem?_map] at h2
      cases e : vs[i]? with
      | none => rw [e] at h2; cases h2
      | some a => rw [e] at h2; cases h2; rfl
    obtain ⟨u, hu, rv⟩ := r.get ha
    have hp : ps[i]? = some y := by
      rw [← S.pre, List.getElem?_take_of_lt (by omega)]; exact h1
    have ndP : ps.Nodup := by rw [← S.pre]; exact S.nd.sublist (List.take_sublist _ _)
    refine ⟨u, rv, ?_⟩
    rcases S.par y (List.mem_of_getElem? hp) with k | k
    · exact .inl ⟨k, bindL_get ndP hp hu k⟩
    · obtain ⟨c, e⟩ := cell_has (n := s.heap.objs.size + 1) k
      refine .inr ⟨.inl k, c, e, ?_⟩
      have q := x.cell y c e
      rw [bindC_get ndP hp hu (by show scope.names.lookup y ≠ _; rw [k]; decide)] at q
      exact q
  · exact e0.hok.fresh (Nat.le_of_lt (x.above y c (PySem.mem_of_lookup h)))
  · unfold start
    show _ = N.length
    rw [List.length_append, List.length_map, List.length_replicate]
    omega
theorem fn_of {CX : CXT} {P : Program} {w : World} {K : PySem.W.Frag} {mg : Str → Option Value} {base : Heap} {k : Nat} {f : Addr} {name qual : Str} {params : Arguments} {body : List Stmt} {scope : Scope} {dV kV doc pm cdv ct oc : Value} {an od : Option Addr}
    {osl : Array (Option Value)} {N ps : List Str} {sp : Sp} (lk : K.lookup f = some ⟨oc, od, .func (PySem.W.fnOf name qual params body scope dV kV doc pm an cdv ct), osl⟩) (hcd : PySem.W.codeIn K cdv qual = true) (S : FnScope N ps scope)
    (len : ∀ vs H Q E, sp vs H Q E → vs.length = ps.length)
    (hbody : ∀ (A : Around) (outer : List Env) (s : Shared) (H : Hp) (vs : List V) (Q : VK) (E : XK), Room k (A.deeper (envOfC qual scope s.heap.objs.size f cdv)) → sp vs H Q E →
      ∃ t, PSs (cxOf CX P w K mg base N qual scope f cdv A outer s H E) body t ∧ t { nx := fun _ H' => Q .non H', rt := Q } (start N vs) H) :
    FnOk P w K mg base CX (k + 1) f (PySem.W.fnOf name qual params body scope dV kV doc pm an cdv ct) ps sp := by
  refine ⟨len, fun A outer s H args us vs Q E hr e0 hb r hsp => ?_⟩
  have hl := len _ _ _ _ hsp
  have KX : K.In s.heap := e0.mod.kin.keeps fun b o e => (e0.bs b o e).1
  have lim : s.heap.NoLimit := e0.mod.nolimit.keeps fun b o e => (e0.bs b o e).1
  have hkind : ∀ y ∈ ps.zip us, scope.names.lookup y.1 = some .local ∨ (scope.names.lookup y.1 = some .cell ∧ ((cellsFrom (s.heap.objs.size + 1) scope.names []).lookup y.1).isSome = true) := fun ⟨n, v⟩ hy => by
    rcases S.par n (List.of_mem_zip hy).1 with q | q
    · exact .inl q
    · exact .inr ⟨q, PySem.W.cellsFrom_some _ _ _ (.inl q)⟩
  refine codeAny_call_function hr.depth (KX _ _ lk) rfl S.co S.gen rfl (PySem.W.codeRec_of KX hcd) (hb _ _ _ _ ?_)
  refine wpAny_newFunctionEnv_cells S.kind hkind fun env he s1 x => ?_
  subst he
  refine ⟨lim.keeps x.toInCall.keep, codeAny_func ?_⟩
  obtain ⟨t, ht, hq⟩ := hbody A outer s H vs Q E (hr.deeper _) hsp
  have I : Inv (cxOf CX P w K mg base N qual scope f cdv A outer s H E) [] (start N vs) H s1 := inv_start S hr.hd e0 hl r x
  refine wpAny_mono (ht [] s1 (start N vs) H _ I hq) (fun fl s' hs => ?_) fun e s' hs => hs
  have fin : ∀ {σ' : St} {H' : Hp} {v : V} {u : Value}, Inv (cxOf CX P w K mg base N qual scope f cdv A outer s H E) [] σ' H' s' → RelV v u → Q v H' → CE outer P w H s Q u s' :=
    fun {σ' H' v u} J rv q => ⟨v, H', J.os, J.bare, J.base, J.hok, rv, q⟩
  cases fl with
  | ret u =>
    obtain ⟨v, σ', H', J, rv, q⟩ := hs
    exact fin J rv q
  | next =>
    obtain ⟨σ', H', J, q⟩ := hs
    exact fin (v := V.non) (u := Value.none) J rfl q
  | brk =>
    obtain ⟨_, _, _, q⟩ := hs
    exact False.elim q
  | cont =>
    obtain ⟨_, _, _, q⟩ := hs
    exact False.elim q
end L2
namespace L2
open PySem PySem.Spec PyProof.Rows
section
variable {X : Cx} {x : Str} {p pos : Pos} {e : Expr} {es : List Expr} {t : TA} {id T : String} {r : List V → Hp → VK → Prop}
def tCB (r : List V → Hp → VK → Prop) (t : TA) : TE := fun σ H Q => t σ H fun vs H1 => r vs H1 Q
theorem pe_callB (hc : CallR X (.builtin id) r) (hg : Gl X x) (hm : X.mg x = none) (hv : bootBuiltins x = some (.builtin id)) (ha : PA X (e :: es) t) (hn : x ≠ "__name__" := by decide) (hdb : (x == ("__debug__" : Str)) = false := by decide)
    (he : starEach (e :: es) X.env = (false, eval e X.env) :: starEach es X.env := by rfl) (hpl : (backTo pos (starEach es X.env)).any (·.1) = false := by rfl) : PE X (.Call (.Name x p) (e :: es) [] pos) (tCB r t) := by
  intro pins s σ H Q I h
  refine wpAny_Call_Name_kw (ld_blt I hg hm hv ?_ hn hdb)
  exact PyProof.Rows.callWith_builtin1 (thn (ha pos pins s σ H _ I h) fun us s1 ⟨vs, H1, I1, r1, q1⟩ => hc pins s1 σ H1 vs us Q I1 r1 q1) he hpl
theorem pe_callTy (hc : CallR X (.type T) r) (hg : Gl X x) (hm : X.mg x = none) (hv : bootBuiltins x = some (.type T)) (ha : PA X (e :: es) t) (hn : x ≠ "__name__" := by decide) (hdb : (x == ("__debug__" : Str)) = false := by decide)
    (he : starEach (e :: es) X.env = (false, eval e X.env) :: starEach es X.env := by rfl) (hpl : (backTo pos (starEach es X.env)).any (·.1) = false := by rfl) : PE X (.Call (.Name x p) (e :: es) [] pos) (tCB r t) := by
  intro pins s σ H Q I h
  refine wpAny_Call_Name_kw (ld_blt I hg hm hv ?_ hn hdb)
  exact PyProof.Rows.callWith_type1 (thn (ha pos pins s σ H _ I h) fun us s1 ⟨vs, H1, I1, r1, q1⟩ => hc pins s1 σ H1 vs us Q I1 r1 q1) he hpl
end
end L2
namespace HT
open PySem PyProof.Rows
section
variable {prog : Program} {w : World} {A : Around} {E : Value → Shared → Prop} {s : Shared}
def sIx (n d : Nat) : Option Int → Nat
  | none => d
  | some v => if v < 0 then (v + (n : Int)).toNat else min v.toNat n
theorem sIx_none (n d : Nat) : sIx n d none = d := rfl
theorem sIx_nat (n d k : Nat) : sIx n d (some (k : Int)) = min k n := by
  show (if (k : Int) < 0 then ((k : Int) + (n : Int)).toNat else min (k : Int).toNat n) = min k n
  rw [if_neg (by omega), Int.toNat_natCast]
end
end HT
namespace L2
open PySem PySem.Spec PyProof.Rows
abbrev TO := St → Hp → (Option Int → Hp → Prop) → Prop
def PO (X : Cx) (e : Option Expr) (t : TO) : Prop :=
  ∀ (pins : List (Addr × Obj)) (s : Shared) (σ : St) (H : Hp) (Q : Option Int → Hp → Prop), Inv X pins σ H s → t σ H Q →
    wpAny (model X.prog X.w) X.A (evalPart e X.env) (fun u s' => ∃ o H', Inv X pins σ H' s' ∧ IsPart u o ∧ Q o H') X.xe s
def tNoPart : TO := fun _ H Q => Q none H
def tPart (t : TE) : TO := fun σ H Q => t σ H fun x H1 => ∃ i, x = .int i ∧ Q (some i) H1
section
variable {X : Cx} {e : Expr} {te : TE} {lo hi : Option Expr} {tl th : TO} {pos p2 : Pos}
theorem po_none : PO X none tNoPart := by
  intro pins s σ H Q I h
  rw [evalPart_none]
  exact wpAny_pure ⟨none, H, I, .none, h⟩
theorem po_some (h : PE X e te) : PO X (some e) (tPart te) := by
  intro pins s σ H Q I hw
  rw [evalPart_some]
  refine thn (h pins s σ H _ I hw) fun u s1 ⟨x, H1, I1, r1, q1⟩ => ?_
  obtain ⟨i, rfl, q⟩ := q1
  obtain ⟨t, rfl⟩ := r1
  exact ⟨some i, H1, I1, .int i t, q⟩
def SlR (X : Cx) (r : V → Option Int → Option Int → Hp → VK → Prop) : Prop :=
  ∀ (pins : List (Addr × Obj)) (s : Shared) (σ : St) (H : Hp) (x : V) (v vl vu : Value) (lo hi : Option Int) (sl : Addr) (Q : VK), Inv X pins σ H s → RelV x v → s.heap.IsSliceOf sl vl vu .none → IsPart vl lo → IsPart vu hi → r x lo hi H Q →
    ∃ T id, typeLookup (.type T) "__getitem__" = pure (some (.builtin id)) ∧ s.TypeIs v T ∧ wpAny (model X.prog X.w) X.A (getItem v (.ref sl)) (EP X pins σ Q) X.xe s
def tSl (r : V → Option Int → Option Int → Hp → VK → Prop) (te : TE) (tl th : TO) : TE := fun σ H Q => te σ H fun x H1 => tl σ H1 fun l H2 => th σ H2 fun u H3 => r x l u H3 Q
theorem pe_slice {r : V → Option Int → Option Int → Hp → VK → Prop} (hr : SlR X r) (he : PE X e te) (hl : PO X lo tl) (hu : PO X hi th) : PE X (.Subscript e (.Slice lo hi none p2) pos) (tSl r te tl th) := by
  intro pins s σ H Q I h
  refine Subscript_ (thn (he pins s σ H _ I h) fun v s1 ⟨x, H1, I1, r1, q1⟩ => ?_)
  refine wpAny_Slice (thn (hl pins s1 σ H1 _ I1 q1) fun vl s2 ⟨l, H2, I2, pl, q2⟩ => thn (hu pins s2 σ H2 _ I2 q2) fun vu s3 ⟨u, H3, I3, pu, q3⟩ => ?_)
  rw [evalPart_none]
  refine wpAny_pure ?_
  have I4 : Inv X pins σ H3 { s3 with heap := s3.heap.push { cls := .type "slice", data := .fields #[vl, vu, .none] } } := I3.kept (t' := s3.toks) fun b ob q => Heap.get?_push_of_some _ q
  obtain ⟨T, id, hT, ht, hg⟩ := hr pins { s3 with heap := s3.heap.push { cls := .type "slice", data := .fields #[vl, vu, .none] } } σ H3 x v vl vu l u s3.heap.objs.size Q I4 r1 (Heap.IsSliceOf.new ..) pl pu q3
  show wpAny (model X.prog X.w) X.A (subscriptTail e (.Slice lo hi none p2) v (.ref s3.heap.objs.size)) (EP X pins σ Q) X.xe { s3 with heap := s3.heap.push { cls := .type "slice", data := .fields #[vl, vu, .none] } }
  exact tail_any (ops := [.ref s3.heap.objs.size, v]) ht hT hg (by with_unfolding_all rfl)
def cutV (xs : List V) (lo hi : Option Int) : List V := (xs.drop (HT.sIx xs.length 0 lo)).take (HT.sIx xs.length xs.length hi - HT.sIx xs.length 0 lo)
theorem cutV_length (xs : List V) (lo hi : Option Int) : (cutV xs lo hi).length ≤ xs.length := by
  unfold cutV
  rw [List.length_take, List.length_drop]
  omega
end
end L2
namespace L2
open PySem PySem.Spec PyProof.Rows
def ixN (n : Nat) (i : Int) : Option Nat := if 0 ≤ i then (if i < n then some i.toNat else none) else if -(n : Int) ≤ i then some (i + n).toNat else none
def atI {α : Type} (xs : List α) (i : Int) : Option α := (ixN xs.length i).bind fun j => xs[j]?
theorem ixN_seq {n : Nat} {i : Int} {j : Nat} (h : ixN n i = some j) : seqIndex? i n = some j ∧ j < n ∧ -(n : Int) ≤ i ∧ i < n := by
  unfold ixN at h
  by_cases h0 : 0 ≤ i
  · rw [if_pos h0] at h
    by_cases h1 : i < n
    · rw [if_pos h1] at h
      have e : i.toNat = j := Option.some.inj h
      exact ⟨by rw [seqIndex_of h0 h1, e], by omega, by omega, h1⟩
    · rw [if_neg h1] at h; cases h
  · rw [if_neg h0] at h
    by_cases h1 : -(n : Int) ≤ i
    · rw [if_pos h1] at h
      have e : (i + n).toNat = j := Option.some.inj h
      exact ⟨by rw [seqIndex_neg (by omega) h1, e], by omega, h1, by omega⟩
    · rw [if_neg h1] at h; cases h
theorem atI_get {α : Type} {xs : List α} {i : Int} {v : α} (h : atI xs i = some v) : ∃ j, seqIndex? i xs.length = some j ∧ xs[j]? = some v ∧ j < xs.length ∧ -(xs.length : Int) ≤ i ∧ i < xs.length := by
  unfold atI at h
  cases e : ixN xs.length i with
  | none => rw [e] at h; cases h
  | some j =>
    rw [e] at h
    obtain ⟨h1, h2, h3, h4⟩ := ixN_seq e
    exact ⟨j, h1, h, h2, h3, h4⟩
theorem atI_nat {α : Type} {xs : List α} {j : Nat} {v : α} (h : xs[j]? = some v) : atI xs (j : Int) = some v := by
  have hj : j < xs.length := (List.getElem?_eq_some_iff.mp h).1
  have e : ixN xs.length (j : Int) = some j := by
    unfold ixN
    rw [if_pos (by omega), if_pos (by omega)]; simp
  unfold atI; rw [e]; exact h
def PlainIx (b : Expr) : Prop := ∀ o i, subscripted b false o i = operate [o, i] (getItem o i)
def IxR (X : Cx) (r : R2) : Prop :=
  ∀ (value slice : Expr) (pins : List (Addr × Obj)) (s : Shared) (σ : St) (H : Hp) (x y : V) (v u : Value) (Q : VK), Inv X pins σ H s → RelV x v → RelV y u → r x y H Q →
    subscripted slice false v u = operate [v, u] (getItem v u) → wpAny (model X.prog X.w) X.A (subscriptTail value slice v u) (EP X pins σ Q) X.xe s
def MtR (X : Cx) (id : String) (r : V → List V → Hp → VK → Prop) : Prop :=
  ∀ (pins : List (Addr × Obj)) (s : Shared) (σ : St) (H : Hp) (x : V) (xs : List V) (v : Value) (us : List Value) (Q : VK), Inv X pins σ H s → RelV x v → Vals xs us → r x xs H Q →
    wpAny (model X.prog X.w) X.A (call (.builtin id) (v :: us)) (EP X pins σ Q) X.xe s
section
variable {X : Cx} {a b : Expr} {ta tb : TE} {pos : Pos}
theorem pe_ix {r : R2} (hr : IxR X r) (ha : PE X a ta) (hb : PE X b tb) (hs : PlainIx b) : PE X (.Subscript a b pos) (tOp r ta tb) := by
  intro pins s σ H Q I h
  exact Subscript_ (binT ha hb I h fun v u s2 x y H2 I2 rx ry q => hr a b pins s2 σ H2 x y v u Q I2 rx ry q (hs _ _))
def rIxL (K : PySem.W.Frag) : R2 := fun x y H Q => ∃ p xs i v, x = .ref p ∧ y = .int i ∧ SqL K H p xs ∧ atI xs i = some v ∧ Q v H
theorem ix_list : IxR X (rIxL X.K) := by
  intro value slice pins s σ H x y v u Q I rx ry h hs
  obtain ⟨p, xs, i, z, rfl, rfl, hq, he, q⟩ := h
  cases rx
  obtain ⟨t, rfl⟩ := ry
  obtain ⟨its, r, pl, hz⟩ := I.list hq
  obtain ⟨j, h1, h2, h3, h4, h5⟩ := atI_get he
  obtain ⟨w, ew, rw'⟩ := r.get h2
  have hl := r.length
  have hn := line63
  have fin : EP X pins σ Q w s := ⟨z, H, I, rw', q⟩
  by_cases h0 : 0 ≤ i
  · have hj : i.toNat = j := by
      rw [seqIndex_of h0 h5] at h1
      exact Option.some.inj h1
    exact item_listR pl.isList h0 (by omega) (by rw [hj]; simpa using ew) fin hs
  · have hj : (i + (its.toArray.size : Int)).toNat = j := by
      rw [seqIndex_neg (by omega) h4] at h1
      rw [List.size_toArray, ← hl]
      exact Option.some.inj h1
    exact subscriptTail_builtinR (x := w) pl.isList.typeIs slot_list_getitem.lookup
      (wpAny_getItem_list_neg (Q := fun r s' => r = w ∧ EP X pins σ Q r s') pl.isList (by omega) (by rw [List.size_toArray] <;> omega) (by omega) (by rw [hj]; simpa using ew) ⟨rfl, fin⟩) hs
theorem slice_bounds (lo hi : Option Int) (n : Nat) : (sliceBounds lo hi none n).1 = ((HT.sIx n 0 lo : Nat) : Int) ∧ (sliceBounds lo hi none n).2.1 = ((HT.sIx n n hi : Nat) : Int) ∧ (sliceBounds lo hi none n).2.2 = 1 := by
  refine ⟨?_, ?_, rfl⟩
  · cases lo with
    | none => simp [sliceBounds, HT.sIx]
    | some i =>
      simp only [sliceBounds, HT.sIx, Option.getD_none, show (1 : Int) > 0 by decide, if_true]
      by_cases h : i < 0
      · simp only [h, if_true] <;> omega
      · simp only [h, if_false] <;> omega
  · cases hi with
    | none => simp [sliceBounds, HT.sIx]
    | some i =>
      simp only [sliceBounds, HT.sIx, Option.getD_none, show (1 : Int) > 0 by decide, if_true]
      by_cases h : i < 0
      · simp only [h, if_true] <;> omega
      · simp only [h, if_false] <;> omega
theorem slicePick_cut (its : List Value) (lo hi : Option Int) : slicePick its.toArray lo hi none = ((its.drop (HT.sIx its.length 0 lo)).take (HT.sIx its.length its.length hi - HT.sIx its.length 0 lo)).toArray := by
  obtain ⟨h1, h2, h3⟩ := slice_bounds lo hi its.toArray.size
  unfold slicePick
  rw [h1, h2, h3]
  simp only [sliceRange_one, pick_run, List.size_toArray] <;> rfl
def rSlL (K : PySem.W.Frag) : V → Option Int → Option Int → Hp → VK → Prop := fun x lo hi H Q => ∃ a xs, x = .ref a ∧ SqL K H a xs ∧ ∀ p, H p = none → Q (.ref p) (upd H p (.lst (cutV xs lo hi)))
theorem sl_list : SlR X (rSlL X.K) := by
  intro pins s σ H x v vl vu lo hi sl Q I rx hs pl pu h
  obtain ⟨a, xs, rfl, hx, q⟩ := h
  cases rx
  obtain ⟨its, r, ht, hz⟩ := I.list hx
  have hlen := r.length
  refine ⟨"list", _, slot_list_getitem.lookup, ht.isList.typeIs, ?_⟩
  refine wpAny_getItem_list_slice ht.isList hs pl pu .none (by simp) ?_ (by rw [List.size_toArray] <;> omega)
  rw [slicePick_cut, ← hlen]
  refine ⟨.ref s.heap.objs.size, _, I.laid (t' := s.toks) (o := .lst (cutV xs lo hi)) (fun b ob q => Heap.get?_push_of_some _ q) (Nat.le_refl _) ?_, rfl, q _ (I.hok.fresh (Nat.le_refl _))⟩
  exact ⟨Nat.le_trans (cutV_length xs lo hi) hz, _, 0, (r.drop (HT.sIx xs.length 0 lo)).take (HT.sIx xs.length xs.length hi - HT.sIx xs.length 0 lo), Heap.get?_push_size _ rfl⟩
theorem call_len_seq : CallR X (.builtin "len") (fun xs H Q => ∃ p ys, xs = [.ref p] ∧ (SqL X.K H p ys ∨ SqT X.K H p ys) ∧ Q (.int ys.length) H) := by
  intro pins s σ H xs us Q I r h
  obtain ⟨p, ys, rfl, hq, q⟩ := h
  obtain ⟨u, rfl, rx⟩ := vals1 r
  cases rx
  have hn := line63
  rcases hq with hq | hq
  · obtain ⟨its, r', pl, hz⟩ := I.list hq
    have hlen := r'.length
    exact Calls.call_len_list pl.isList (by simp only [List.size_toArray] <;> omega) ⟨.int ys.length, H, I.tok _, ⟨s.toks + 1, by rw [List.size_toArray, hlen]⟩, q⟩
  · obtain ⟨its, r', pl, hz⟩ := I.tuple hq
    have hlen := r'.length
    exact len_tuple pl (by simp only [List.size_toArray] <;> omega) ⟨.int ys.length, H, I.tok _, ⟨s.toks + 1, by rw [List.size_toArray, hlen]⟩, q⟩
theorem call_list_of : CallR X (.type "list") (fun xs H Q => ∃ p ys, xs = [.ref p] ∧ (SqL X.K H p ys ∨ SqT X.K H p ys) ∧ ∀ l, H l = none → Q (.ref l) (upd H l (.lst ys))) := by
  intro pins s σ H xs us Q I r h
  obtain ⟨p, ys, rfl, hq, q⟩ := h
  obtain ⟨u, rfl, rx⟩ := vals1 r
  cases rx
  have fin : ∀ (its : List Value), Vals ys its → ys.length ≤ sizeLine → ∀ (h' : Heap) (c' : Nat), (∀ b o', s.heap.get? b = some o' → h'.get? b = some o') →
      h'.get? s.heap.objs.size = some { cls := .type "list", dict := none, data := .seq its.toArray c', slots := #[] } → EP X pins σ Q (.ref s.heap.objs.size) { s with heap := h' } := fun its r' hz h' c' kp e =>
    ⟨.ref s.heap.objs.size, _, I.laid (t' := s.toks) kp (Nat.le_refl _) (show ObjOk X.prog X.w _ h' _ (.lst ys) from ⟨hz, its, c', r', e⟩), rfl, q _ (I.hok.fresh (Nat.le_refl _))⟩
  rcases hq with hq | hq
  · obtain ⟨its, r', pl, hz⟩ := I.list hq
    have hlen := r'.length
    obtain ⟨o, ho, hc, n, hd⟩ := pl.isList
    exact call_list_seq p (.inl rfl) ho hc hd (fun h' c' kp e => fin its r' hz h' c' kp e) (by simp only [List.size_toArray] <;> omega)
  · obtain ⟨its, r', pl, hz⟩ := I.tuple hq
    have hlen := r'.length
    obtain ⟨o, ho, hc, n, hd⟩ := pl
    exact call_list_seq p (.inr rfl) ho hc hd (fun h' c' kp e => fin its r' hz h' c' kp e) (by simp only [List.size_toArray] <;> omega)
def tyV (K : PySem.W.Frag) (T : String) (x : V) (H : Hp) : Prop := match x with
  | .str _ => T = "str"
  | .int _ => T = "int"
  | .ref p => (T = "list" ∧ ∃ xs, SqL K H p xs) ∨ (T = "tuple" ∧ ∃ o, K.lookup p = some o ∧ o.cls = .type "tuple" ∧ o.dict = none) ∨
      (T = "dict" ∧ ((∃ kvs, H p = some (.dK kvs)) ∨ ∃ kvs, H p = some (.dT kvs))) ∨ (T = "set" ∧ ∃ S n, H p = some (.set S n))
  | _ => False
theorem tyV_is {pins : List (Addr × Obj)} {σ : St} {H : Hp} {s : Shared} {T : String} {x : V} {v : Value} (I : Inv X pins σ H s) (r : RelV x v) (ty : tyV X.K T x H) :
    s.TypeIs v T ∧ ∀ a, v = .ref a → ∃ ob, s.heap.get? a = some ob ∧ ob.dict = none := by
  cases x with
  | str z =>
    obtain ⟨t, rfl⟩ := r
    cases (show T = "str" from ty)
    exact ⟨typeIs_str s z t, fun _ e => nomatch e⟩
  | int i =>
    obtain ⟨t, rfl⟩ := r
    cases (show T = "int" from ty)
    exact ⟨typeIs_int s i t, fun _ e => nomatch e⟩
  | ref p =>
    cases r
    rcases ty with ⟨rfl, xs, hq⟩ | ⟨rfl, o, hk, hc, hd⟩ | ⟨rfl, hk⟩ | ⟨rfl, S, n, hk⟩
    · obtain ⟨its, _, pl, _⟩ := I.list hq
      refine ⟨pl.isList.typeIs, fun a e => ?_⟩
      cases e
      obtain ⟨o, n, e, c, hd, _⟩ := pl
      exact ⟨o, e, hd⟩
    · refine ⟨⟨o, I.kIn p o hk, hc⟩, fun a e => ?_⟩
      cases e
      exact ⟨o, I.kIn _ o hk, hd⟩
    · have z : ∃ o, s.heap.get? p = some o ∧ o.ExactDict := by
        rcases hk with ⟨kvs, hk⟩ | ⟨kvs, hk⟩
        · obtain ⟨_, _, _, _, o, _, _, e, ex, _⟩ := I.hok p _ hk
          exact ⟨o, e, ex⟩
        · obtain ⟨_, _, _, _, o, _, _, e, ex, _⟩ := I.hok p _ hk
          exact ⟨o, e, ex⟩
      obtain ⟨o, e, ex⟩ := z
      refine ⟨⟨o, e, ex.1⟩, fun a e2 => ?_⟩
      cases e2
      exact ⟨o, e, ex.2.1⟩
    · obtain ⟨o, _, _, _, e, ex, _⟩ := I.hok p _ hk
      refine ⟨⟨o, e, ex.1⟩, fun a e2 => ?_⟩
      cases e2
      exact ⟨o, e, ex.2.1⟩
  | _ => exact False.elim ty
def tBM (K : PySem.W.Frag) (T : String) (r : V → List V → Hp → VK → Prop) (to : TE) (t : TA) : TE := fun σ H Q => to σ H fun x H1 => tyV K T x H1 ∧ t σ H1 fun xs H2 => r x xs H2 Q
variable {o e : Expr} {es : List Expr} {to : TE} {t : TA} {name : Str} {apos cpos : Pos} {T id : String} {r : V → List V → Hp → VK → Prop}
theorem pe_bm (pa : PlainAttrs T) (slot : Slot T name id) (hty : typeOf (.builtin id) = pure (.type "method_descriptor")) (hm : MtR X id r) (ho : PE X o to) (ha : PA X (e :: es) t)
    (hbase : attributeBase o name X.env (eval o X.env) = eval o X.env := by rfl)
    (hfew : ((backTo cpos (starEach (e :: es) X.env)).all (fun x => !x.1) && (backToKw cpos (keywordEach [] X.env)).all (fun x => x.1.isSome)
      && decide ((e :: es).length + ([] : List Keyword).length + (if ([] : List Keyword).isEmpty then 0 else 1) < 30)) = true := by rfl)
    (hline : (apos.endLine == cpos.line) = true := by rfl) (hs : starEach (e :: es) X.env = (false, eval e X.env) :: starEach es X.env := by rfl) (hplain : (backTo cpos (starEach es X.env)).any (·.1) = false := by rfl) :
    PE X (.Call (.Attribute o name apos) (e :: es) [] cpos) (tBM X.K T r to t) := by
  intro pins s σ H Q I h
  refine wpAny_Call_method_late hbase hfew hline rfl (thn (ho pins s σ H _ I h) fun v s1 ⟨x, H1, I1, r1, ty, q1⟩ => ?_)
  obtain ⟨h1, h2⟩ := tyV_is I1 r1 ty
  refine ⟨T, id, pa, slot, hty, h1, h2, ?_⟩
  have hA := ha cpos pins s1 σ H1 _ I1 q1
  rw [hs] at hA ⊢
  refine Calls.callWith_builtin (by show (false || (backTo cpos (starEach es X.env)).any (·.1)) = false; rw [hplain] <;> rfl) (Calls.evalArgs_plain ?_)
  exact thn hA fun us s2 ⟨vs, H2, I2, r2, q2⟩ => hm pins s2 σ H2 x vs v us Q I2 r1 r2 q2
end
end L2
namespace L2
open PySem PySem.Spec PyProof.Rows
def MtM (X : Cx) (id : String) (r : V → List V → Hp → VK → Prop) : Prop :=
  ∀ (pins : List (Addr × Obj)) (s : Shared) (σ : St) (H : Hp) (x : V) (xs : List V) (v : Value) (us : List Value) (Q : VK), Inv X pins σ H s → RelV x v → Vals xs us → r x xs H Q →
    wpAny (model X.prog X.w) X.A (call (.builtin id) (v :: us)) (EP X pins σ Q) X.xe s
theorem Vals.one : ∀ {x : V} {us : List Value}, Vals [x] us → ∃ u, us = [u] ∧ RelV x u
  | _, _, .cons r .nil => ⟨_, rfl, r⟩
theorem Vals.eraseIdx : ∀ {xs : List V} {us : List Value} (i : Nat), Vals xs us → Vals (xs.eraseIdx i) (us.eraseIdx i)
  | _, _, _, .nil => .nil
  | _, _, 0, .cons _ t => t
  | _, _, i + 1, .cons r t => .cons r (Vals.eraseIdx i t)
theorem len_erase {α : Type} : ∀ (l : List α) (i : Nat), (l.eraseIdx i).length ≤ l.length
  | [], _ => Nat.le_refl _
  | _ :: _, 0 => Nat.le_succ _
  | _ :: r, i + 1 => Nat.succ_le_succ (len_erase r i)
section
variable {X : Cx} {pins : List (Addr × Obj)} {σ : St} {H : Hp} {s : Shared} {l b : Addr} {xs ys zs : List V}
theorem Inv.lset {its its' : List Value} {n : Nat} {f : Array Value → Array Value} {t' : Nat} (I : Inv X pins σ H s) (hH : H l = some (.lst xs))
    (e : s.heap.get? l = some { cls := .type "list", data := .seq its.toArray n }) (hf : f its.toArray = its'.toArray) (hv : Vals ys its') (hz : ys.length ≤ sizeLine) :
    Inv X pins σ (upd H l (.lst ys)) { s with heap := s.heap.update l (Obj.mapSeq f), toks := t' } := by
  have q := PySem.IsL.update e f
  rw [hf] at q
  refine I.write (x := l) (e := l) (by rw [hH]; exact trivial) (.inl rfl) (fun b' u hb hu => (Heap.get?_update_other s.heap (Obj.mapSeq f) (Ne.symm hb)).trans hu) ⟨_, q⟩ ?_
  exact ⟨hz, its', _, hv, q⟩
theorem Inv.lnew {its : List Value} {t' : Nat} (I : Inv X pins σ H s) (hv : Vals ys its) (hz : ys.length ≤ sizeLine) :
    Inv X pins σ (upd H s.heap.objs.size (.lst ys)) { s with heap := s.heap.push { cls := .type "list", data := .seq its.toArray }, toks := t' } :=
  I.laid (fun _ _ q => Heap.get?_push_of_some _ q) (Nat.le_refl _) ⟨hz, its, 0, hv, Heap.get?_push_size _ rfl⟩
theorem Inv.fresh (I : Inv X pins σ H s) : H s.heap.objs.size = none := I.hok.fresh (Nat.le_refl _)
theorem Inv.lstM (I : Inv X pins σ H s) (hH : H l = some (.lst xs)) : xs.length ≤ sizeLine ∧ ∃ (its : List Value) (n : Nat), Vals xs its ∧ xs.length = its.length ∧ s.heap.get? l = some { cls := .type "list", data := .seq its.toArray n } := by
  obtain ⟨z, its, n, r, e⟩ := I.hok l _ hH
  exact ⟨z, its, n, r, r.length, e⟩
theorem notLongL {n : Nat} (h : n ≤ sizeLine) : Builtin.List.listTooLong n = false := by
  unfold Builtin.List.listTooLong
  exact decide_eq_false (by omega)
end
section
variable {X : Cx}
def rAppend : V → List V → Hp → VK → Prop := fun x vs H Q => ∃ l xs y, x = .ref l ∧ vs = [y] ∧ H l = some (.lst xs) ∧ xs.length < sizeLine ∧ Q .non (upd H l (.lst (xs ++ [y])))
theorem mt_append : MtM X "list.append" rAppend := by
  intro pins s σ H x vs v us Q I rx rv h
  obtain ⟨l, xs, y, rfl, rfl, hH, hz, q⟩ := h
  cases rx
  obtain ⟨u, rfl, ru⟩ := rv.one
  obtain ⟨z, its, n, r, hl, e⟩ := I.lstM hH
  refine call_meets F.slot_list_append ⟨_, e, rfl⟩ F.entry_list_append (F.args_list_append_2 _ _) (PySem.list_append l its.toArray n u (by rw [List.size_toArray]; omega)) ⟨e, ?_⟩
  refine ⟨.non, _, I.lset (its' := its ++ [u]) hH e (by simp) (r.append (.cons ru .nil)) ?_, rfl, q⟩
  rw [List.length_append, List.length_singleton]
  omega
def rExtend : V → List V → Hp → VK → Prop := fun x vs H Q => ∃ l b xs zs, x = .ref l ∧ vs = [.ref b] ∧ H l = some (.lst xs) ∧ H b = some (.lst zs) ∧ xs.length + zs.length ≤ sizeLine ∧ Q .non (upd H l (.lst (xs ++ zs)))
theorem mt_extend : MtM X "list.extend" rExtend := by
  intro pins s σ H x vs v us Q I rx rv h
  obtain ⟨l, b, xs, zs, rfl, rfl, hH, hB, hz, q⟩ := h
  cases rx
  obtain ⟨u, rfl, ru⟩ := rv.one
  cases ru
  obtain ⟨z, its, n, r, hl, e⟩ := I.lstM hH
  obtain ⟨z2, its2, n2, r2, hl2, e2⟩ := I.lstM hB
  have hsz : its.toArray.size + its2.toArray.size ≤ sizeLine := by rw [List.size_toArray, List.size_toArray]; omega
  have hlong : ¬ (!its.toArray.isEmpty && Builtin.List.listTooLong (its.toArray.size + its2.toArray.size)) = true := by
    rw [notLongL hsz, Bool.and_false]
    exact Bool.false_ne_true
  refine call_meets F.slot_list_extend ⟨_, e, rfl⟩ F.entry_list_extend (F.args_list_extend_2 _ _)
    (AutoSeq1.list_extend_list_list_0 l its.toArray n b its2.toArray n2 hlong (by rw [List.size_toArray]; omega) (by omega)) ⟨e, e2, ?_⟩
  refine ⟨.non, _, I.lset (its' := its ++ its2) hH e (by simp) (r.append r2) ?_, rfl, q⟩
  rw [List.length_append]
  omega
def rPopAt : V → List V → Hp → VK → Prop := fun x vs H Q => ∃ l xs i k y, x = .ref l ∧ vs = [.int i] ∧ H l = some (.lst xs) ∧ -(2 ^ 63) ≤ i ∧ i < 2 ^ 63 ∧ seqIndex? i xs.length = some k ∧ xs[k]? = some y ∧ Q y (upd H l (.lst (xs.eraseIdx k)))
theorem mt_popAt : MtM X "list.pop" rPopAt := by
  intro pins s σ H x vs v us Q I rx rv h
  obtain ⟨l, xs, i, k, y, rfl, rfl, hH, h1, h2, hk, hy, q⟩ := h
  cases rx
  obtain ⟨u, rfl, ru⟩ := rv.one
  obtain ⟨t, rfl⟩ := ru
  obtain ⟨z, its, n, r, hl, e⟩ := I.lstM hH
  obtain ⟨w, hw, rw'⟩ := r.get hy
  refine call_meets F.slot_list_pop ⟨_, e, rfl⟩ F.entry_list_pop (F.args_list_pop_2 _ _)
    (MeetsSeq.list_pop_at l its.toArray n i t k w (fitsIndex_both h1 h2) (by rw [List.size_toArray, ← hl]; exact hk) (by rw [← Array.getElem?_toList]; exact hw) (by rw [List.size_toArray]; omega)) ⟨e, ?_⟩
  refine ⟨y, _, I.lset (its' := its.eraseIdx k) hH e ?_ (r.eraseIdx k) ?_, rw', q⟩
  · show its.toArray.eraseIdxIfInBounds k = (its.eraseIdx k).toArray
    rw [List.eraseIdxIfInBounds_toArray]
  · have := len_erase xs k
    omega
def rCat : R2 := fun x y H Q => ∃ l b xs zs, x = .ref l ∧ y = .ref b ∧ H l = some (.lst xs) ∧ H b = some (.lst zs) ∧ xs.length + zs.length ≤ sizeLine ∧ ∀ p, H p = none → Q (.ref p) (upd H p (.lst (xs ++ zs)))
theorem op_cat : OpR X (binaryOp .Add) rCat := by
  intro pins s σ H x y v u Q I rx ry h
  obtain ⟨l, b, xs, zs, rfl, rfl, hH, hB, hz, q⟩ := h
  cases rx
  cases ry
  obtain ⟨z, its, n, r, hl, e⟩ := I.lstM hH
  obtain ⟨z2, its2, n2, r2, hl2, e2⟩ := I.lstM hB
  refine PySem.P.add_list e e2 ?_ (by rw [List.size_toArray, List.size_toArray]; omega)
  have ea : its.toArray ++ its2.toArray = (its ++ its2).toArray := by simp
  rw [ea]
  exact ⟨.ref _, _, I.lnew (t' := s.toks) (r.append r2) (by rw [List.length_append]; omega), rfl, q _ I.fresh⟩
end
end L2
namespace L2
open PySem PySem.Spec PyProof.Rows
theorem Vals.ints : ∀ {ns : List Int} {us : List Value}, Vals (ns.map V.int) us → IntsAre us ns
  | [], us, h => by
    rw [List.map_nil] at h
    cases h
    exact IntsAre.nil
  | n :: ns, us, h => by
    rw [List.map_cons] at h
    cases h with
    | cons r t =>
      obtain ⟨k, rfl⟩ := r
      exact IntsAre.cons n k (Vals.ints t)
theorem Vals.bls : ∀ {bs : List Bool} {us : List Value}, Vals (bs.map V.bl) us → us = bs.map Value.bool
  | [], us, h => by
    rw [List.map_nil] at h
    cases h
    rfl
  | b :: bs, us, h => by
    rw [List.map_cons] at h
    cases h with
    | cons r t =>
      cases r
      rw [Vals.bls t, List.map_cons]
theorem Vals.ref1 {a : Addr} {us : List Value} (r : Vals [V.ref a] us) : us = [Value.ref a] := by
  cases r with
  | cons r t =>
    cases t
    cases r
    rfl
section
variable {prog : Program} {w : World} {A : Around} {E : Value → Shared → Prop} {s : Shared} {l : Addr} {its : List Value} {ns : List Int} {Q : Value → Shared → Prop}
theorem sum_raw (hh : A.handled = none) (hl : s.heap.IsList l its.toArray) (hi : IntsAre its ns)
    (h : ∀ h' tk t', (∀ b o, s.heap.get? b = some o → h'.get? b = some o) → Q (.int ns.sum t') { s with heap := h', toks := tk }) : wpAny (model prog w) A (call (.builtin "sum") [.ref l]) Q E s := by
  obtain ⟨xs, e⟩ := hi.allInts.items
  have hn : numsOf (intItems xs).toList = ns := by rw [← e]; exact hi.numsOf
  rw [nums_intItems] at hn
  rw [e] at hl
  refine PySem.sum_intListG hh hl fun h' tk t' hk => ?_
  have := h h' tk t' hk
  rw [preSum_eq, List.take_of_length_le (by simp), hn]; exact this
end
section
variable {X : Cx}
def rSum (K : PySem.W.Frag) : List V → Hp → VK → Prop := fun vs H Q => ∃ (a : Addr) (ns : List Int), vs = [V.ref a] ∧ SqL K H a (ns.map V.int) ∧ Q (.int ns.sum) H
theorem cr_sum (hc : X.calm = true) : CallR X (.builtin "sum") (rSum X.K) := by
  intro pins s σ H vs us Q I r h
  obtain ⟨a, ns, rfl, hs, q⟩ := h
  obtain ⟨its, rv, hl, _⟩ := I.list hs
  rw [Vals.ref1 r]
  exact sum_raw (I.ok.hd hc) hl.isList rv.ints fun h' tk t' hk => ⟨.int _, H, I.kept hk, ⟨_, rfl⟩, q⟩
end
theorem iter_any {prog : Program} {w : World} {A : Around} {E : Value → Shared → Prop} {s : Shared} {l : Addr} {items : Array Value} {Q : Value → Shared → Prop} (hl : s.heap.IsList l items)
    (h : ∀ s₂ : Shared, s₂ = { s with heap := s.heap.push { cls := .type "list_iterator", data := .fields #[.ref l, .int 0 0] } } →
      (s₂.heap.IsListIter s.heap.objs.size l 0 ∧ s₂.heap.IsList l items) → l ≠ s.heap.objs.size → Q (.ref s.heap.objs.size) s₂) : wpAny (model prog w) A (pyIter (.ref l)) Q E s := by
  have hlt : l < s.heap.objs.size := by obtain ⟨_, e, _⟩ := hl; exact Heap.lt_size e
  exact wpAny_pyIter_list hl (h _ rfl ⟨⟨_, Heap.get?_push_size _ rfl, rfl, rfl⟩, hl.push _⟩ (Nat.ne_of_lt hlt))
theorem truth_bools {prog : Program} {w : World} {A : Around} {bs : List Bool} {its : List Value} (e : its = bs.map Value.bool) :
    TruthOf prog w A (fun i v => its.toArray[i]? = some v) (fun i => bs.getD i false) := fun i v s Q E hv hq => by
  have hv' : its[i]? = some v := by simpa using hv
  rw [e, List.getElem?_map] at hv'
  obtain ⟨b, hb, rfl⟩ := Option.map_eq_some_iff.mp hv'
  have hg : bs.getD i false = b := by rw [List.getD_eq_getElem?_getD, hb] <;> rfl
  have hq' : Q (bs.getD i false) s := hq
  rw [hg] at hq'
  exact wpAny_truthy_bool hq'
theorem any_range : ∀ bs : List Bool, (List.range bs.length).any (fun i => bs.getD i false) = bs.any id
  | [] => rfl
  | b :: bs => by
    rw [List.length_cons, List.range_succ_eq_map, List.any_cons, List.any_map, List.any_cons, ← any_range bs]
    all_goals rfl
theorem all_range : ∀ bs : List Bool, (List.range bs.length).all (fun i => bs.getD i false) = bs.all id
  | [] => rfl
  | b :: bs => by
    rw [List.length_cons, List.range_succ_eq_map, List.all_cons, List.all_map, List.all_cons, ← all_range bs]
    all_goals rfl
section
variable {X : Cx}
def rAll (K : PySem.W.Frag) : List V → Hp → VK → Prop := fun vs H Q => ∃ (a : Addr) (bs : List Bool), vs = [V.ref a] ∧ SqL K H a (bs.map V.bl) ∧ Q (.bl (bs.all id)) H
theorem cr_all (hc : X.calm = true) : CallR X (.builtin "all") (rAll X.K) := by
  intro pins s σ H vs us Q I r h
  obtain ⟨a, bs, rfl, hs, q⟩ := h
  obtain ⟨its, rv, hl, _⟩ := I.list hs
  rw [Vals.ref1 r]
  have hb := rv.bls
  refine call_all_walk (iter_any hl.isList fun s₂ e2 st hne => ?_)
  subst e2
  refine ⟨_, _, _, _, _, _, _, rfl, Walks.list (A := X.A.in1) (I.ok.hd hc) _ a hne its.toArray, st, truth_bools hb, fun h' tk hk => ?_⟩
  refine ⟨.bl _, H, I.kept fun b o eo => hk b o (fun hmem => ?_) (Heap.get?_push_of_some _ eo), ?_, q⟩
  · rcases List.mem_cons.mp hmem with e1 | hmem
    · exact absurd (e1 ▸ Heap.lt_size eo) (Nat.lt_irrefl _)
    · cases hmem
  · show Value.bool _ = Value.bool _
    rw [← all_range, hb, List.size_toArray, List.length_map]
end
end L2
namespace L2
open PySem PySem.Spec PyProof.Rows
abbrev CellAt (h : Heap) (c : Addr) (v : Option Value) : Prop := h.IsCell c v
def relS (scope sc : Scope) : Scope :=
  { scope with names := scope.names.map fun (n, k) => if (k == .free && sc.kind == .function && sc.names.lookup n == some .cell) then (n, .cell) else (n, k) }
def cloFrom (cells : List (Str × Addr)) : List (Str × NameKind) → List (Str × Addr) → List (Str × Addr)
  | [], acc => acc
  | (n, k) :: r, acc => if k == .free then cloFrom cells r ((n, (cells.lookup n).getD 0) :: acc) else cloFrom cells r acc
theorem closure_loop (env : Env) (f : Str × NameKind → List (Str × Addr) → Sem (ForInStep (List (Str × Addr))))
    (hf : ∀ n k c, f (n, k) c = if k == .free then (do let a ← cellOf env n; pure (.yield ((n, a) :: c))) else pure (.yield c)) :
    ∀ (names : List (Str × NameKind)) (acc : List (Str × Addr)), (∀ y ∈ names, y.2 = .free → ∃ c, env.cells.lookup y.1 = some c) → forIn names acc f = pure (cloFrom env.cells names acc)
  | [], acc, _ => by rw [List.forIn_nil]; rfl
  | (n, k) :: r, acc, h => by
    rw [List.forIn_cons, hf]
    have ih := fun acc => closure_loop env f hf r acc fun y hy => h y (List.mem_cons_of_mem _ hy)
    unfold cloFrom
    by_cases hk : (k == NameKind.free) = true
    · rw [if_pos hk, if_pos hk]
      obtain ⟨c, hc⟩ := h (n, k) List.mem_cons_self (by simpa using hk)
      have e : cellOf env n = pure c := by unfold cellOf; rw [hc]
      rw [e]
      have e2 : (env.cells.lookup n).getD 0 = c := by rw [hc]; rfl
      rw [e2]
      exact ih _
    · rw [if_neg hk, if_neg hk]
      exact ih _
theorem closure_ok {scope : Scope} {env : Env} (h : ∀ y ∈ scope.names, y.2 = .free → ∃ c, env.cells.lookup y.1 = some c) : closureFor scope env = pure (cloFrom env.cells scope.names []) := by
  simp only [closureFor]
  rw [closure_loop env _ (fun n k c => rfl) scope.names [] h]
  rfl
theorem mem_lookup {α : Type} : ∀ {l : List (Str × α)} {n : Str} {c : α}, (n, c) ∈ l → ∃ c', l.lookup n = some c'
  | (k, v) :: r, n, c, h => by
    rw [List.lookup_cons]
    cases hb : n == k with
    | true => exact ⟨_, rfl⟩
    | false =>
      rcases List.mem_cons.mp h with e | h
      · cases e; simp at hb
      · exact mem_lookup h
theorem cloFrom_mem {cells : List (Str × Addr)} : ∀ {names : List (Str × NameKind)} {acc : List (Str × Addr)} {n : Str} {c : Addr}, (n, c) ∈ cloFrom cells names acc → (n, c) ∈ acc ∨ ((n, .free) ∈ names ∧ c = (cells.lookup n).getD 0)
  | [], _, _, _, h => .inl h
  | (m, k) :: r, acc, n, c, h => by
    unfold cloFrom at h
    split at h
    · rename_i hk
      have hk : k = .free := by simpa using hk
      rcases cloFrom_mem h with h | ⟨h1, h2⟩
      · rcases List.mem_cons.mp h with e | h
        · cases e; exact .inr ⟨hk ▸ List.mem_cons_self, rfl⟩
        · exact .inl h
      · exact .inr ⟨List.mem_cons_of_mem _ h1, h2⟩
    · rcases cloFrom_mem h with h | ⟨h1, h2⟩
      · exact .inl h
      · exact .inr ⟨List.mem_cons_of_mem _ h1, h2⟩
theorem cloFrom_acc {cells : List (Str × Addr)} : ∀ {names : List (Str × NameKind)} {acc : List (Str × Addr)} {p : Str × Addr}, p ∈ acc → p ∈ cloFrom cells names acc
  | [], _, _, h => h
  | (m, k) :: r, acc, p, h => by
    unfold cloFrom
    split
    · exact cloFrom_acc (List.mem_cons_of_mem _ h)
    · exact cloFrom_acc h
theorem cloFrom_has {cells : List (Str × Addr)} : ∀ {names : List (Str × NameKind)} {acc : List (Str × Addr)} {n : Str}, (n, .free) ∈ names → (n, (cells.lookup n).getD 0) ∈ cloFrom cells names acc
  | (m, k) :: r, acc, n, h => by
    unfold cloFrom
    rcases List.mem_cons.mp h with e | h
    · cases e
      exact cloFrom_acc List.mem_cons_self
    · split
      · exact cloFrom_has h
      · exact cloFrom_has h
theorem cells_mem : ∀ {names : List (Str × NameKind)} {h : Heap} {acc : List (Str × Addr)} {x : Str} {c : Addr}, (x, c) ∈ cellsFrom h.objs.size names acc →
    (x, c) ∈ acc ∨ ((x, .cell) ∈ names ∧ h.objs.size ≤ c ∧ CellAt (pushCells h names) c none)
  | [], _, _, _, _, h => .inl h
  | (n, k) :: r, h, acc, x, c, hm => by
    unfold cellsFrom at hm
    unfold pushCells
    split at hm
    · rename_i hk
      rw [if_pos hk]
      have hk : k = .cell := by simpa using hk
      rw [← Heap.size_push h { cls := .type "cell", data := .cell none }] at hm
      rcases cells_mem hm with hm | ⟨h1, h2, h3⟩
      · rcases List.mem_cons.mp hm with e | hm
        · cases e
          exact .inr ⟨hk ▸ List.mem_cons_self, Nat.le_refl _, _, pushCells_keeps r _ _ _ (Heap.get?_push_size _ rfl), rfl⟩
        · exact .inl hm
      · rw [Heap.size_push] at h2
        exact .inr ⟨List.mem_cons_of_mem _ h1, Nat.le_of_succ_le h2, h3⟩
    · rename_i hk
      rw [if_neg hk]
      rcases cells_mem hm with hm | ⟨h1, h2, h3⟩
      · exact .inl hm
      · exact .inr ⟨List.mem_cons_of_mem _ h1, h2, h3⟩
theorem cells_acc : ∀ {names : List (Str × NameKind)} {n : Nat} {acc : List (Str × Addr)} {p : Str × Addr}, p ∈ acc → p ∈ cellsFrom n names acc
  | [], _, _, _, h => h
  | (m, k) :: r, n, acc, p, h => by
    unfold cellsFrom
    split
    · exact cells_acc (List.mem_cons_of_mem _ h)
    · exact cells_acc h
theorem cells_has : ∀ {names : List (Str × NameKind)} {n : Nat} {acc : List (Str × Addr)} {x : Str}, (x, .cell) ∈ names → ∃ c, (x, c) ∈ cellsFrom n names acc
  | (m, k) :: r, n, acc, x, h => by
    unfold cellsFrom
    rcases List.mem_cons.mp h with e | h
    · cases e
      exact ⟨n, cells_acc List.mem_cons_self⟩
    · split
      · exact cells_has h
      · exact cells_has h
theorem cells_inj : ∀ {names : List (Str × NameKind)} {h : Heap} {acc : List (Str × Addr)} {x y : Str} {c : Addr}, (∀ p ∈ acc, p.2 < h.objs.size) → (∀ x y c, (x, c) ∈ acc → (y, c) ∈ acc → x = y) →
    (x, c) ∈ cellsFrom h.objs.size names acc → (y, c) ∈ cellsFrom h.objs.size names acc → x = y
  | [], _, _, _, _, _, _, hi, h1, h2 => hi _ _ _ h1 h2
  | (n, k) :: r, h, acc, x, y, c, hl, hi, h1, h2 => by
    unfold cellsFrom at h1 h2
    split at h1
    · rename_i hk
      rw [if_pos hk] at h2
      rw [← Heap.size_push h { cls := .type "cell", data := .cell none }] at h1 h2
      refine cells_inj (h := h.push _) (fun p hp => ?_) (fun x y c a b => ?_) h1 h2
      · rw [Heap.size_push]
        rcases List.mem_cons.mp hp with rfl | hp
        · exact Nat.lt_succ_self _
        · exact Nat.lt_succ_of_lt (hl p hp)
      · rcases List.mem_cons.mp a with e | a <;> rcases List.mem_cons.mp b with e' | b
        · cases e; cases e'; rfl
        · cases e; exact absurd (hl _ b) (Nat.lt_irrefl _)
        · cases e'; exact absurd (hl _ a) (Nat.lt_irrefl _)
        · exact hi _ _ _ a b
    · rename_i hk
      rw [if_neg hk] at h2
      exact cells_inj hl hi h1 h2
theorem newEnv_comp {M : Model} {A : Around} {E : Value → Shared → Prop} {s : Shared} {scope : Scope} {globals : Addr} {closure : List (Str × Addr)} {qual : Str} {func : Option Addr} {code : Value} {around : Env} {builtins : Addr} {Q : Env → Shared → Prop}
    (h : Q (newEnv scope s.heap.objs.size globals (cellsFrom (s.heap.objs.size + 1) scope.names closure) qual func code (some around) builtins)
      { s with heap := pushCells (s.heap.push { cls := .type "dict", data := .dict #[] }) scope.names }) :
    wpAny M A (newFunctionEnv scope globals closure [] qual func code (some around) builtins) Q E s := by
  simp only [newFunctionEnv, Option.isSome_some, if_true]
  refine wpAny_bind (wpAny_alloc ?_)
  refine wpAny_bind (wpAny_layCells _ (fun n k c => rfl) scope.names closure _ _ ?_)
  rw [show ({ s with heap := s.heap.push { cls := .type "dict", data := .dict #[] } } : Shared).heap.objs.size = s.heap.objs.size + 1 from Heap.size_push ..]
  rw [List.forIn_nil]
  exact wpAny_bind (wpAny_pure (wpAny_pure h))
theorem lookup_relS {sc : Scope} : ∀ {names : List (Str × NameKind)} {x : Str} {k : NameKind},
    (names.map fun (n, k) => if (k == NameKind.free && sc.kind == .function && sc.names.lookup n == some .cell) then (n, NameKind.cell) else (n, k)).lookup x = some k →
    ∃ k', names.lookup x = some k' ∧ (k = k' ∨ (k' = .free ∧ k = .cell))
  | [], _, _, h => by simp at h
  | (n, k₀) :: r, x, k, h => by
    have ih := @lookup_relS sc r x k
    have h' : List.lookup x ((if (k₀ == NameKind.free && sc.kind == .function && sc.names.lookup n == some .cell) = true then (n, NameKind.cell) else (n, k₀)) :: (r.map _)) = some k := h
    cases hx : x == n with
    | true =>
      simp only [List.lookup_cons, hx]
      by_cases hc : (k₀ == NameKind.free && sc.kind == .function && sc.names.lookup n == some .cell) = true
      · rw [if_pos hc] at h'
        simp only [List.lookup_cons, hx] at h'
        cases h'
        simp only [Bool.and_eq_true, beq_iff_eq] at hc
        exact ⟨k₀, rfl, .inr ⟨hc.1.1, rfl⟩⟩
      · rw [if_neg hc] at h'
        simp only [List.lookup_cons, hx] at h'
        cases h'
        exact ⟨_, rfl, .inl rfl⟩
    | false =>
      simp only [List.lookup_cons, hx]
      by_cases hc : (k₀ == NameKind.free && sc.kind == .function && sc.names.lookup n == some .cell) = true
      · rw [if_pos hc] at h'
        simp only [List.lookup_cons, hx] at h'
        exact ih h'
      · rw [if_neg hc] at h'
        simp only [List.lookup_cons, hx] at h'
        exact ih h'
structure BlkOk (N : List Str) (sc scope : Scope) (own : List (Str × Nat)) : Prop where
  kind : scope.kind = .function
  uniq : ∀ y ∈ scope.names, scope.names.lookup y.1 = some y.2
  ix : ∀ p ∈ own, N[p.2]? = some p.1
  free : ∀ y ∈ scope.names, y.2 = .free → sc.names.lookup y.1 = some .cell ∨ sc.names.lookup y.1 = some .free
  own : ∀ y ∈ scope.names, y.2 = .local ∨ y.2 = .cell → y.1 ∈ own.map (·.1) ∨ y.1 ∉ N
def wipe (σ : St) : List Nat → St
  | [] => σ
  | v :: vs => (wipe σ vs).set v none
theorem wipe_length (σ : St) : ∀ vs : List Nat, (wipe σ vs).length = σ.length
  | [] => rfl
  | v :: vs => by unfold wipe; rw [List.length_set, wipe_length σ vs]
theorem wipe_some {σ : St} {i : Nat} {x : V} : ∀ {vs : List Nat}, (wipe σ vs)[i]? = some (some x) → σ[i]? = some (some x) ∧ i ∉ vs
  | [], h => ⟨h, by simp⟩
  | v :: vs, h => by
    unfold wipe at h
    by_cases hi : v = i
    · subst hi
      by_cases hv : v < (wipe σ vs).length
      · rw [List.getElem?_set_self hv] at h; cases h
      · rw [List.getElem?_eq_none (by simpa using hv)] at h; cases h
    · rw [List.getElem?_set_ne hi] at h
      obtain ⟨h1, h2⟩ := wipe_some h
      exact ⟨h1, by simp only [List.mem_cons, not_or]; exact ⟨fun e => hi e.symm, h2⟩⟩
abbrev Cx.blk (X : Cx) (s : Shared) (H : Hp) (scope : Scope) (cenv : Env) (fp : List Addr) : Cx := { X with s_0 := s, H_0 := H, env := cenv, outer := X.stack, ex := fp, fn := fun x => scope.names.lookup x == some .cell, pn := [], xe := fun _ _ => False }
section
variable {X : Cx} {pins : List (Addr × Obj)} {σ : St} {H : Hp} {s : Shared}
theorem block_start {scope : Scope} {own : List (Str × Nat)} {fp : List Addr} (I : Inv X pins σ H s) (ok : BlkOk X.N X.env.scope scope own) (hN : X.N.Nodup) (hfp : ∀ b ∈ fp, FpOk X pins H b ∧ b < s.heap.objs.size) :
    Inv (X.blk s H scope (compEnvC scope (cellsFrom (s.heap.objs.size + 1) scope.names (cloFrom X.env.cells scope.names [])) s.heap.objs.size X.env) fp) [] (wipe σ (own.map (·.2))) H { s with heap := pushCells (s.heap.push { cls := .type "dict", data := .dict #[] }) scope.names } := by
  have hfree : ∀ y ∈ scope.names, y.2 = .free → ∃ c, X.env.cells.lookup y.1 = some c := fun y hy e => by
    rcases ok.free y hy e with k | k
    · exact I.ok.has _ (.inl k)
    · exact I.ok.has _ (.inr k)
  generalize hcenv : compEnvC scope (cellsFrom (s.heap.objs.size + 1) scope.names (cloFrom X.env.cells scope.names [])) s.heap.objs.size X.env = cenv
  have kp : ∀ b o, s.heap.get? b = some o → (pushCells (s.heap.push { cls := .type "dict", data := .dict #[] }) scope.names).get? b = some o := fun b o e => pushCells_keeps _ _ _ _ (Heap.get?_push_of_some _ e)
  have hL : cenv.locals = s.heap.objs.size := by rw [← hcenv]; rfl
  have hcl : cenv.cells = cellsFrom (s.heap.objs.size + 1) scope.names (cloFrom X.env.cells scope.names []) := by rw [← hcenv]; rfl
  have hsc : cenv.scope = relS scope X.env.scope := by rw [← hcenv]; rfl
  rw [← Heap.size_push s.heap { cls := .type "dict", data := .dict #[] }] at hcl
  have cm : ∀ {y c}, (y, c) ∈ cloFrom X.env.cells scope.names [] → X.env.cells.lookup y = some c ∧ c < s.heap.objs.size := fun {y c} hm => by
    rcases cloFrom_mem hm with hm | ⟨h1, rfl⟩
    · cases hm
    · obtain ⟨c, hc⟩ := hfree _ h1 rfl
      rw [hc]
      obtain ⟨w, z⟩ := I.cell _ _ hc
      exact ⟨rfl, z.lt⟩
  have mem : ∀ {y c}, cenv.cells.lookup y = some c → (X.env.cells.lookup y = some c ∧ c < s.heap.objs.size) ∨ (s.heap.objs.size + 1 ≤ c ∧ CellAt (pushCells (s.heap.push { cls := .type "dict", data := .dict #[] }) scope.names) c none) := fun {y c} e => by
    rw [hcl] at e
    rcases cells_mem (PySem.mem_of_lookup e) with hm | ⟨_, h2, h3⟩
    · exact .inl (cm hm)
    · rw [Heap.size_push] at h2; exact .inr ⟨h2, h3⟩
  have look : ∀ {y}, scope.names.lookup y = some .free → ∃ c, cenv.cells.lookup y = some c ∧ X.env.cells.lookup y = some c := fun {y} hl => by
    have hy : (y, NameKind.free) ∈ scope.names := PySem.mem_of_lookup hl
    obtain ⟨c', e'⟩ := mem_lookup (cells_acc (names := scope.names) (n := (s.heap.push { cls := .type "dict", data := .dict #[] }).objs.size) (cloFrom_has (cells := X.env.cells) (acc := []) hy))
    rw [← hcl] at e'
    refine ⟨c', e', ?_⟩
    rw [hcl] at e'
    rcases cells_mem (PySem.mem_of_lookup e') with hm | ⟨h1, _, _⟩
    · exact (cm hm).1
    · have := ok.uniq _ h1
      rw [hl] at this; cases this
  have okB : (X.blk s H scope cenv fp).Ok := by
    refine ⟨I.ok.mod, by show cenv.scope.kind = _; rw [hsc]; exact ok.kind, by show cenv.globals = _; rw [← hcenv]; exact I.ok.glob, by show cenv.builtins = _; rw [← hcenv]; exact I.ok.blt, by show s.heap.objs.size ≤ cenv.locals; rw [hL]; exact Nat.le_refl _,
      fun y z c e1 e2 => ?_, fun y hy => ?_, fun y c z e => ?_, I.ok.hd, I.ok.frames, .inl rfl, fun b hb => ⟨?_, fun y c e z => ?_⟩, I.bs, Nat.le_trans I.ok.bsz I.sz, fun b o e hb => ?_, fun b hb z => ?_, I.stack, I.stkFree⟩
    · have e1 : cenv.cells.lookup y = some c := e1
      have e2 : cenv.cells.lookup z = some c := e2
      rw [hcl] at e1 e2
      refine cells_inj (fun p hp => ?_) (fun y z c a b => I.ok.inj y z c (cm a).1 (cm b).1) (PySem.mem_of_lookup e1) (PySem.mem_of_lookup e2)
      rw [Heap.size_push]
      exact Nat.lt_succ_of_lt (cm (y := p.1) (c := p.2) hp).2
    · show ∃ c, cenv.cells.lookup y = some c
      have key : ∀ k, cenv.kindOf y = some k → (k = .cell ∨ k = .free) → ∃ c, cenv.cells.lookup y = some c := fun k hk hk' => by
        unfold Env.kindOf at hk
        rw [hsc] at hk
        obtain ⟨k', e, r⟩ := lookup_relS hk
        have : k' = .cell ∨ k' = .free := by
          rcases r with rfl | ⟨rfl, _⟩
          · exact hk'
          · exact .inr rfl
        rcases this with rfl | rfl
        · obtain ⟨c, hm⟩ := cells_has (n := (s.heap.push { cls := .type "dict", data := .dict #[] }).objs.size) (acc := cloFrom X.env.cells scope.names []) (PySem.mem_of_lookup e)
          obtain ⟨c', e'⟩ := mem_lookup hm
          exact ⟨c', by rw [hcl]; exact e'⟩
        · obtain ⟨c, h1, _⟩ := look e
          exact ⟨c, h1⟩
      rcases hy with hy | hy
      · exact key _ hy (.inl rfl)
      · exact key _ hy (.inr rfl)
    · have z : (scope.names.lookup y == some NameKind.cell) = true := z
      have z : scope.names.lookup y = some .cell := by simpa using z
      have e : cenv.cells.lookup y = some c := e
      rw [hcl] at e
      rcases cells_mem (PySem.mem_of_lookup e) with hm | ⟨_, h2, _⟩
      · rcases cloFrom_mem hm with hm | ⟨h1, _⟩
        · cases hm
        · have q := ok.uniq _ h1
          rw [z] at q; cases q
      · rw [Heap.size_push] at h2
        exact Nat.le_of_succ_le h2
    · show b ≠ cenv.locals
      rw [hL]; exact Nat.ne_of_lt (hfp b hb).2
    · have e : cenv.cells.lookup y = some c := e
      rcases mem e with ⟨h1, _⟩ | ⟨h1, _⟩
      · exact (hfp b hb).1.2.2.2.2.1 y c h1 z
      · have h2 : s.heap.objs.size + 1 ≤ b := by rw [← z]; exact h1
        exact absurd (Nat.lt_of_lt_of_le (hfp b hb).2 (Nat.le_of_succ_le h2)) (Nat.lt_irrefl _)
    · rcases (hfp b hb).1.2.2.2.1 with z | z
      · exact I.ok.noex b o e z
      · exact absurd (Nat.lt_of_lt_of_le (Heap.lt_size e) (Nat.le_trans I.ok.bsz z)) (Nat.lt_irrefl _)
    · rcases List.mem_cons.mp (I.stkSub b z) with z | z
      · exact (hfp b hb).1.2.1 z
      · exact (hfp b hb).1.2.2.1 z
  refine ⟨okB, rfl, I.bare, Un.kept kp, ⟨fun _ => none, ?_, fun i y av e1 e2 e3 => ?_⟩, fun y c e => ?_, ?_, fun y c e => ?_, fun p hp => ?_, I.hok.kept kp, by rw [wipe_length]; exact I.len⟩
  · show Heap.Ns _ cenv.locals _
    rw [hL]
    exact Heap.Ns.keeps (Heap.Ns.new ..) fun b o e => pushCells_keeps _ _ _ _ e
  · obtain ⟨e2, hne⟩ := wipe_some e2
    have hfr : scope.names.lookup y = some .free ∧ (cenv.kindOf y = some .cell ∨ cenv.kindOf y = some .free) := by
      have key : ∀ k, cenv.scope.names.lookup y = some k → k = .local ∨ k = .cell ∨ k = .free → scope.names.lookup y = some .free ∧ (cenv.kindOf y = some .cell ∨ cenv.kindOf y = some .free) := fun k hk hk' => by
        have hk0 := hk
        rw [hsc] at hk
        obtain ⟨k', e, r⟩ := lookup_relS hk
        have no : ¬ (k' = .local ∨ k' = .cell) := fun hh => by
          rcases ok.own _ (PySem.mem_of_lookup e) hh with e' | e'
          · obtain ⟨p, hp, hpy⟩ := List.mem_map.mp e'
            have e3 := ok.ix p hp
            have : p.1 = y := hpy
            rw [this] at e3
            exact hne (List.mem_map.mpr ⟨p, hp, nodup_ix hN e3 e1⟩)
          · exact e' (List.mem_of_getElem? e1)
        rcases r with rfl | ⟨rfl, rfl⟩
        · rcases hk' with rfl | rfl | rfl
          · exact absurd (.inl rfl) no
          · exact absurd (.inr rfl) no
          · exact ⟨e, .inr hk0⟩
        · exact ⟨e, .inl hk0⟩
      have e3 : Vis cenv.scope y := e3
      rcases e3 with e3 | e3 | e3
      · exact key _ e3 (.inl rfl)
      · exact key _ e3 (.inr (.inl rfl))
      · exact key _ e3 (.inr (.inr rfl))
    obtain ⟨m, hn, hl⟩ := I.loc
    have hvis : Vis X.env.scope y := (ok.free _ (PySem.mem_of_lookup hfr.1) rfl).elim (fun k => .inr (.inl k)) (fun k => .inr (.inr k))
    obtain ⟨w, r, q⟩ := hl i y av e1 e2 hvis
    refine ⟨w, r, .inr ⟨hfr.2, ?_⟩⟩
    obtain ⟨c, h1, h2⟩ := look hfr.1
    rcases q with ⟨k, _⟩ | ⟨_, c', e', z⟩
    · have k : X.env.scope.names.lookup y = some .local := k
      rcases ok.free _ (PySem.mem_of_lookup hfr.1) rfl with k' | k' <;> rw [show X.env.scope.names.lookup y = _ from k'] at k <;> cases k
    · rw [h2] at e'; cases e'
      exact ⟨c, h1, z.keeps kp⟩
  · have e : cenv.cells.lookup y = some c := e
    rcases mem e with ⟨h1, _⟩ | ⟨_, z⟩
    · obtain ⟨w, z⟩ := I.cell y c h1
      exact ⟨w, z.keeps kp⟩
    · exact ⟨_, z⟩
  · show H cenv.locals = none
    rw [hL]; exact I.hok.fresh (Nat.le_refl _)
  · have e : cenv.cells.lookup y = some c := e
    rcases mem e with ⟨h1, _⟩ | ⟨h1, _⟩
    · exact I.freeC y c h1
    · exact I.hok.fresh (Nat.le_of_succ_le h1)
  · exact absurd (show p ∈ ([] : List (Addr × Obj)) ++ [] from hp) (by simp)
theorem app_ok {E : Value → Shared → Prop} {D : Addr} {xs : List V} {y : V} {v : Value} {Q : Value → Shared → Prop} (I : Inv X pins σ H s) (hD : H D = some (.lst xs)) (hz : xs.length < sizeLine) (r : RelV y v)
    (h : ∀ s', Inv X pins σ (upd H D (.lst (xs ++ [y]))) s' → Q .none s') : wpAny (model X.prog X.w) X.A (call (.builtin "list.append") [.ref D, v]) Q E s := by
  obtain ⟨hz', its, n, ri, e⟩ := I.hok D _ hD
  have hl := ri.length
  refine append_at (hsz := by rw [List.size_toArray]; omega) e fun h' sb ho' => ?_
  refine h { s with heap := h' } (I.write (t' := s.toks) (by rw [hD]; trivial) (.inl rfl) (fun b u hb q => (sb.2 b hb).trans q) ⟨_, ho'⟩ ⟨by rw [List.length_append]; exact hz, its ++ [v], n + 1, ri.append (.cons r .nil), ?_⟩)
  rw [ho']
  simp
def PTs (X : Cx) (ifs : List Expr) (t : TT) : Prop :=
  ∀ (pins : List (Addr × Obj)) (s : Shared) (σ : St) (H : Hp) (Q : Bool → Hp → Prop), Inv X pins σ H s → t σ H Q →
    wpAny (model X.prog X.w) X.A (forIn ifs true fun c r => if r = true then do let ok ← isTrue c X.env (eval c X.env); pure (ForInStep.yield ok) else pure (ForInStep.yield r)) (TP X pins σ Q) X.xe s
def tYes : TT := fun _ H Q => Q true H
theorem pts_nil : PTs X [] tYes := fun _ _ _ H _ I h => wpAny_tests_nil ⟨H, I, h⟩
theorem pts_one {c : Expr} {t : TT} (h : PT X c t) : PTs X [c] t := fun pins s σ H Q I hw => wpAny_tests_one (h pins s σ H Q I hw)
end
theorem thnF {α : Type} {t : Sem α} {Q Q' : α → Shared → Prop} {M : Model} {A : Around} {E : Value → Shared → Prop} {s : Shared} (h : wpAny M A t Q (fun _ _ => False) s) (hQ : ∀ a s, Q a s → Q' a s) : wpAny M A t Q' E s := wpAny_mono h hQ fun _ _ z => False.elim z
theorem compLoop_any {prog : Program} {w : World} {A : Around} {R : Result → Shared → Prop} {s : Shared} {elt target iter : Expr} {ifs : List Expr} {scope : Scope} {pos : Pos} {it acc : Value} {env : Env} (I : Nat → Shared → Prop)
    (turn : ∀ n s, I n s → wpAny (model prog w) A (pyNext it) (fun r s₁ => match r with
      | none => R (.ok .next) s₁
      | some v => wpAny (model prog w) A (letOwnedTupleGo target it v) (fun _ s₁' => wpAny (model prog w) A (assign target env v) (fun _ s₂ =>
          wpAny (model prog w) A (forIn ifs true fun c r => if r = true then do let ok ← isTrue c env (eval c env); pure (ForInStep.yield ok) else pure (ForInStep.yield r)) (fun ok s₃ =>
            if ok = true then wpAny (model prog w) A (eval elt env) (fun x s₄ =>
              wpAny (model prog w) A (call (.builtin "list.append") [acc, x]) (fun _ s₅ => ∃ m, m < n ∧ I m s₅) (notedBy (model prog w) A env fun e s' => R (.error e) s') s₄) (notedBy (model prog w) A env fun e s' => R (.error e) s') s₃
            else ∃ m, m < n ∧ I m s₃) (notedBy (model prog w) A env fun e s' => R (.error e) s') s₂) (notedBy (model prog w) A env fun e s' => R (.error e) s') s₁') (notedBy (model prog w) A env fun e s' => R (.error e) s') s₁) (notedBy (model prog w) A env fun e s' => R (.error e) s') s)
    (n : Nat) (h : I n s) :
    codeAny (model prog w) A (.compLoop (.ListComp elt [⟨target, iter, ifs, 0⟩] scope pos) 0 it acc env) R s := by
  refine codeAny_loop rfl I (fun n s hI => ?_) n h
  show wpAny _ A ((compTurn (.ListComp elt [⟨target, iter, ifs, 0⟩] scope pos) 0 it acc env).onRaise (fun x => do noteFrame x env; theTreesLotGoes x)) _ _ s
  refine wpAny_noted ?_
  rw [compTurn_list]
  refine wpAny_bind (wpAny_standAt (wpAny_bind (wpAny_mono (turn n s hI) (fun r s₁ h₁ => ?_) fun _ _ h' => h')))
  cases r with
  | none => exact wpAny_pure h₁
  | some v =>
    refine wpAny_bind (wpAny_mono h₁ (fun _ s₁' h₁' => ?_) fun _ _ h' => h')
    refine wpAny_bind (wpAny_mono h₁' (fun _ s₂ h₂ => wpAny_bind (wpAny_mono h₂ (fun ok s₃ h₃ => ?_) fun _ _ h' => h')) fun _ _ h' => h')
    cases ok with
    | false => exact wpAny_pure ⟨rfl, h₃⟩
    | true =>
      exact wpAny_bind (wpAny_bind (wpAny_mono h₃ (fun x s₄ h₄ => wpAny_bind (wpAny_mono h₄ (fun _ s₅ h₅ => wpAny_pure (wpAny_pure ⟨rfl, h₅⟩)) fun _ _ h' => h')) fun _ _ h' => h'))
section
variable {X : Cx}
def tLc (wi : TI) (g : TG) (tt : TT) (te : TE) (vs : List Nat) : TE := fun σ H Q => wi σ H fun J H1 => ∀ D, H1 D = none → ∃ W : Nat → Nat → Hp → Prop, (∃ m, W 0 m (upd H1 D (.lst []))) ∧ ∀ i m H, W i m H →
  (J.stop i H ∧ Q (.ref D) H) ∨ (J.go i H ∧ ∃ Nx : Hp → Prop, (∀ H', Nx H' → ∃ m', m' < m ∧ W (i + 1) m' H') ∧ ∀ x H', J.yld i H x H' → g x (wipe σ vs) H' fun σ2 H2 => wipe σ2 vs = wipe σ vs ∧ tt σ2 H2 fun b H3 =>
    if b = true then te σ2 H3 fun y H4 => ∃ acc, H4 D = some (.lst acc) ∧ acc.length < sizeLine ∧ Nx (upd H4 D (.lst (acc ++ [y]))) else Nx H3)
theorem lc_core {pins : List (Addr × Obj)} {s : Shared} {σ : St} {H : Hp} {Q : VK} {elt tg iter : Expr} {ifs : List Expr} {scope : Scope} {own : List (Str × Nat)} {pos pos' : Pos} {wi : TI} {g : TG} {tt : TT} {te : TE} {use : Option (Value → Sem Unit)} {Qf : Value → Shared → Prop}
    (hc : X.calm = true) (hN : X.N.Nodup) (I : Inv X pins σ H s) (hi : PI X tg iter wi) (ok : BlkOk X.N X.env.scope scope own)
    (hg : ∀ (s : Shared) (H : Hp) (C : Addr) (cl : List (Str × Addr)) (fp : List Addr), PG (X.blk s H scope (compEnvC scope cl C X.env) fp) tg g) (ht : ∀ (s : Shared) (H : Hp) (C : Addr) (cl : List (Str × Addr)) (fp : List Addr), PTs (X.blk s H scope (compEnvC scope cl C X.env) fp) ifs tt)
    (he : ∀ (s : Shared) (H : Hp) (C : Addr) (cl : List (Str × Addr)) (fp : List Addr), PE (X.blk s H scope (compEnvC scope cl C X.env) fp) elt te) (hs : ∀ x, foldedSetIterable iter X.env x = pure x)
    (h : tLc wi g tt te (own.map (·.2)) σ H Q)
    (hRR : ∀ D C s' m H', Inv X pins σ H' s' → Q (.ref D) H' → s'.heap.Ns C m → FpOk X pins H' C → compPost (model X.prog X.w) X.A X.xe use Qf (.ref D) C (.ok .next) s') :
    wpAny (model X.prog X.w) X.A (comprehension (.ListComp elt [⟨tg, iter, ifs, 0⟩] scope pos) scope X.env pos' (newList []) false (eval iter X.env) use) Qf X.xe s := by
  have hfree : ∀ y ∈ scope.names, y.2 = .free → ∃ c, X.env.cells.lookup y.1 = some c := fun y hy e => by
    rcases ok.free y hy e with k | k
    · exact I.ok.has _ (.inl k)
    · exact I.ok.has _ (.inr k)
  refine wpAny_comprehension_free (use := use) rfl hs (closure_ok hfree) ok.kind (fun y hy e => by rw [ok.uniq y hy, e])
    (thn (hi pins s σ H _ I h) fun xv s1 hx => thn hx fun itv s2 h2 => ?_)
  obtain ⟨it, fp, tn, J, H2, e, I2, T, st2, f2, q⟩ := h2
  subst e
  refine wpAny_newObj_type (newEnv_comp ?_) (by show 0 ≤ sizeLine; decide)
  generalize hD : s2.heap.objs.size = D
  have hDn : H2 D = none := I2.hok.fresh (Nat.le_of_eq hD)
  obtain ⟨W, ⟨m0, w0⟩, turn⟩ := q D hDn
  generalize hs3 : ({ s2 with heap := s2.heap.push { cls := .type "list", data := .seq ([] : List Value).toArray } } : Shared) = s3
  have I3 : Inv X pins σ (upd H2 D (.lst [])) s3 := by
    rw [← hs3]
    refine I2.laid (t' := s2.toks) (fun b o e => Heap.get?_push_of_some _ e) (Nat.le_of_eq hD) ⟨Nat.zero_le _, [], 0, .nil, ?_⟩
    rw [← hD]
    exact Heap.get?_push_size _ rfl
  have h3 : s3.heap = s2.heap.push { cls := .type "list", data := .seq ([] : List Value).toArray } := by rw [← hs3]
  have sz : ∀ b ∈ fp, b < s2.heap.objs.size := fun b hb => by
    obtain ⟨o, e, _⟩ := T.obj _ _ st2 b hb
    exact Heap.lt_size e
  have f3 : ∀ b ∈ fp, FpOk X pins (upd H2 D (.lst [])) b ∧ b < s3.heap.objs.size := fun b hb => by
    have hlt := sz b hb
    refine ⟨⟨?_, (f2 b hb).2⟩, by rw [h3, Heap.size_push]; exact Nat.lt_succ_of_lt hlt⟩
    rw [upd_ne (by rw [← hD]; exact Nat.ne_of_lt hlt)]
    exact (f2 b hb).1
  have st3 : tn 0 s3.heap := T.keep _ _ _ st2 fun b _ o e => by rw [h3]; exact Heap.get?_push_of_some _ e
  have I4 := block_start I3 ok hN f3
  have pg := hg s3 (upd H2 D (.lst [])) s3.heap.objs.size (cellsFrom (s3.heap.objs.size + 1) scope.names (cloFrom X.env.cells scope.names [])) fp
  have pt := ht s3 (upd H2 D (.lst [])) s3.heap.objs.size (cellsFrom (s3.heap.objs.size + 1) scope.names (cloFrom X.env.cells scope.names [])) fp
  have pe := he s3 (upd H2 D (.lst [])) s3.heap.objs.size (cellsFrom (s3.heap.objs.size + 1) scope.names (cloFrom X.env.cells scope.names [])) fp
  show codeAny _ _ (.compStart (.ListComp elt [⟨tg, iter, ifs, 0⟩] scope pos) 0 (.ref it) (.ref D) (compEnvC scope (cellsFrom (s3.heap.objs.size + 1) scope.names (cloFrom X.env.cells scope.names [])) s3.heap.objs.size X.env)) (compPost (model X.prog X.w) X.A X.xe use Qf (.ref D) s3.heap.objs.size) { s3 with heap := pushCells (s3.heap.push { cls := .type "dict", data := .dict #[] }) scope.names }
  have nfp : ∀ b ∈ fp, (upd H2 D (.lst [])) b = none := fun b hb => (f3 b hb).1.1
  generalize hce : compEnvC scope (cellsFrom (s3.heap.objs.size + 1) scope.names (cloFrom X.env.cells scope.names [])) s3.heap.objs.size X.env = ce at I4 pg pt pe ⊢
  have cL : ce.locals = s3.heap.objs.size := by subst hce; rfl
  generalize hH3 : upd H2 D (.lst []) = H3 at I3 I4 pg pt pe w0 nfp f3
  generalize hs4 : ({ s3 with heap := pushCells (s3.heap.push { cls := .type "dict", data := .dict #[] }) scope.names } : Shared) = s4 at I4 ⊢
  have st4 : tn 0 s4.heap := T.keep _ _ _ st3 fun b _ o e => by rw [← hs4]; exact pushCells_keeps _ _ _ _ (Heap.get?_push_of_some _ e)
  have stat : ∀ {σ' : St} {H' : Hp} {s' : Shared}, Inv (X.blk s3 H3 scope ce fp) [] σ' H' s' → (∀ b ∈ fp, H' b = none) → ∀ b ∈ fp, FpOk (X.blk s3 H3 scope ce fp) [] H' b := fun {σ' H' s'} I' hn b hb =>
    ⟨hn b hb, (I'.ok.exf b hb).1, I'.ok.exfs b hb, .inl hb, fun x c e => (I'.ok.exf b hb).2 x c e, fun p hp => absurd (show p ∈ ([] : List (Addr × Obj)) ++ [] from hp) (by simp)⟩
  have loop : codeAny (model X.prog X.w) X.A (.compLoop (.ListComp elt [⟨tg, iter, ifs, 0⟩] scope pos) 0 (.ref it) (.ref D) ce) (compPost (model X.prog X.w) X.A X.xe use Qf (.ref D) s3.heap.objs.size) s4 := by
    refine compLoop_any (fun n s' => ∃ i H', Inv (X.blk s3 H3 scope ce fp) [] (wipe σ (own.map (·.2))) H' s' ∧ tn i s'.heap ∧ (∀ b ∈ fp, H' b = none) ∧ W i n H') ?_ m0 ⟨0, H3, I4, st4, nfp, w0⟩
    rintro n s5 ⟨i, H5, I5, st5, n5, w5⟩
    rcases turn i n H5 w5 with ⟨stop, qq⟩ | ⟨go, Nx, hNx, step⟩
    · have td := T.done (X.blk s3 H3 scope ce fp) rfl rfl rfl hc i [] s5 _ H5 (fun _ _ => False) I5 (stat I5 n5) st5 stop
      refine thnF td fun r s6 ⟨hr, I6⟩ => ?_
      subst hr
      have I7 : Inv X pins σ H5 s6 := I3.call' (ch := fp) I6.os I6.base I6.hok I6.bare fun b hb => ⟨(f3 b hb).1.2.2.2.1, (f3 b hb).1.2.1, (f3 b hb).1.2.2.2.2.1, (f3 b hb).1.2.2.2.2.2⟩
      have nC : H5 s3.heap.objs.size = none := by
        have z : H5 ce.locals = none := I6.free
        rw [cL] at z
        exact z
      obtain ⟨m, hn, _⟩ := I6.loc
      have hn : s6.heap.Ns ce.locals m := hn
      rw [cL] at hn
      exact hRR D s3.heap.objs.size s6 m H5 I7 qq hn (I3.fpOk (Nat.le_refl _) nC)
    · have ti := T.item (X.blk s3 H3 scope ce fp) rfl rfl rfl hc i [] s5 _ H5 (fun _ _ => False) I5 (stat I5 n5) st5 go
      refine thnF ti fun r s6 ⟨u, hr, h6⟩ => ?_
      subst hr
      refine thnF h6 fun _ s7 ⟨x, H7, I7, r7, y7, st7, n7⟩ => ?_
      have I7' := I7.pinned (stat I7 n7) (T.obj _ _ st7)
      refine thnF (pg _ s7 _ H7 x u _ I7' r7 (step x H7 y7)) fun _ s8 ⟨σ8, H8, I8, hw8, q8⟩ => ?_
      refine thnF (pt _ s8 σ8 H8 _ I8 q8) fun b s9 ⟨H9, I9, q9⟩ => ?_
      have fin : ∀ {s' : Shared} {H' : Hp}, Inv (X.blk s3 H3 scope ce fp) ([] ++ pinsAt fp s7.heap) σ8 H' s' → Nx H' → ∃ m, m < n ∧ ∃ i H', Inv (X.blk s3 H3 scope ce fp) [] (wipe σ (own.map (·.2))) H' s' ∧ tn i s'.heap ∧ (∀ b ∈ fp, H' b = none) ∧ W i m H' := fun {s' H'} I' nx => by
        obtain ⟨m', hm, w'⟩ := hNx H' nx
        have pin' : ∀ b ∈ fp, ∀ o, s7.heap.get? b = some o → s'.heap.get? b = some o ∧ H' b = none := fun b hb o e =>
          let z := I'.pin (b, o) (List.mem_append_right _ (List.mem_append_right _ (mem_pinsAt hb e)))
          ⟨z.1, z.2.1⟩
        have hl : (wipe σ (own.map (·.2))).length = σ8.length := by rw [← hw8, wipe_length]
        refine ⟨m', hm, i + 1, H', (I'.unpinned (pins := [])).weak hl (fun j v e => ?_), T.keep _ _ _ st7 fun b hb o e => (pin' b hb o e).1, fun b hb => ?_, w'⟩
        · rw [← hw8] at e
          exact (wipe_some e).1
        · obtain ⟨o, e, _⟩ := T.obj _ _ st7 b hb
          exact (pin' b hb o e).2
      cases b with
      | false =>
        simp only [Bool.false_eq_true, if_false] at q9 ⊢
        exact fin I9 q9
      | true =>
        simp only [if_true] at q9 ⊢
        refine thnF (pe _ s9 σ8 H9 _ I9 q9) fun z s10 ⟨yv, H10, I10, r10, acc, hD10, hz10, nx⟩ => ?_
        exact app_ok (X := X.blk s3 H3 scope ce fp) I10 hD10 hz10 r10 fun s11 I11 => fin I11 nx
  exact codeAny_compStart_list loop (T.self X.A 0 _ _ _ st4 loop)
theorem pe_lc {elt tg iter : Expr} {ifs : List Expr} {scope : Scope} {own : List (Str × Nat)} {pos : Pos} {wi : TI} {g : TG} {tt : TT} {te : TE} (hc : X.calm = true) (hN : X.N.Nodup) (hi : PI X tg iter wi) (ok : BlkOk X.N X.env.scope scope own)
    (hg : ∀ (s : Shared) (H : Hp) (C : Addr) (cl : List (Str × Addr)) (fp : List Addr), PG (X.blk s H scope (compEnvC scope cl C X.env) fp) tg g) (ht : ∀ (s : Shared) (H : Hp) (C : Addr) (cl : List (Str × Addr)) (fp : List Addr), PTs (X.blk s H scope (compEnvC scope cl C X.env) fp) ifs tt)
    (he : ∀ (s : Shared) (H : Hp) (C : Addr) (cl : List (Str × Addr)) (fp : List Addr), PE (X.blk s H scope (compEnvC scope cl C X.env) fp) elt te) (hs : ∀ x, foldedSetIterable iter X.env x = pure x := by intro _; rfl) :
    PE X (.ListComp elt [⟨tg, iter, ifs, 0⟩] scope pos) (tLc wi g tt te (own.map (·.2))) := by
  intro pins s σ H Q I h
  rw [eval_ListComp]
  refine lc_core hc hN I hi ok hg ht he hs h fun D C s' m H' I' q hn f => ⟨m, hn, fun h'' sb => ?_⟩
  obtain ⟨f0, f1, f2, f3, f4, f5⟩ := f
  exact ⟨.ref D, H', I'.turned (t' := s'.toks) (fun b o hb e => (sb.2 b hb).trans e) f0 f1 f3 f4 f5, rfl, q⟩
theorem ps_setLc {i : Nat} {y : Str} {py : Pos} {elt tg iter : Expr} {ifs : List Expr} {scope : Scope} {own : List (Str × Nat)} {pos spos : Pos} {wi : TI} {g : TG} {tt : TT} {te : TE} (hc : X.calm = true) (hN : X.N.Nodup) (hy : X.N[i]? = some y) (hyl : X.env.scope.names.lookup y = some .local)
    (hsw : swapsWith (.ListComp elt [⟨tg, iter, ifs, 0⟩] scope pos) (some (.Name y py)) spos.line X.env = pure true) (hi : PI X tg iter wi) (ok : BlkOk X.N X.env.scope scope own)
    (hg : ∀ (s : Shared) (H : Hp) (C : Addr) (cl : List (Str × Addr)) (fp : List Addr), PG (X.blk s H scope (compEnvC scope cl C X.env) fp) tg g) (ht : ∀ (s : Shared) (H : Hp) (C : Addr) (cl : List (Str × Addr)) (fp : List Addr), PTs (X.blk s H scope (compEnvC scope cl C X.env) fp) ifs tt)
    (he : ∀ (s : Shared) (H : Hp) (C : Addr) (cl : List (Str × Addr)) (fp : List Addr), PE (X.blk s H scope (compEnvC scope cl C X.env) fp) elt te) (hs : ∀ x, foldedSetIterable iter X.env x = pure x := by intro _; rfl) :
    PS X (.Assign [.Name y py] (.ListComp elt [⟨tg, iter, ifs, 0⟩] scope pos) spos) (tAsg (tLc wi g tt te (own.map (·.2))) (gName i)) := by
  intro pins s σ H D I h
  rw [exec_Assign_Name_used _ _ _ _ hsw]
  refine wpAny_bind (wpAny_standAt (wpAny_bind ?_))
  show wpAny _ X.A (do let _ ← comprehension (.ListComp elt [⟨tg, iter, ifs, 0⟩] scope pos) scope X.env (firstIterPos [⟨tg, iter, ifs, 0⟩] pos) (newList []) false (eval iter X.env) (some (assign (.Name y py) X.env))) _ _ s
  have h : tLc wi g tt te (own.map (·.2)) σ H (fun x H1 => gName i x σ H1 D.nx) := h
  refine wpAny_bind (thn (lc_core (Qf := fun _ s' => SP X pins D .next s') hc hN I hi ok hg ht he hs h fun L C s' m H' I' q hn f => ?_) fun _ s' hq => wpAny_pure (wpAny_pure hq))
  show wpAny _ _ (assign (.Name y py) X.env (.ref L)) _ _ _
  refine wpAny_assign_Name (store_ok2 (v := V.ref L) I' hN hy (.inl hyl) rfl (fun s2 I2 ⟨a, sb, ha⟩ => ?_) (.inr hyl))
  obtain ⟨f0, f1, f2, f3, f4, f5⟩ := f
  have haC : C ≠ a := by
    rcases ha with z | z
    · rw [z]; exact f1
    · exact fun e => f4 y a z e.symm
  refine ⟨m, hn.sameBut sb haC, fun h3 sb3 => ?_⟩
  exact ⟨_, H', I2.turned (t' := s2.toks) (fun b o hb e => (sb3.2 b hb).trans e) f0 f1 f3 f4 f5, q⟩
theorem sw_true {elt : Expr} {gs : List Comprehension} {scope : Scope} {pos py : Pos} {y : Str} {l : Nat} {env : Env} (hk : env.scope.kind = .function) (hy : env.scope.names.lookup y = some .local) (hl : (py.line == pos.line) = true)
    (ha : (scope.names.any fun (n, k) => n == y && (k == .local || k == .cell)) = false) : swapsWith (.ListComp elt gs scope pos) (some (.Name y py)) l env = pure true := by
  have ky : env.kindOf y = some .local := hy
  have hb : env.blockKind = .function := by unfold Env.blockKind; rw [hk]; rfl
  unfold swapsWith
  simp only [hb, ky, ha, Expr.pos, hl]
  rfl
end
theorem lc_range {lo : Int} {n : Nat} {g : TG} {tt : TT} {te : TE} {vs : List Nat} {σ : St} {H1 : Hp} {D : Addr} {Qd : Hp → Prop} (Pv : Nat → Hp → Prop) (h0 : Pv 0 (upd H1 D (.lst [])))
    (hs : ∀ i H, i < n → Pv i H → g (.int (lo + i)) (wipe σ vs) H fun σ2 H2 => wipe σ2 vs = wipe σ vs ∧ tt σ2 H2 fun b H3 =>
      if b = true then te σ2 H3 fun y H4 => ∃ acc, H4 D = some (.lst acc) ∧ acc.length < sizeLine ∧ Pv (i + 1) (upd H4 D (.lst (acc ++ [y]))) else Pv (i + 1) H3) (hd : ∀ H, Pv n H → Qd H) :
    ∃ W : Nat → Nat → Hp → Prop, (∃ m, W 0 m (upd H1 D (.lst []))) ∧ ∀ i m H, W i m H →
      ((Itr lo n).stop i H ∧ Qd H) ∨ ((Itr lo n).go i H ∧ ∃ Nx : Hp → Prop, (∀ H', Nx H' → ∃ m', m' < m ∧ W (i + 1) m' H') ∧ ∀ x H', (Itr lo n).yld i H x H' → g x (wipe σ vs) H' fun σ2 H2 => wipe σ2 vs = wipe σ vs ∧ tt σ2 H2 fun b H3 =>
        if b = true then te σ2 H3 fun y H4 => ∃ acc, H4 D = some (.lst acc) ∧ acc.length < sizeLine ∧ Nx (upd H4 D (.lst (acc ++ [y]))) else Nx H3) := by
  refine ⟨fun i m H => m = n - i ∧ i ≤ n ∧ Pv i H, ⟨n, by simp, Nat.zero_le _, h0⟩, ?_⟩
  rintro i m H ⟨rfl, hi, p⟩
  by_cases hlt : i < n
  · refine .inr ⟨hlt, Pv (i + 1), fun H' p' => ⟨n - (i + 1), by omega, rfl, hlt, p'⟩, fun x H' y => ?_⟩
    obtain ⟨e, y⟩ := y
    subst e y
    exact hs i _ hlt p
  · have e : i = n := by omega
    subst e
    exact .inl ⟨Nat.le_refl _, hd H p⟩
theorem lc_list {K : PySem.W.Frag} {a : Addr} {xs : List V} {g : TG} {tt : TT} {te : TE} {vs : List Nat} {σ : St} {H1 : Hp} {D : Addr} {Qd : Hp → Prop} (Pv : Nat → Hp → Prop) (h0 : Pv 0 (upd H1 D (.lst []))) (hl : ∀ i H, i ≤ xs.length → Pv i H → SqL K H a xs)
    (hs : ∀ i x H, xs[i]? = some x → Pv i H → g x (wipe σ vs) H fun σ2 H2 => wipe σ2 vs = wipe σ vs ∧ tt σ2 H2 fun b H3 =>
      if b = true then te σ2 H3 fun y H4 => ∃ acc, H4 D = some (.lst acc) ∧ acc.length < sizeLine ∧ Pv (i + 1) (upd H4 D (.lst (acc ++ [y]))) else Pv (i + 1) H3) (hd : ∀ H, Pv xs.length H → Qd H) :
    ∃ W : Nat → Nat → Hp → Prop, (∃ m, W 0 m (upd H1 D (.lst []))) ∧ ∀ i m H, W i m H →
      ((Itl K a).stop i H ∧ Qd H) ∨ ((Itl K a).go i H ∧ ∃ Nx : Hp → Prop, (∀ H', Nx H' → ∃ m', m' < m ∧ W (i + 1) m' H') ∧ ∀ x H', (Itl K a).yld i H x H' → g x (wipe σ vs) H' fun σ2 H2 => wipe σ2 vs = wipe σ vs ∧ tt σ2 H2 fun b H3 =>
        if b = true then te σ2 H3 fun y H4 => ∃ acc, H4 D = some (.lst acc) ∧ acc.length < sizeLine ∧ Nx (upd H4 D (.lst (acc ++ [y]))) else Nx H3) := by
  refine ⟨fun i m H => m = xs.length - i ∧ i ≤ xs.length ∧ Pv i H, ⟨xs.length, by simp, Nat.zero_le _, h0⟩, ?_⟩
  rintro i m H ⟨rfl, hi, p⟩
  have q := hl i H hi p
  by_cases hlt : i < xs.length
  · refine .inr ⟨⟨xs, xs[i], q, by simp [hlt]⟩, Pv (i + 1), fun H' p' => ⟨xs.length - (i + 1), by omega, rfl, hlt, p'⟩, fun x H' y => ?_⟩
    obtain ⟨e, y⟩ := y
    subst e
    exact hs i x _ (y xs q) p
  · have e : i = xs.length := by omega
    subst e
    exact .inl ⟨⟨xs, q, Nat.le_refl _⟩, hd H p⟩
theorem lc_tup {K : PySem.W.Frag} {a : Addr} {xs : List V} {g : TG} {tt : TT} {te : TE} {vs : List Nat} {σ : St} {H1 : Hp} {D : Addr} {Qd : Hp → Prop} (Pv : Nat → Hp → Prop) (h0 : Pv 0 (upd H1 D (.lst []))) (hl : ∀ i H, i ≤ xs.length → Pv i H → SqT K H a xs)
    (hs : ∀ i x H, xs[i]? = some x → Pv i H → g x (wipe σ vs) H fun σ2 H2 => wipe σ2 vs = wipe σ vs ∧ tt σ2 H2 fun b H3 =>
      if b = true then te σ2 H3 fun y H4 => ∃ acc, H4 D = some (.lst acc) ∧ acc.length < sizeLine ∧ Pv (i + 1) (upd H4 D (.lst (acc ++ [y]))) else Pv (i + 1) H3) (hd : ∀ H, Pv xs.length H → Qd H) :
    ∃ W : Nat → Nat → Hp → Prop, (∃ m, W 0 m (upd H1 D (.lst []))) ∧ ∀ i m H, W i m H →
      ((Itt K a).stop i H ∧ Qd H) ∨ ((Itt K a).go i H ∧ ∃ Nx : Hp → Prop, (∀ H', Nx H' → ∃ m', m' < m ∧ W (i + 1) m' H') ∧ ∀ x H', (Itt K a).yld i H x H' → g x (wipe σ vs) H' fun σ2 H2 => wipe σ2 vs = wipe σ vs ∧ tt σ2 H2 fun b H3 =>
        if b = true then te σ2 H3 fun y H4 => ∃ acc, H4 D = some (.lst acc) ∧ acc.length < sizeLine ∧ Nx (upd H4 D (.lst (acc ++ [y]))) else Nx H3) := by
  refine ⟨fun i m H => m = xs.length - i ∧ i ≤ xs.length ∧ Pv i H, ⟨xs.length, by simp, Nat.zero_le _, h0⟩, ?_⟩
  rintro i m H ⟨rfl, hi, p⟩
  have q := hl i H hi p
  by_cases hlt : i < xs.length
  · refine .inr ⟨⟨xs, xs[i], q, by simp [hlt]⟩, Pv (i + 1), fun H' p' => ⟨xs.length - (i + 1), by omega, rfl, hlt, p'⟩, fun x H' y => ?_⟩
    obtain ⟨e, y⟩ := y
    subst e
    exact hs i x _ (y xs q) p
  · have e : i = xs.length := by omega
    subst e
    exact .inl ⟨⟨xs, q, Nat.le_refl _⟩, hd H p⟩
def blkC (N : List Str) (sc scope : Scope) (own : List (Str × Nat)) : Bool :=
  (match scope.kind with | .function => true | _ => false) && (scope.names.all fun y => decide (scope.names.lookup y.1 = some y.2)) && (own.all fun p => decide (N[p.2]? = some p.1)) &&
    (scope.names.all fun y => match y.2 with
      | .free => (match sc.names.lookup y.1 with | some .cell => true | some .free => true | _ => false)
      | .local => decide (y.1 ∈ own.map (·.1)) || decide (y.1 ∉ N)
      | .cell => decide (y.1 ∈ own.map (·.1)) || decide (y.1 ∉ N)
      | _ => true)
theorem blkOk_by {N : List Str} {sc scope : Scope} {own : List (Str × Nat)} (h : blkC N sc scope own = true) : BlkOk N sc scope own := by
  unfold blkC at h
  simp only [Bool.and_eq_true, List.all_eq_true, decide_eq_true_eq] at h
  obtain ⟨⟨⟨h1, h2⟩, h3⟩, h4⟩ := h
  refine ⟨?_, h2, h3, fun y hy e => ?_, fun y hy e => ?_⟩
  · split at h1
    · assumption
    · cases h1
  · have q := h4 y hy
    simp only [e] at q
    split at q <;> first | exact .inl (by assumption) | exact .inr (by assumption) | cases q
  · have q := h4 y hy
    rcases e with e | e <;> (simp only [e, Bool.or_eq_true, decide_eq_true_eq] at q; exact q)
end L2
namespace L2
open PySem PySem.Spec PyProof.Rows
end L2
namespace L2
open PySem PySem.Spec PyProof.Rows
section
variable {κ : Type} [DecidableEq κ]
def valV (kvs : List (κ × V)) (k : κ) : Option V := (kvs.find? fun kv => decide (kv.1 = k)).map (·.2)
def putK (kvs : List (κ × V)) (k : κ) (v : V) : List (κ × V) :=
  if (kvs.any fun kv => decide (kv.1 = k)) = true then kvs.map (fun kv => if kv.1 = k then (kv.1, v) else kv) else kvs ++ [(k, v)]
def dropK (kvs : List (κ × V)) (k : κ) : List (κ × V) := kvs.filter fun kv => decide (kv.1 ≠ k)
theorem valV_pos {p : κ × V} {r : List (κ × V)} {k : κ} (e : p.1 = k) : valV (p :: r) k = some p.2 := by simp [valV, List.find?_cons, e]
theorem valV_neg {p : κ × V} {r : List (κ × V)} {k : κ} (e : ¬ p.1 = k) : valV (p :: r) k = valV r k := by simp [valV, List.find?_cons, e]
theorem valV_any (k : κ) : ∀ kvs : List (κ × V), (kvs.any fun kv => decide (kv.1 = k)) = (valV kvs k).isSome
  | [] => rfl
  | p :: r => by
    rw [List.any_cons]
    by_cases e : p.1 = k
    · simp only [valV_pos e, decide_eq_true e, Bool.true_or, Option.isSome_some]
    · rw [valV_neg e, decide_eq_false e, Bool.false_or]; exact valV_any k r
theorem valV_map (k j : κ) (y : V) : ∀ kvs : List (κ × V), valV (kvs.map fun kv => if kv.1 = k then (kv.1, y) else kv) j = (valV kvs j).map fun x => if j = k then y else x
  | [] => rfl
  | p :: r => by
    have ih := valV_map k j y r
    rw [List.map_cons]
    by_cases h : p.1 = k
    · rw [if_pos h]
      by_cases e : p.1 = j
      · rw [valV_pos (p := (p.1, y)) e, valV_pos e, Option.map_some, if_pos (e.symm.trans h)]
      · rw [valV_neg (p := (p.1, y)) e, valV_neg e, ih]
    · rw [if_neg h]
      by_cases e : p.1 = j
      · rw [valV_pos (p := p) e, valV_pos e, Option.map_some, if_neg (fun z => h (e.trans z))]
      · rw [valV_neg (p := p) e, valV_neg e, ih]
theorem valV_snoc (k j : κ) (y : V) : ∀ kvs : List (κ × V), valV kvs k = none → valV (kvs ++ [(k, y)]) j = if j = k then some y else valV kvs j
  | [], _ => by
    by_cases e : k = j
    · rw [if_pos e.symm]; exact valV_pos (p := (k, y)) e
    · rw [if_neg (fun z => e z.symm)]; exact valV_neg (p := (k, y)) e
  | p :: r, hn => by
    rw [List.cons_append]
    have hk : ¬ p.1 = k := fun z => by rw [valV_pos z] at hn; cases hn
    rw [valV_neg hk] at hn
    have ih := valV_snoc k j y r hn
    by_cases e : p.1 = j
    · rw [valV_pos e, valV_pos e, if_neg (fun z => hk (e.trans z))]
    · rw [valV_neg e, valV_neg e, ih]
theorem valV_put (kvs : List (κ × V)) (k j : κ) (y : V) : valV (putK kvs k y) j = if j = k then some y else valV kvs j := by
  unfold putK
  by_cases a : (kvs.any fun kv => decide (kv.1 = k)) = true
  · rw [if_pos a, valV_map]
    rw [valV_any] at a
    by_cases e : j = k
    · obtain ⟨x, hx⟩ := Option.isSome_iff_exists.mp a
      rw [if_pos e, e, hx, Option.map_some, if_pos rfl]
    · rw [if_neg e]
      cases valV kvs j with
      | none => rfl
      | some x => rw [Option.map_some, if_neg e]
  · rw [if_neg a]
    refine valV_snoc k j y kvs ?_
    rw [valV_any] at a
    cases q : valV kvs k with
    | none => rfl
    | some x => rw [q] at a; exact (a rfl).elim
theorem length_putK (kvs : List (κ × V)) (k : κ) (v : V) : (putK kvs k v).length ≤ kvs.length + 1 := by
  unfold putK
  split
  · rw [List.length_map]; omega
  · rw [List.length_append, List.length_cons, List.length_nil]; omega
theorem putK_new {kvs : List (κ × V)} {k : κ} (v : V) (h : valV kvs k = none) : putK kvs k v = kvs ++ [(k, v)] := by
  unfold putK
  rw [valV_any, h]
  exact if_neg (by decide)
theorem RelO.isSome_eq {o : Option V} {u : Option Value} (r : RelO o u) : o.isSome = u.isSome := by
  cases o with
  | none => cases u with
    | none => rfl
    | some _ => exact (show False from r).elim
  | some _ => cases u with
    | none => exact (show False from r).elim
    | some _ => rfl
theorem RelO.getD {o : Option V} {u : Option Value} {d : V} {d' : Value} (r : RelO o u) (rd : RelV d d') : RelV (o.getD d) (u.getD d') := by
  cases o with
  | none => cases u with
    | none => exact rd
    | some _ => exact (show False from r).elim
  | some _ => cases u with
    | none => exact (show False from r).elim
    | some _ => exact r
theorem KV.val {kvs : List (κ × V)} {vs : List (κ × Value)} (r : KV kvs vs) (k : κ) : RelO (valV kvs k) (valueAt vs k) := by
  unfold KV at r
  induction r with
  | nil => exact True.intro
  | @cons p q ps qs h t ih =>
    obtain ⟨h1, h2⟩ := h
    by_cases e : p.1 = k
    · have e' : q.1 = k := h1.symm.trans e
      have b : valueAt (q :: qs) k = some q.2 := by simp [valueAt, List.find?_cons, e']
      rw [valV_pos e, b]; exact h2
    · have e' : ¬ q.1 = k := fun z => e (h1.trans z)
      have b : valueAt (q :: qs) k = valueAt qs k := by simp [valueAt, List.find?_cons, e']
      rw [valV_neg e, b]; exact ih
theorem KV.any {kvs : List (κ × V)} {vs : List (κ × Value)} (r : KV kvs vs) (k : κ) : (kvs.any fun kv => decide (kv.1 = k)) = vs.any fun kv => decide (kv.1 = k) := by
  unfold KV at r
  induction r with
  | nil => rfl
  | cons h t ih => rw [List.any_cons, List.any_cons, ih, h.1]
theorem KV.repl {kvs : List (κ × V)} {vs : List (κ × Value)} (r : KV kvs vs) (k : κ) {y : V} {u : Value} (ry : RelV y u) :
    KV (kvs.map fun kv => if kv.1 = k then (kv.1, y) else kv) (vs.map fun kv => if kv.1 = k then (kv.1, u) else kv) := by
  unfold KV at r ⊢
  induction r with
  | nil => exact .nil
  | @cons p q ps qs h t ih =>
    rw [List.map_cons, List.map_cons]
    refine .cons ?_ ih
    obtain ⟨h1, h2⟩ := h
    by_cases e : p.1 = k
    · rw [if_pos e, if_pos (h1.symm.trans e)]; exact ⟨h1, ry⟩
    · rw [if_neg e, if_neg (fun z => e (h1.trans z))]; exact ⟨h1, h2⟩
theorem KV.put {kvs : List (κ × V)} {vs : List (κ × Value)} (r : KV kvs vs) (k : κ) {y : V} {u : Value} (ry : RelV y u) : KV (putK kvs k y) (stored vs k u) := by
  unfold putK stored
  rw [r.any k]
  by_cases e : (vs.any fun kv => decide (kv.1 = k)) = true
  · rw [if_pos e, if_pos e]; exact r.repl k ry
  · rw [if_neg e, if_neg e]; exact Paired.snoc r ⟨rfl, ry⟩
theorem KV.length {kvs : List (κ × V)} {vs : List (κ × Value)} (r : KV kvs vs) : kvs.length = vs.length := Paired.length r
theorem dropK_le (kvs : List (κ × V)) (k : κ) : (dropK kvs k).length ≤ kvs.length := List.length_filter_le _ _
end
theorem kV_is {P : Program} {w : World} {k : Key} {u : Value} (r : RelV (kV k) u) : (mixKind P w).is k u = true := by
  cases k with
  | inl i => obtain ⟨t, e⟩ := (show ∃ t, u = Value.int i t from r); subst e; exact mixKind_int P w i t
  | inr x => obtain ⟨t, e⟩ := (show ∃ t, u = Value.str x t from r); subst e; exact mixKind_str P w x t
theorem items_are {P : Program} {w : World} : ∀ {ks : List Key} {us : List Value}, Vals (ks.map kV) us → ItemsAre (mixKind P w) ks us
  | [], _, r => by rw [List.map_nil] at r; cases r; exact .nil
  | k :: ks, _, r => by
    rw [List.map_cons] at r
    cases r with
    | cons h t => exact .cons (kV_is h) (items_are t)
abbrev KT (H : Hp) : List (List Key × V) → List (List Key × Addr × Value) → Prop := Paired fun p q => p.1 = q.1 ∧ H q.2.1 = some (.tup (p.1.map kV)) ∧ RelV p.2 q.2.2
theorem KT.val {H : Hp} {kvs : List (List Key × V)} {xs : List (List Key × Addr × Value)} (r : KT H kvs xs) (k : List Key) : RelO (valV kvs k) ((atKey xs k).map (·.2)) := by
  induction r with
  | nil => exact True.intro
  | @cons p q ps qs h t ih =>
    obtain ⟨h1, _, h2⟩ := h
    by_cases e : p.1 = k
    · have e' : q.1 = k := h1.symm.trans e
      have b : atKey (q :: qs) k = some q.2 := by simp [atKey, List.find?_cons, e']
      rw [valV_pos e, b]; exact h2
    · have e' : ¬ q.1 = k := fun z => e (h1.trans z)
      have b : atKey (q :: qs) k = atKey qs k := by simp [atKey, List.find?_cons, e']
      rw [valV_neg e, b]; exact ih
theorem KT.repl {H : Hp} {kvs : List (List Key × V)} {xs : List (List Key × Addr × Value)} (r : KT H kvs xs) (k : List Key) {y : V} {u : Value} (ry : RelV y u) :
    KT H (kvs.map fun kv => if kv.1 = k then (kv.1, y) else kv) (xs.map (putAt k u)) := by
  induction r with
  | nil => exact .nil
  | @cons p q ps qs h t ih =>
    rw [List.map_cons, List.map_cons]
    refine .cons ?_ ih
    obtain ⟨h1, h2, h3⟩ := h
    unfold putAt
    by_cases e : p.1 = k
    · rw [if_pos e, if_pos (h1.symm.trans e)]; exact ⟨h1, h2, ry⟩
    · rw [if_neg e, if_neg (fun z => e (h1.trans z))]; exact ⟨h1, h2, h3⟩
theorem KT.put {H : Hp} {kvs : List (List Key × V)} {xs : List (List Key × Addr × Value)} (r : KT H kvs xs) (k : List Key) {b : Addr} {y : V} {u : Value} (hb : H b = some (.tup (k.map kV))) (ry : RelV y u) :
    KT H (putK kvs k y) (storedH xs k b u) := by
  have e : (kvs.any fun kv => decide (kv.1 = k)) = (atKey xs k).isSome := by
    rw [valV_any, (r.val k).isSome_eq, Option.isSome_map]
  unfold putK storedH
  rw [e]
  by_cases q : (atKey xs k).isSome = true
  · rw [if_pos q, if_pos q]; exact r.repl k ry
  · rw [if_neg q, if_neg q]; exact Paired.snoc r ⟨rfl, hb, ry⟩
theorem KT.keeps {H H' : Hp} {kvs : List (List Key × V)} {xs : List (List Key × Addr × Value)} (r : KT H kvs xs) (ht : ∀ b ys, H b = some (.tup ys) → H' b = some (.tup ys)) : KT H' kvs xs :=
  Paired.mapP r fun _ _ z => ⟨z.1, ht _ _ z.2.1, z.2.2⟩
section
variable {P : Program} {w : World} {H : Hp} {h : Heap} {a : Addr}
theorem rd_of {u : HO} (ok : HOk P w H h) (e : Rd H a u) : ObjOk P w H h a u := e.ok ok
theorem dk_rd {kvs : List (Key × V)} (ok : HOk P w H h) (e : Rd H a (.dK kvs)) : kvs.length ≤ sizeLine ∧ (a == sysModules) = false ∧ ∃ vs, KV kvs vs ∧ h.DictOf (mixKind P w) a vs :=
  show ObjOk P w H h a (.dK kvs) from rd_of ok e
theorem dk_of {kvs : List (Key × V)} (ok : HOk P w H h) (e : H a = some (.dK kvs)) : kvs.length ≤ sizeLine ∧ (a == sysModules) = false ∧ ∃ vs, KV kvs vs ∧ h.DictOf (mixKind P w) a vs := dk_rd ok (.inl e)
theorem key_of {ks : List Key} (ok : HOk P w H h) (e : H a = some (.tup (ks.map kV))) : (tupleKind (mixKind P w)).is h ks a := by
  obtain ⟨_, its, r, o, h1, h2, n, h3⟩ := (show ObjOk P w H h a (.tup (ks.map kV)) from ok a _ e)
  exact ⟨o, its.toArray, n, h1, h2, h3, by simpa using items_are r⟩
theorem dt_rd {kvs : List (List Key × V)} (ok : HOk P w H h) (e : Rd H a (.dT kvs)) : kvs.length ≤ sizeLine ∧ (a == sysModules) = false ∧
    ∃ xs, KT H kvs xs ∧ h.DictOfH (tupleKind (mixKind P w)) a xs := by
  obtain ⟨z, y, xs, r, o, es, ep, h1, h2, h3, h4, h5⟩ := (show ObjOk P w H h a (.dT kvs) from rd_of ok e)
  refine ⟨z, y, xs, r, o, es, ep, h1, h2, h3, h4, fun x hx => ?_, h5⟩
  have all : ∀ {l : List (List Key × V)} {m : List (List Key × Addr × Value)}, KT H l m → ∀ x ∈ m, (tupleKind (mixKind P w)).is h x.1 x.2.1 := by
    intro l m q
    induction q with
    | nil => intro x hx; exact nomatch hx
    | @cons p q ps qs hq t ih =>
      intro x hx
      rcases List.mem_cons.mp hx with e | hx
      · subst e
        exact key_of ok (by rw [← hq.1]; exact hq.2.1)
      · exact ih x hx
  exact all r x hx
theorem dt_of {kvs : List (List Key × V)} (ok : HOk P w H h) (e : H a = some (.dT kvs)) : kvs.length ≤ sizeLine ∧ (a == sysModules) = false ∧
    ∃ xs, KT H kvs xs ∧ h.DictOfH (tupleKind (mixKind P w)) a xs := dt_rd ok (.inl e)
end
def DGet (H : Hp) (a : Addr) (y : V) (r : Option V) : Prop :=
  (∃ kvs k, Rd H a (.dK kvs) ∧ y = kV k ∧ r = valV kvs k) ∨ ∃ kvs k b, Rd H a (.dT kvs) ∧ y = .ref b ∧ H b = some (.tup (k.map kV)) ∧ r = valV kvs k
def DPut (H : Hp) (a : Addr) (y v : V) (H' : Hp) : Prop :=
  (∃ kvs k, H a = some (.dK kvs) ∧ y = kV k ∧ kvs.length < sizeLine ∧ H' = upd H a (.dK (putK kvs k v))) ∨
  ∃ kvs k b, H a = some (.dT kvs) ∧ y = .ref b ∧ H b = some (.tup (k.map kV)) ∧ kvs.length < sizeLine ∧ H' = upd H a (.dT (putK kvs k v))
theorem DGet.k {H : Hp} {a : Addr} {kvs : List (Key × V)} {k : Key} (e : H a = some (.dK kvs)) : DGet H a (kV k) (valV kvs k) := .inl ⟨kvs, k, .inl e, rfl, rfl⟩
theorem DGet.t {H : Hp} {a b : Addr} {kvs : List (List Key × V)} {k : List Key} (e : H a = some (.dT kvs)) (eb : H b = some (.tup (k.map kV))) : DGet H a (.ref b) (valV kvs k) := .inr ⟨kvs, k, b, .inl e, rfl, eb, rfl⟩
theorem DPut.k {H : Hp} {a : Addr} {kvs : List (Key × V)} {k : Key} {v : V} (e : H a = some (.dK kvs)) (hl : kvs.length < sizeLine) : DPut H a (kV k) v (upd H a (.dK (putK kvs k v))) := .inl ⟨kvs, k, e, rfl, hl, rfl⟩
theorem DPut.t {H : Hp} {a b : Addr} {kvs : List (List Key × V)} {k : List Key} {v : V} (e : H a = some (.dT kvs)) (eb : H b = some (.tup (k.map kV))) (hl : kvs.length < sizeLine) :
    DPut H a (.ref b) v (upd H a (.dT (putK kvs k v))) := .inr ⟨kvs, k, b, e, rfl, eb, hl, rfl⟩
section
variable {X : Cx} {pins : List (Addr × Obj)} {σ : St} {H : Hp} {s : Shared} {a : Addr} {y v : V} {u r : Value} {o : Option V} {A : Around} {E : Value → Shared → Prop}
theorem Inv.big (I : Inv X pins σ H s) : sysModules < s.heap.objs.size := by
  have h : mainGlobals < s.heap.objs.size := (I.mod.glob.keeps I.bk).lt
  exact Nat.lt_trans (by decide) h
theorem d_getItem {Q : Value → Shared → Prop} (hu : A.units + 1 < cLine) (I : Inv X pins σ H s) (g : DGet H a y (some v)) (ry : RelV y u) (h : ∀ w' s', Inv X pins σ H s' → RelV v w' → Q w' s') :
    wpAny (model X.prog X.w) A (getItem (.ref a) u) Q E s := by
  rcases g with ⟨kvs, k, e, ey, l⟩ | ⟨kvs, k, b, e, ey, eb, l⟩
  · subst ey
    obtain ⟨z, hd, vs, rel, dd⟩ := dk_rd I.hok e
    obtain ⟨w', hw, rw'⟩ := RelO.some_of (v := v) (o := valueAt vs k) (by rw [l]; exact rel.val k)
    exact wpAny_getItem_of (kV_is ry) dd.mapOf hw (h w' _ (I.tok _) rw')
  · subst ey
    cases (show u = Value.ref b from ry)
    obtain ⟨z, hd, xs, rel, dd⟩ := dt_rd I.hok e
    obtain ⟨w', hw, rw'⟩ := RelO.some_of (v := v) (o := (atKey xs k).map (·.2)) (by rw [l]; exact rel.val k)
    obtain ⟨p, hp, hp2⟩ := Option.map_eq_some_iff.mp hw
    refine wpAny_getItem_heap (tupleKind_room_in1 hu) (key_of I.hok eb) dd hp ?_
    rw [hp2]
    exact h w' _ (I.tok _) rw'
theorem d_in {Q : Value → Shared → Prop} (hu : A.units + 1 < cLine) (I : Inv X pins σ H s) (g : DGet H a y o) (ry : RelV y u) (h : ∀ s', Inv X pins σ H s' → Q (.bool o.isSome) s') :
    wpAny (model X.prog X.w) A (compareOp .In u (.ref a)) Q E s := by
  rcases g with ⟨kvs, k, e, ey, l⟩ | ⟨kvs, k, b, e, ey, eb, l⟩
  · subst ey
    obtain ⟨z, hd, vs, rel, dd⟩ := dk_rd I.hok e
    refine wpAny_in_of (kV_is ry) hd dd.mapOf ?_
    rw [← (rel.val k).isSome_eq, ← l]
    exact h _ (I.tok _)
  · subst ey
    cases (show u = Value.ref b from ry)
    obtain ⟨z, hd, xs, rel, dd⟩ := dt_rd I.hok e
    refine wpAny_in_heap (tupleKind_room_in1 hu) (key_of I.hok eb) hd dd ?_
    have q := (rel.val k).isSome_eq
    rw [Option.isSome_map] at q
    rw [← q, ← l]
    exact h _ (I.tok _)
theorem d_write {h' : Heap} {t' : Nat} {ob : HO} (I : Inv X pins σ H s) (mu : Mut (H a)) (hs : Heap.SameBut a s.heap h') (he : ∃ q, h'.get? a = some q) (new : ObjOk X.prog X.w (upd H a ob) h' a ob) :
    Inv X pins σ (upd H a ob) { s with heap := h', toks := t' } :=
  I.write (x := a) (e := a) mu (.inl rfl) (fun b q hb z => (hs.2 b hb).trans z) he new
theorem dk_new {P : Program} {w : World} {H' : Hp} {h' : Heap} {kvs : List (Key × V)} {vs : List (Key × Value)} (z : kvs.length ≤ sizeLine) (hd : (a == sysModules) = false) (rel : KV kvs vs) (dd : h'.DictOf (mixKind P w) a vs) :
    ObjOk P w H' h' a (.dK kvs) := ⟨z, hd, vs, rel, dd⟩
theorem d_setItem {H' : Hp} {Q : Unit → Shared → Prop} (hu : A.units + 1 < cLine) (I : Inv X pins σ H s) (g : DPut H a y v H') (ry : RelV y u) (rv : RelV v r) (h : ∀ s', Inv X pins σ H' s' → Q () s') :
    wpAny (model X.prog X.w) A (setItem (.ref a) u r) Q E s := by
  rcases g with ⟨kvs, k, e, ey, l, eH⟩ | ⟨kvs, k, b, e, ey, eb, l, eH⟩
  · subst ey eH
    obtain ⟨z, hd, vs, rel, dd⟩ := dk_of I.hok e
    have hz : vs.length ≤ sizeLine := by rw [← rel.length]; exact z
    have hl : (putK kvs k v).length ≤ sizeLine := by have := length_putK kvs k v; omega
    refine wpAny_setItem_pairs (hsz := hz) (kV_is ry) dd fun h' dd' hs => h _ ?_
    have he : ∃ q, h'.get? a = some q := let ⟨q, _, _, hq, _⟩ := dd'; ⟨q, hq⟩
    exact d_write I (by rw [e]; exact True.intro) hs he (dk_new hl hd (rel.put k rv) dd')
  · subst ey eH
    cases (show u = Value.ref b from ry)
    obtain ⟨z, hd, xs, rel, dd⟩ := dt_of I.hok e
    have hz : xs.length ≤ sizeLine := by rw [← Paired.length rel]; exact z
    have hl : (putK kvs k v).length ≤ sizeLine := by have := length_putK kvs k v; omega
    refine wpAny_setItem_heap (hsz := hz) (tupleKind_room_in1 hu) (key_of I.hok eb) dd fun h' dd' hs => h _ ?_
    obtain ⟨q, es, ep, hq, h2, h3, h4, _, h5⟩ := dd'
    refine d_write I (by rw [e]; exact True.intro) hs ⟨q, hq⟩ ⟨hl, hd, _, (rel.put k eb rv).keeps fun c ys ec => ?_, q, es, ep, hq, h2, h3, h4, h5⟩
    rw [upd_ne (ne_of ec e (fun z => nomatch z))]
    exact ec
end
def NoSl (i : Expr) : Prop := ∀ ov iv, subscripted i false ov iv = operate [ov, iv] (getItem ov iv)
theorem subD_of {prog : Program} {w : World} {A : Around} {E : Value → Shared → Prop} {s : Shared} {env : Env} {value slice : Expr} {pos : Pos} {T id : String} {Q : Value → Shared → Prop}
    (hl : typeLookup (.type T) "__getitem__" = pure (some (.builtin id))) (hs : NoSl slice)
    (h : wpAny (model prog w) A (eval value env) (fun o s₁ => wpAny (model prog w) A (eval slice env) (fun i s₂ => s₂.TypeIs o T ∧ wpAny (model prog w) A (getItem o i) Q E s₂) E s₁) E s) :
    wpAny (model prog w) A (eval (.Subscript value slice pos) env) Q E s := by
  refine Subscript_ (wpAny_mono h (fun o s₁ h₁ => wpAny_mono h₁ (fun i s₂ h₂ => ?_) fun _ _ x => x) fun _ _ x => x)
  obtain ⟨hT, h₂⟩ := h₂
  unfold subscriptTail
  refine wpAny_bind ?_
  rw [getitemInPython_of_ne hT.not_modules]
  refine wpAny_bind (wpAny_specialOf hT hl ?_)
  have fin : wpAny (model prog w) A (subscripted slice false o i) (fun r s₃ => wpAny (model prog w) A (letTemporaryGo value o r >>= fun _ => pure r) Q E s₃) E s₂ := by
    rw [hs o i]
    exact wpAny_operating (wpAny_mono h₂ (fun r s₃ h₃ => wpAny_bind (wpAny_letTemporaryGo (wpAny_pure h₃))) fun _ _ x => x)
  first
    | exact wpAny_pure (wpAny_bind fin)
    | exact wpAny_bind (wpAny_pure (wpAny_bind fin))
    | exact wpAny_bind fin
theorem dict_typeIs {X : Cx} {pins : List (Addr × Obj)} {σ : St} {H : Hp} {s : Shared} {a : Addr} {y : V} {o : Option V} (I : Inv X pins σ H s) (g : DGet H a y o) : s.TypeIs (.ref a) "dict" := by
  rcases g with ⟨kvs, k, e, _, _⟩ | ⟨kvs, k, b, e, _, _, _⟩
  · obtain ⟨_, _, vs, _, dd⟩ := dk_rd I.hok e
    exact dd.typeIs
  · obtain ⟨_, _, xs, _, dd⟩ := dt_rd I.hok e
    exact dd.typeIs
def tDGet (td ty : TE) : TE := fun σ H Q => td σ H fun x H1 => ty σ H1 fun y H2 => ∃ a v, x = .ref a ∧ DGet H2 a y (some v) ∧ Q v H2
def tDIn (ty td : TE) : TE := fun σ H Q => ty σ H fun y H1 => td σ H1 fun x H2 => ∃ a o, x = .ref a ∧ DGet H2 a y o ∧ Q (.bl o.isSome) H2
def sDPut (td ty tv : TE) : TS := fun D σ H => tv σ H fun v H1 => td σ H1 fun x H2 => ty σ H2 fun y H3 => ∃ a H4, x = .ref a ∧ DPut H3 a y v H4 ∧ D.nx σ H4
section
variable {X : Cx} {o i e value : Expr} {pos pos' tpos : Pos} {td ty tv : TE}
theorem pe_dget (hu : X.A.units + 1 < cLine) (ho : PE X o td) (hi : PE X i ty) (hs : NoSl i) : PE X (.Subscript o i pos) (tDGet td ty) := by
  intro pins s σ H Q I h
  refine subD_of PySem.F.slot_dict_getitem.lookup hs (thn (ho pins s σ H _ I h) fun u s1 ⟨x, H1, I1, rx, q1⟩ => thn (hi pins s1 σ H1 _ I1 q1) fun iv s2 ⟨y, H2, I2, ry, a, v, ex, g, q2⟩ => ?_)
  subst ex
  obtain rfl : u = Value.ref a := rx
  exact ⟨dict_typeIs I2 g, d_getItem hu I2 g ry fun w' s3 I3 rw' => ⟨v, H2, I3, rw', q2⟩⟩
theorem pc_din (hu : X.A.units + 1 < cLine) (hi : PE X i ty) (ho : PE X o td) : PC X .In i o (tDIn ty td) := by
  intro pins s σ H Q I h
  refine thn (hi pins s σ H _ I h) fun iv s1 ⟨y, H1, I1, ry, q1⟩ => thn (ho pins s1 σ H1 _ I1 q1) fun u s2 ⟨x, H2, I2, rx, a, ov, ex, g, q2⟩ => ?_
  subst ex
  obtain rfl : u = Value.ref a := rx
  exact d_in hu I2 g ry fun s3 I3 => ⟨.bl ov.isSome, H2, I3, rfl, q2⟩
theorem ps_dput (hu : X.A.units + 1 < cLine) (ho : PE X o td) (hi : PE X i ty) (hv : PE X value tv) (hs : swapsWith value (some (.Subscript o i pos')) pos.line X.env = pure false) :
    PS X (.Assign [.Subscript o i pos'] value pos) (sDPut td ty tv) := by
  intro pins s σ H D I h
  refine wpAny_Assign_Subscript (thn (hv pins s σ H _ I h) fun r s1 ⟨v, H1, I1, rv, q1⟩ => thn (ho pins s1 σ H1 _ I1 q1) fun u s2 ⟨x, H2, I2, rx, q2⟩ => thn (hi pins s2 σ H2 _ I2 q2) fun iv s3 ⟨y, H3, I3, ry, a, H4, ex, g, q3⟩ => ?_) hs
  subst ex
  obtain rfl : u = Value.ref a := rx
  exact d_setItem hu I3 g ry rv fun s4 I4 => ⟨σ, H4, I4, q3⟩
end
theorem dk_empty {P : Program} {w : World} {H : Hp} (h : Heap) (hb : sysModules < h.objs.size) : ObjOk P w H (h.push { cls := .type "dict", data := .dict #[] }) h.objs.size (.dK []) :=
  ⟨Nat.zero_le _, beq_eq_false_iff_ne.mpr (Ne.symm (Nat.ne_of_lt hb)), [], .nil, Heap.DictOf.new h⟩
theorem dt_empty {P : Program} {w : World} {H : Hp} (h : Heap) (hb : sysModules < h.objs.size) : ObjOk P w H (h.push { cls := .type "dict", data := .dict #[] }) h.objs.size (.dT []) :=
  ⟨Nat.zero_le _, beq_eq_false_iff_ne.mpr (Ne.symm (Nat.ne_of_lt hb)), [], .nil, _, #[], 0, Heap.get?_push_size _ rfl, ⟨rfl, rfl, rfl⟩, rfl, rfl, List.nodup_nil⟩
def tDNewT : TE := fun _ H Q => ∀ p, H p = none → Q (.ref p) (upd H p (.dT []))
section
variable {X : Cx} {pos : Pos}
theorem pe_dnewT : PE X (.Dict [] [] pos) tDNewT := fun pins s σ H Q I h =>
  wpAny_Dict_empty ⟨.ref s.heap.objs.size, _, I.laid (a := s.heap.objs.size) (o := .dT []) (t' := s.toks) (fun _ _ q => Heap.get?_push_of_some _ q) (Nat.le_refl _) (dt_empty s.heap I.big), rfl, h _ (I.hok.fresh (Nat.le_refl _))⟩
end
def tPairs : List (TE × TE) → St → Hp → (List (V × V) → Hp → Prop) → Prop
  | [], _, H, Q => Q [] H
  | (tk, tv) :: r, σ, H, Q => tk σ H fun x H1 => tv σ H1 fun y H2 => tPairs r σ H2 fun ps H3 => Q ((x, y) :: ps) H3
abbrev VV : List (V × V) → List (Value × Value) → Prop := Paired fun p q => RelV p.1 q.1 ∧ RelV p.2 q.2
def PPs (X : Cx) (pos : Pos) (keys : List (Option Expr)) (values : List Expr) (trs : List (TE × TE)) : Prop :=
  ∀ (pins : List (Addr × Obj)) (s : Shared) (σ : St) (H : Hp) (Q : List (V × V) → Hp → Prop), Inv X pins σ H s → tPairs trs σ H Q →
    wpAny (model X.prog X.w) X.A (evalPairs (pairTrees keys values X.env pos)) (fun vs s' => ∃ ps H', Inv X pins σ H' s' ∧ VV ps vs ∧ Q ps H') X.xe s
theorem pps_nil {X : Cx} {pos : Pos} : PPs X pos [] [] [] := fun pins s σ H Q I h => pairTrees_nil_walk ⟨[], H, I, .nil, h⟩
theorem pps_cons {X : Cx} {pos : Pos} {k v : Expr} {ks : List (Option Expr)} {vs : List Expr} {tk tv : TE} {trs : List (TE × TE)} (hk : PE X k tk) (hv : PE X v tv) (hr : PPs X pos ks vs trs) :
    PPs X pos (some k :: ks) (v :: vs) ((tk, tv) :: trs) := fun pins s σ H Q I h =>
  pairTrees_cons_walk (thn (hk pins s σ H _ I h) fun u s1 ⟨x, H1, I1, rx, q1⟩ => thn (hv pins s1 σ H1 _ I1 q1) fun w2 s2 ⟨y, H2, I2, ry, q2⟩ =>
    thn (hr pins s2 σ H2 _ I2 q2) fun ws s3 ⟨ps, H3, I3, rel, q3⟩ => ⟨(x, y) :: ps, H3, I3, .cons ⟨rx, ry⟩ rel, q3⟩)
def mergeK (kvs more : List (Key × V)) : List (Key × V) := more.foldl (fun acc kv => putK acc kv.1 kv.2) kvs
theorem KV.merge : ∀ {more : List (Key × V)} {rs : List (Key × Value)} {kvs : List (Key × V)} {vs : List (Key × Value)}, KV more rs → KV kvs vs → KV (mergeK kvs more) (merged vs rs) := by
  intro more rs kvs vs r
  unfold KV at r
  induction r generalizing kvs vs with
  | nil => intro q; exact q
  | @cons p q ps qs h t ih =>
    intro r0
    have e : KV (putK kvs p.1 p.2) (stored vs q.1 q.2) := by
      have := r0.put p.1 h.2
      rw [← h.1]; exact this
    exact ih e
theorem length_mergeK : ∀ (more kvs : List (Key × V)), (mergeK kvs more).length ≤ kvs.length + more.length
  | [], kvs => by show kvs.length ≤ kvs.length + 0; omega
  | p :: r, kvs => by
    have h1 := length_mergeK r (putK kvs p.1 p.2)
    have h2 := length_putK kvs p.1 p.2
    show (mergeK (putK kvs p.1 p.2) r).length ≤ _
    rw [List.length_cons]; omega
theorem carries_of {P : Program} {w : World} : ∀ {kvs : List (Key × V)} {ws : List (Value × Value)}, VV (kvs.map fun kv => (kV kv.1, kv.2)) ws → ∃ rs, Carries (mixKind P w) ws rs ∧ KV kvs rs
  | [], _, r => by rw [List.map_nil] at r; cases r; exact ⟨[], True.intro, .nil⟩
  | p :: kvs, _, r => by
    rw [List.map_cons] at r
    cases r with
    | @cons a b as bs h t =>
      obtain ⟨rs, c, q⟩ := carries_of (P := P) (w := w) t
      obtain ⟨b1, b2⟩ := b
      exact ⟨(p.1, b2) :: rs, ⟨kV_is h.1, rfl, c⟩, .cons ⟨rfl, h.2⟩ q⟩
def tDisp (trs : List (TE × TE)) : TE := fun σ H Q => ∀ p, H p = none → tPairs trs σ (upd H p (.dK [])) fun ps H2 => H2 p = some (.dK []) ∧ ∃ kvs : List (Key × V), ps = kvs.map (fun kv => (kV kv.1, kv.2)) ∧ kvs.length ≤ 15 ∧ Q (.ref p) (upd H2 p (.dK (mergeK [] kvs)))
theorem pe_disp {X : Cx} {pos : Pos} {keys : List (Option Expr)} {values : List Expr} {trs : List (TE × TE)} (h : PPs X pos keys values trs) (hall : keys.all (·.isSome) = true) (hl : keys.length = values.length) (h0 : keys ≠ [])
    (h15 : keys.length ≤ 15) : PE X (.Dict keys values pos) (tDisp trs) := by
  intro pins s σ H Q I q
  have hn := I.hok.fresh (Nat.le_refl s.heap.objs.size)
  have I1 := I.laid (a := s.heap.objs.size) (o := .dK []) (h' := s.heap.push { cls := .type "dict", data := .dict #[] }) (t' := s.toks) (fun _ _ q => Heap.get?_push_of_some _ q) (Nat.le_refl _) (dk_empty s.heap I.big)
  refine wpAny_Dict_walk (knd := mixKind X.prog X.w) hall hl h0 h15 (thn (h pins _ σ _ _ I1 (q _ hn)) fun ws s2 ⟨ps, H2, I2, rel, e, kvs, ep, lk, q2⟩ => ?_)
  subst ep
  obtain ⟨rs, c, rk⟩ := carries_of (P := X.prog) (w := X.w) rel
  obtain ⟨z, hd, vs0, r0, dd⟩ := dk_of I2.hok e
  cases r0
  refine ⟨rs, c, dd, fun h' dd' hs => ⟨.ref s.heap.objs.size, _, ?_, rfl, q2⟩⟩
  have hz : (mergeK [] kvs).length ≤ sizeLine := by
    have h1 := length_mergeK kvs []
    rw [List.length_nil] at h1
    rw [sizeLine_eq]; omega
  have he : ∃ q, h'.get? s.heap.objs.size = some q := let ⟨q, _, _, hq, _⟩ := dd'; ⟨q, hq⟩
  exact d_write I2 (by rw [e]; exact True.intro) hs he (dk_new hz hd (rk.merge .nil) dd')
structure M1 (X : Cx) (o : Expr) (m : Str) (apos : Pos) (e : Expr) (cpos : Pos) : Prop where
  base : attributeBase o m X.env (eval o X.env) = eval o X.env
  few : ((backTo cpos (starEach [e] X.env)).all (fun x => !x.1) && (backToKw cpos (keywordEach [] X.env)).all (fun x => x.1.isSome)
    && decide (([e] : List Expr).length + ([] : List Keyword).length + (if ([] : List Keyword).isEmpty then 0 else 1) < 30)) = true
  line : (apos.endLine == cpos.line) = true
  trees : backTo cpos (starEach [e] X.env) = [(false, eval e X.env)]
def IsD (H : Hp) (a : Addr) : Prop := (∃ kvs, Rd H a (.dK kvs)) ∨ ∃ kvs, Rd H a (.dT kvs)
theorem isD_at {X : Cx} {pins : List (Addr × Obj)} {σ : St} {H : Hp} {s : Shared} {a : Addr} (I : Inv X pins σ H s) (d : IsD H a) :
    s.TypeIs (.ref a) "dict" ∧ (∀ b, Value.ref a = .ref b → ∃ ob, s.heap.get? b = some ob ∧ ob.dict = none) ∧ (a == sysModules) = false := by
  rcases d with ⟨kvs, e⟩ | ⟨kvs, e⟩
  · obtain ⟨_, hd, vs, _, dd⟩ := dk_rd I.hok e
    refine ⟨dd.typeIs, fun b q => ?_, hd⟩
    cases q
    obtain ⟨ob, _, _, h1, h2, _⟩ := dd
    exact ⟨ob, h1, h2.2.1⟩
  · obtain ⟨_, hd, xs, _, dd⟩ := dt_rd I.hok e
    refine ⟨dd.typeIs, fun b q => ?_, hd⟩
    cases q
    obtain ⟨ob, _, _, h1, h2, _⟩ := dd
    exact ⟨ob, h1, h2.2.1⟩
section
variable {X : Cx} {pins : List (Addr × Obj)} {σ : St} {H : Hp} {s : Shared} {a : Addr} {y d : V} {u r : Value} {o : Option V} {A : Around} {E : Value → Shared → Prop}
theorem d_get1 {Q : Value → Shared → Prop} (hu : A.units + 1 < cLine) (I : Inv X pins σ H s) (g : DGet H a y o) (ry : RelV y u) (h : ∀ w' s', Inv X pins σ H s' → RelV (o.getD .non) w' → Q w' s') :
    wpAny (model X.prog X.w) A (call (.builtin "dict.get") [.ref a, u]) Q E s := by
  rcases g with ⟨kvs, k, e, ey, l⟩ | ⟨kvs, k, b, e, ey, eb, l⟩
  · subst ey
    obtain ⟨z, hd, vs, rel, dd⟩ := dk_rd I.hok e
    refine call_meetsIn PySem.F.slot_dict_get dd.typeIs PySem.F.entry_dict_get (PySem.F.args_dict_get_2 _ _) (meets_dict_get (mixKind X.prog X.w) a (kV_is ry) hd) ⟨_, dd.mapOf, h _ _ (I.tok _) ?_⟩
    rw [l]
    exact (rel.val k).getD rfl
  · subst ey
    cases (show u = Value.ref b from ry)
    obtain ⟨z, hd, xs, rel, dd⟩ := dt_rd I.hok e
    refine call_meetsIn PySem.F.slot_dict_get dd.typeIs PySem.F.entry_dict_get (PySem.F.args_dict_get_2 _ _) (meetsH_dict_get (tupleKind (mixKind X.prog X.w)) a b hd) ⟨tupleKind_room_in1 hu, k, xs, key_of I.hok eb, dd, h _ _ (I.tok _) ?_⟩
    rw [l]
    exact (rel.val k).getD rfl
end
def tDGet1 (td ty : TE) : TE := fun σ H Q => td σ H fun x H1 => ∃ a, x = .ref a ∧ IsD H1 a ∧ ty σ H1 fun y H2 => ∃ o, DGet H2 a y o ∧ Q (o.getD .non) H2
section
variable {X : Cx} {o e f : Expr} {apos cpos : Pos} {td ty tx : TE}
theorem pe_dget1 (hu : X.A.units + 1 < cLine) (ho : PE X o td) (he : PE X e ty) (m : M1 X o "get" apos e cpos) : PE X (.Call (.Attribute o "get" apos) [e] [] cpos) (tDGet1 td ty) := by
  intro pins s σ H Q I h
  refine wpAny_Call_method m.base m.few m.line PySem.F.plainAttrs_dict PySem.F.slot_dict_get PySem.F.type_dict_get (thn (ho pins s σ H _ I h) fun u s1 ⟨x, H1, I1, rx, a, ex, d, q1⟩ => ?_)
  subst ex
  obtain rfl : u = Value.ref a := rx
  obtain ⟨t1, t2, _⟩ := isD_at I1 d
  refine ⟨t1, t2, ?_⟩
  rw [m.trees]
  refine Calls.callWith_builtin rfl (Calls.evalArgs_plain (Calls.spliced_cons (thn (he pins s1 σ H1 _ I1 q1) fun iv s2 ⟨y, H2, I2, ry, ov, g, q2⟩ => Calls.spliced_nil ?_)))
  exact d_get1 hu I2 g ry fun w' s3 I3 rw' => ⟨_, H2, I3, rw', q2⟩
end
end L2
namespace L2
open PySem PySem.Spec PyProof.Rows
theorem list_keys_none : typeLookup (.type "list") "keys" = pure none := am_miss_of_fast (by first | decide +kernel | rfl)
theorem ud_entry : entryFor table "dict.update.loop" = some Builtin.«dict.update.loop» := entryFor_of_tree (by kernel_rfl)
theorem ud_plain : plainId "dict.update.loop" = true := by decide +kernel
section
variable {prog : Program} {w : World} {A : Around} {E : Value → Shared → Prop}
theorem miss_list {s : Shared} {a : Addr} {o : Obj} {xs : Array Value} {k : Nat} {Q : Option Value → Shared → Prop} (hx : s.heap.get? a = some o) (hc : o.cls = .type "list") (hdat : o.data = .seq xs k) (hd : o.dict = none) (hA : A.handled = none)
    (h : ∀ h' tk, (∀ b ob, s.heap.get? b = some ob → h'.get? b = some ob) → Q none { s with heap := h', toks := tk }) : wpAny (model prog w) A (getAttr? (.ref a) "keys") Q E s := by
  obtain ⟨c, dct, dat, sl⟩ := o
  simp only at hc hdat hd
  subst hc hdat hd
  obtain ⟨hp, g, d, tk, os⟩ := s
  have hT : ∀ tk', (⟨hp, g, d, tk', os⟩ : Shared).TypeIs (.ref a) "list" := fun _ => ⟨_, hx, rfl⟩
  have hmiss := list_keys_none
  have hname : (["__module__", "__name__", "__qualname__", "__doc__", "__annotations__"] : List Str).contains "keys" = false := by decide +kernel
  have hsz : ("keys" : Str).length + 100 ≤ sizeLine := by first | size_fits | decide +kernel
  have f1 := sub_AttributeError
  have f3 := PySem.F.slot_list_getattribute.lookup
  have f4 := PySem.F.slot_list_getattribute.bind (.ref a)
  have f5 := am_list_getattr_none
  unfold getAttr? getAttrBy? getAttrBy
  repeat (any_goals (first | assumption | exact hT _ | ((with_reducible show wpAny _ _ (call (Value.builtin "list.__getattribute__") _ _) _ _ _); refine call_meets PySem.F.slot_list_getattribute (hT _) am_entry_list_getattribute (PySem.F.args_list_getattribute_2 _ _) (meets_getattribute_miss_list a xs k sl "keys" _ hmiss hname hsz) ⟨hx, hA, fun h' tk' e hx' => ?_⟩) | wp_step))
  obtain ⟨t', u', he⟩ := hx'.there
  show wpAny _ _ (getattributeRaised _ _ _ _ _ _ _) _ _ _
  unfold getattributeRaised
  repeat (any_goals (first | assumption | wp_step))
  all_goals first | exact h _ _ hx'.keeps | (dsimp only; repeat (any_goals (first | assumption | exact h _ _ hx'.keeps | wp_step)))
end
section
variable {X : Cx}
theorem refs_at : ∀ {ps : List Addr} {us : List Value}, Vals (ps.map V.ref) us → us = ps.map Value.ref
  | [], us, r => by
    rw [List.map_nil] at r
    cases r
    rfl
  | p :: ps, us, r => by
    rw [List.map_cons] at r
    cases r with
    | cons h t =>
      cases h
      rw [List.map_cons, ← refs_at t]
end
end L2
namespace L2
open PySem PySem.Spec PyProof.Rows
section
variable {X : Cx} {pins : List (Addr × Obj)} {σ : St} {H : Hp} {s : Shared} {h' : Heap}
theorem Inv.turnedNew {t' : Nat} {ch : List Addr} {T : Addr} {ob : HO} (I : Inv X pins σ H s) (k : ∀ b o, b ∉ ch → s.heap.get? b = some o → h'.get? b = some o) (hf : ∀ b ∈ ch, FpOk X pins H b) (hT : s.heap.objs.size ≤ T)
    (new : ObjOk X.prog X.w (upd H T ob) h' T ob) : Inv X pins σ (upd H T ob) { s with heap := h', toks := t' } := by
  have hn : H T = none := I.hok.fresh hT
  have nit : ∀ b u, H b = some u → b ∉ ch := fun b u e z => by
    have q := (hf b z).1
    rw [q] at e; cases e
  refine I.step (g' := s.gens) (d' := s.drawn) (ch := ch) (fun b hb => ⟨(hf b hb).2.2.2.1, (hf b hb).2.1, (hf b hb).2.2.2.2.1, (hf b hb).2.2.2.2.2⟩) (fun b o _ _ hc e _ => k b o hc e) (fun b o _ _ hc e _ => ⟨o.slots, k b o hc e⟩)
    (fun b o _ e n => ?_) (fun b o hc e => ⟨o, k b o hc e⟩) (fun b xs e => ?_) (fun b o u e => ?_) (fun b ps e => ⟨#[], ?_⟩) (fun m hm => ?_) (fun b u e => ?_) I.bare
  · rw [upd_ne (Nat.ne_of_lt (Nat.lt_of_lt_of_le (Heap.lt_size e) hT))]; exact n
  · rw [upd_ne (ne_of_none e hn)]; exact e
  · rw [upd_ne (ne_of_none e hn)]; exact e
  · rw [upd_ne (ne_of_none e hn), e]; simp
  · obtain ⟨o, es, ep, ho, r⟩ := hm
    exact ⟨o, es, ep, k _ o (fun z => (hf _ z).2.1 rfl) ho, r⟩
  · by_cases hb : b = T
    · subst hb
      rw [upd_same] at e
      cases e
      exact new
    · rw [upd_ne hb] at e
      refine (I.hok b u e).stay (fun c v hc q => k c v ?_ q) (fun c q => by rw [upd_ne (ne_of_none q hn)]; exact q) fun c xs q => by rw [upd_ne (ne_of_none q hn)]; exact q
      rcases hc with z | z
      · rw [z]; exact nit b u e
      · exact nit c _ z
theorem Inv.lock {d : Addr} {u : HO} (I : Inv X pins σ H s) (h : H d = some u) (mu : Mut (some u)) : ∃ od, Inv X pins σ (upd H d (.frz od u)) s := by
  have x := I.hok d u h
  have ex : ∃ od, s.heap.get? d = some od := by
    cases u with
    | lst xs => obtain ⟨_, _, _, _, e⟩ := x; exact ⟨_, e⟩
    | dK kvs => obtain ⟨_, _, _, _, o, _, _, e, _⟩ := x; exact ⟨o, e⟩
    | dT kvs => obtain ⟨_, _, _, _, o, _, _, e, _⟩ := x; exact ⟨o, e⟩
    | set S n => obtain ⟨o, _, _, _, e, _⟩ := x; exact ⟨o, e⟩
    | ins C dx fs => obtain ⟨_, _, _, e, _⟩ := x; exact ⟨_, e⟩
    | ext φ => obtain ⟨_, ⟨_, e⟩, _⟩ := x; exact ⟨_, e⟩
    | _ => exact False.elim mu
  obtain ⟨od, e⟩ := ex
  have new : ObjOk X.prog X.w (upd H d (.frz od u)) s.heap d (.frz od u) := by
    refine ⟨e, x.stay (fun b v _ q => q) (fun b q => ?_) fun b xs q => ?_⟩
    · rw [upd_ne (fun z => by rw [z, h] at q; cases q; exact mu)]; exact q
    · rw [upd_ne (fun z => by rw [z, h] at q; cases q; exact mu)]; exact q
  exact ⟨od, I.write (x := d) (e := d) (t' := s.toks) (h' := s.heap) (by rw [h]; exact mu) (.inl rfl) (fun b v _ q => q) ⟨od, e⟩ new⟩
theorem Inv.nofrz {d : Addr} {u : HO} (I : Inv X pins σ H s) (h : H d = some u) (mu : Mut (some u)) : ∀ o' u', X.H_0 d ≠ some (.frz o' u') := fun o' u' e => by
  have q := I.base.frzs d o' u' e
  rw [h] at q
  cases q
  exact mu
theorem Inv.unlock {d : Addr} {od : Obj} {u : HO} (I : Inv X pins σ H s) (h : H d = some (.frz od u)) (hn : ∀ o' u', X.H_0 d ≠ some (.frz o' u')) : Inv X pins σ (upd H d u) s := by
  have neH : ∀ b o, H b = some o → (∀ o' u', o ≠ .frz o' u') → b ≠ d := fun b o e hne z => by
    rw [z, h] at e
    cases e
    exact hne _ _ rfl
  have neN : ∀ b, H b = none → b ≠ d := fun b e z => by rw [z, h] at e; cases e
  refine ⟨I.ok, I.os, I.bare, ⟨I.base.keep, I.base.slot, fun b o e n hx => ?_, I.base.there, fun b xs e => ?_, fun b o x e => ?_, fun b ps e => ?_⟩, I.loc, I.cell, ?_, fun x c e => ?_, fun p hp => ?_, fun b o e => ?_, I.len⟩
  · rw [upd_ne (neN b (I.base.free b o e n hx))]; exact I.base.free b o e n hx
  · have q := I.base.tups b xs e
    rw [upd_ne (neH b _ q (fun _ _ z => nomatch z))]; exact q
  · have q := I.base.frzs b o x e
    rw [upd_ne (fun z => by rw [z] at e; exact hn _ _ e)]; exact q
  · obtain ⟨m, q⟩ := I.base.tbls b ps e
    exact ⟨m, by rw [upd_ne (neH b _ q (fun _ _ z => nomatch z))]; exact q⟩
  · rw [upd_ne (neN _ I.free)]; exact I.free
  · rw [upd_ne (neN c (I.freeC x c e))]; exact I.freeC x c e
  · obtain ⟨e, n, r⟩ := I.pin p hp
    exact ⟨e, by rw [upd_ne (neN _ n)]; exact n, r⟩
  · by_cases hb : b = d
    · rw [hb, upd_same] at e
      cases e
      rw [hb]
      obtain ⟨_, x⟩ := I.hok d _ h
      exact x.stay (fun c v _ q => q) (fun c q => by rw [upd_ne (neH c _ q (fun _ _ z => nomatch z))]; exact q) fun c xs q => by rw [upd_ne (neH c _ q (fun _ _ z => nomatch z))]; exact q
    · rw [upd_ne hb] at e
      exact (I.hok b o e).stay (fun c v _ q => q) (fun c q => by rw [upd_ne (neH c _ q (fun _ _ z => nomatch z))]; exact q) fun c xs q => by rw [upd_ne (neH c _ q (fun _ _ z => nomatch z))]; exact q
end
def tLockE (t : TE) : TE := fun σ H Q => ∃ d u, H d = some u ∧ Mut (some u) ∧ ∀ od, t σ (upd H d (.frz od u)) fun v H' => H' d = some (.frz od u) ∧ Q v (upd H' d u)
section
variable {X : Cx}
theorem pe_lock {e : Expr} {t : TE} (h : PE X e t) : PE X e (tLockE t) := by
  intro pins s σ H Q I hw
  obtain ⟨d, u, hd, mu, hw⟩ := hw
  obtain ⟨od, I1⟩ := I.lock hd mu
  refine thn (h pins s σ _ _ I1 (hw od)) fun v s1 ⟨x, H1, I2, r, e2, q⟩ => ?_
  exact ⟨x, _, I2.unlock e2 (I.nofrz hd mu), r, q⟩
theorem pi_one {tg : Expr} {pins : List (Addr × Obj)} {σ : St} {H : Hp} {s : Shared} {R : It → Hp → Prop} {J : It} {tn : Nat → Heap → Prop} {tk : Nat} (I : Inv X pins σ H s) (o : Obj)
    (T : Turn X.prog X.w X.K tg J [s.heap.objs.size] s.heap.objs.size tn) (st : tn 0 (s.heap.push o)) (q : R J H) : PIE X pins σ tg R (.ref s.heap.objs.size) { s with heap := s.heap.push o, toks := tk } := by
  refine ⟨s.heap.objs.size, [s.heap.objs.size], tn, J, H, rfl, I.kept fun b ob e => Heap.get?_push_of_some _ e, T, st, fun b hb => ?_, q⟩
  have e : b = s.heap.objs.size := by simpa using hb
  subst e
  exact I.fpOk (Nat.le_refl _) (I.hok.fresh (Nat.le_refl _))
end
def Itc (lo c : Int) (n : Nat) : It := ⟨fun i _ => i < n, fun i H x H' => H' = H ∧ x = .int (lo + (i : Nat) * c), fun i _ => n ≤ i⟩
theorem turn_rangeC {P : Program} {w : World} {K : PySem.W.Frag} {tg : Expr} (it : Addr) (lo c : Int) (n : Nat) : Turn P w K tg (Itc lo c n) [it] it (fun i h => IsRangeIter h it (lo + (i : Nat) * c) ((n : Int) - (i : Nat)) c) where
  mem := by simp
  obj := fun i h st b hb => by
    have e : b = it := by simpa using hb
    subst e
    exact ⟨_, st, fun v z => nomatch z⟩
  keep := fun i h h' st k => k it (by simp) _ st
  item := by
    intro X hP hw hK hc i pins s σ H E I hf st hg
    subst hP hw hK
    obtain ⟨f0, f1, f2, f3, f4, f5⟩ := hf it (by simp)
    have W := Walks.range (prog := X.prog) (w := X.w) (I.ok.hd hc) it lo c n
    refine W.item i s _ _ hg st fun v h' tk hv st' kk => ?_
    obtain ⟨t, rfl⟩ := hv
    have I1 : Inv X pins σ H { s with heap := h', toks := tk } := I.turned (fun b o hb e => kk b o (by simpa using hb) e) f0 f1 f3 f4 f5
    exact ⟨_, rfl, go_of (s := { s with heap := h', toks := tk }) (n := "range_iterator") st' rfl rfl (by decide) ⟨.int (lo + (i : Nat) * c), H, I1, ⟨t, rfl⟩, ⟨rfl, rfl⟩, st', fun b hb => (hf b hb).1⟩⟩
  done := by
    intro X hP hw hK hc i pins s σ H E I hf st hg
    subst hP hw hK
    obtain ⟨f0, f1, f2, f3, f4, f5⟩ := hf it (by simp)
    exact wpAny_pyNext_range_end (I.ok.hd hc) st (by have : n ≤ i := hg; omega) fun h' eb => ⟨rfl, I.turned (t' := s.toks) (fun b o hb e => eb b o hb e) f0 f1 f3 f4 f5⟩
  self := fun A i s Q E st h => wpAny_pyIter_rangeiter st h
def RgC (i j c : Int) (n : Nat) : Prop := c ≠ 0 ∧ c.natAbs < 1073741824 ∧ Builtin.Range.small i j c = true ∧ Builtin.Range.rangeSize i j c = n
def iRng3 (ta : TA) : TI := fun σ H R => ta σ H fun vs H1 => ∃ (i j c : Int) (n : Nat), vs = [.int i, .int j, .int c] ∧ RgC i j c n ∧ R (Itc i c n) H1
section
variable {X : Cx} {tg : Expr}
theorem pi_range3 {a b c : Expr} {ta : TA} {p pos : Pos} (hg : Gl X "range") (hm : X.mg "range" = none) (ha : PA X [a, b, c] ta)
    (hs : starEach [a, b, c] X.env = (false, eval a X.env) :: starEach [b, c] X.env := by rfl) (hpl : (backTo pos (starEach [b, c] X.env)).any (·.1) = false := by rfl) :
    PI X tg (.Call (.Name "range" p) [a, b, c] [] pos) (iRng3 ta) := by
  intro pins s σ H R I h
  refine Call_ (ld_blt I hg hm boot_range (PyProof.Rows.callWith_type1 (thn (ha pos pins s σ H _ I h) fun us s1 ⟨vs, H1, I1, r1, q1⟩ => ?_) hs hpl))
  obtain ⟨i, j, k, n, e, ⟨c0, c1, c2, c3⟩, q⟩ := q1
  subst e
  cases r1 with
  | cons r rr =>
    cases rr with
    | cons r' rr =>
      cases rr with
      | cons r'' rr =>
        cases rr
        obtain ⟨t, rfl⟩ := r
        obtain ⟨t', rfl⟩ := r'
        obtain ⟨t'', rfl⟩ := r''
        refine call_range_3 c0 ?_ (.inl (PyProof.noPylong_small c1))
        refine wpAny_pyIter_range (IsRange.new ..) c2 ?_
        have I2 : Inv X pins σ H1 { s1 with heap := s1.heap.push { cls := .type "range", data := .fields #[.int i t, .int j t', .int k t''] } } := I1.kept (t' := s1.toks) fun b o e => Heap.get?_push_of_some _ e
        refine pi_one (tk := s1.toks) I2 _ (turn_rangeC _ i k n) ?_ q
        have e1 : i + ((0 : Nat) : Int) * k = i := by simp
        have e2 : (n : Int) - ((0 : Nat) : Int) = Builtin.Range.rangeSize i j k := by rw [c3]; simp
        show IsRangeIter _ _ (i + ((0 : Nat) : Int) * k) ((n : Int) - ((0 : Nat) : Int)) k
        rw [e1, e2]
        exact Heap.get?_push_size _ rfl
end
theorem paired_get {α β : Type} {G : α → β → Prop} {l₁ : List α} {l₂ : List β} (h : Paired G l₁ l₂) : ∀ {i : Nat} {a : α}, l₁[i]? = some a → ∃ b, l₂[i]? = some b ∧ G a b := by
  induction h with
  | nil => intro i a e; simp at e
  | @cons a b l₁ l₂ r t ih =>
    intro i a' e
    cases i with
    | zero =>
      simp only [List.getElem?_cons_zero, Option.some.injEq] at e
      subst e
      exact ⟨b, rfl, r⟩
    | succ j =>
      simp only [List.getElem?_cons_succ] at e ⊢
      exact ih e
theorem dict_ep {o : Obj} {es es' : Array DictEntry} {ep ep' : Nat} (h : o.data = .dict es ep) (h' : o.data = .dict es' ep') : es' = es ∧ ep' = ep := by
  rw [h] at h'
  cases h'
  exact ⟨rfl, rfl⟩
def Ite (K : PySem.W.Frag) (a : Addr) : It :=
  ⟨fun i H => ∃ (xs : List V) (x : V), SqL K H a xs ∧ xs[i]? = some x, fun i H v H' => ∃ T x, v = .ref T ∧ H T = none ∧ H' = upd H T (.tup [.int (i : Nat), x]) ∧ ∀ xs, SqL K H a xs → xs[i]? = some x, fun i H => ∃ xs : List V, SqL K H a xs ∧ xs.length ≤ i⟩
theorem turn_enum {P : Program} {w : World} {K : PySem.W.Frag} {elts : List Expr} {kk : Nat} {tpos : Pos} (a e it : Addr) :
    Turn P w K (.Tuple elts kk tpos) (Ite K a) [e, it] e (fun i h => (∃ old, IsEnum h e it ((i : Nat) : Int) old) ∧ h.IsListIter it a i ∧ e ≠ it) where
  mem := by simp
  obj := fun i h st b hb => by
    obtain ⟨⟨old, he⟩, ⟨o, ho, hc, hd⟩, _⟩ := st
    have e' : b = e ∨ b = it := by simpa using hb
    rcases e' with z | z
    · rw [z]; exact ⟨_, he, fun v q => nomatch q⟩
    · rw [z]; exact ⟨o, ho, fun v q => by rw [hd] at q; cases q⟩
  keep := fun i h h' st k => let ⟨⟨old, he⟩, hi, hne⟩ := st; ⟨⟨old, k e (by simp) _ he⟩, hi.at fun o q => k it (by simp) o q, hne⟩
  item := by
    intro X hP hw hK hc i pins s σ H E I hf st hg
    subst hP hw hK
    obtain ⟨⟨old, he⟩, hit, hne⟩ := st
    obtain ⟨xs, x, hq, hx⟩ := hg
    obtain ⟨its, rv, p, hz⟩ := I.list hq
    obtain ⟨u, hu, ru⟩ := rv.get hx
    have hel : e < s.heap.objs.size := Heap.lt_size he
    have hil : it < s.heap.objs.size := by obtain ⟨_, q, _⟩ := hit; exact Heap.lt_size q
    refine wpAny_pyNext_enum_item he hit p.isList (x := u) (by simpa using hu) hne fun h' ho hit' hT hsz hk => ?_
    refine ⟨_, rfl, wpAny_letOwnedTupleGo_enum (s := { s with heap := h', toks := s.toks + 1 }) ho fun h'' he' sb => ?_⟩
    have hT2 : h''.get? s.heap.objs.size = some { cls := .type "tuple", data := .seq #[.int i s.toks, u] } := (sb.2 _ (Nat.ne_of_gt hel)).trans hT
    have new : ObjOk X.prog X.w (upd H s.heap.objs.size (.tup [.int (i : Nat), x])) h'' s.heap.objs.size (.tup [.int (i : Nat), x]) :=
      ⟨by show 2 ≤ sizeLine; decide, [.int i s.toks, u], .cons ⟨_, rfl⟩ (.cons ru .nil), ⟨_, hT2, rfl, _, rfl⟩⟩
    have I1 : Inv X pins σ (upd H s.heap.objs.size (.tup [.int (i : Nat), x])) { s with heap := h'', toks := s.toks + 1 } :=
      I.turnedNew (ch := [e, it]) (fun b ob hb q => (sb.2 b (fun z => hb (by simp [z]))).trans (hk b ob (fun z => hb (by simp [z])) (fun z => hb (by simp [z])) q)) hf (Nat.le_refl _) new
    refine ⟨.ref s.heap.objs.size, _, I1, rfl, ⟨_, x, rfl, I.hok.fresh (Nat.le_refl _), rfl, fun ys hy => by rw [I.list_inj hy hq]; exact hx⟩, ⟨⟨u, ?_⟩, hit'.at fun o q => (sb.2 it (Ne.symm hne)).trans q, hne⟩, fun b hb => ?_⟩
    · have e1 : ((i + 1 : Nat) : Int) = (i : Int) + 1 := by omega
      rw [e1]; exact he'
    · have hb' : b < s.heap.objs.size := by
        have e' : b = e ∨ b = it := by simpa using hb
        rcases e' with z | z
        · rw [z]; exact hel
        · rw [z]; exact hil
      rw [upd_ne (Nat.ne_of_lt hb')]
      exact (hf b hb).1
  done := by
    intro X hP hw hK hc i pins s σ H E I hf st hg
    subst hP hw hK
    obtain ⟨⟨old, he⟩, hit, hne⟩ := st
    obtain ⟨xs, hq, hx⟩ := hg
    obtain ⟨its, rv, p, hz⟩ := I.list hq
    obtain ⟨f0, f1, f2, f3, f4, f5⟩ := hf it (by simp)
    have hl := rv.length
    exact wpAny_pyNext_enum_end (I.ok.hd hc) he hit p.isList (by simp; omega) fun h' eb => ⟨rfl, I.turned (t' := s.toks) (fun b o hb q => eb b o hb q) f0 f1 f3 f4 f5⟩
  self := fun A i s Q E st h => let ⟨⟨_, he⟩, _⟩ := st; wpAny_pyIter_enum he h
def iEnum (K : PySem.W.Frag) (ta : TA) : TI := fun σ H R => ta σ H fun vs H1 => ∃ a xs, vs = [.ref a] ∧ SqL K H1 a xs ∧ R (Ite K a) H1
theorem pi_enum {X : Cx} {e : Expr} {ta : TA} {p pos tpos : Pos} {elts : List Expr} {kk : Nat} (hg : Gl X "enumerate") (hm : X.mg "enumerate" = none) (ha : PA X [e] ta) (hs : starEach [e] X.env = [(false, eval e X.env)] := by rfl) :
    PI X (.Tuple elts kk tpos) (.Call (.Name "enumerate" p) [e] [] pos) (iEnum X.K ta) := by
  intro pins s σ H R I h
  refine Call_ (ld_blt I hg hm boot_enumerate (PyProof.Rows.callWith_type1 (thn (ha pos pins s σ H _ I h) fun us s1 ⟨vs, H1, I1, r1, q1⟩ => ?_) hs rfl))
  obtain ⟨a, xs, ex, hq, q⟩ := q1
  subst ex
  cases r1 with
  | cons r rr =>
    cases rr
    cases r
    obtain ⟨its, rv, p', hz⟩ := I1.list hq
    refine call_enumerate_list p'.isList fun h' he hit hsz hk => wpAny_pyIter_enum he ?_
    have I2 : Inv X pins σ H1 { s1 with heap := h' } := I1.kept (t' := s1.toks) hk
    refine ⟨s1.heap.objs.size + 1, [s1.heap.objs.size + 1, s1.heap.objs.size], _, _, H1, rfl, I2, turn_enum a (s1.heap.objs.size + 1) s1.heap.objs.size, ⟨⟨.none, he⟩, hit, Nat.succ_ne_self _⟩, fun b hb => ?_, q⟩
    have e' : b = s1.heap.objs.size + 1 ∨ b = s1.heap.objs.size := by simpa using hb
    have hle : s1.heap.objs.size ≤ b := by
      rcases e' with z | z
      · rw [z]; exact Nat.le_add_right _ _
      · rw [z]; exact Nat.le_refl _
    exact I1.fpOk hle (I1.hok.fresh hle)
end L2
section
namespace Bits
open PySem PyProof.Rows
theorem bitAnd_mask {x : Int} (k : Nat) (hx : 0 ≤ x) : Builtin.bitAnd x (2 ^ k - 1) = x % 2 ^ k := by
  obtain ⟨n, rfl⟩ := Int.eq_ofNat_of_zero_le hx
  have hp : 0 < 2 ^ k := Nat.two_pow_pos k
  rw [two_pow_cast]
  have e : ((2 ^ k : Nat) : Int) - 1 = ((2 ^ k - 1 : Nat) : Int) := by
    generalize (2 : Nat) ^ k = m at hp
    omega
  rw [e, bitAnd_pp (by omega) (by omega), Int.toNat_natCast, Int.toNat_natCast, Nat.and_two_pow_sub_one_eq_mod]
  first
    | rfl
    | exact Int.natCast_emod _ _
    | simp
end Bits
end
section
namespace TL
open PySem PySem.Builtin PySem.Builtin.Str PySem.StrLaws
end TL
end
namespace L2
open PySem PySem.Spec PyProof.Rows
end L2
namespace L2
open PySem PySem.Spec PyProof.Rows
end L2
namespace Att
open PySem PySem.W PySem.Calls PyProof.Rows
end Att
namespace L2
open PySem PySem.Spec PyProof.Rows
end L2
namespace L2
open PySem PySem.Spec PyProof.Rows
end L2
namespace L2
open PySem PySem.Spec PyProof.Rows
def inClass (s : Stmt) (j : Nat) : Stmt := match s with
  | .ClassDef _ _ _ body _ _ _ _ _ _ _ => body.getD j (.Pass ⟨0, 0, 0, 0⟩)
  | _ => .Pass ⟨0, 0, 0, 0⟩
def defArgs (s : Stmt) : Arguments := match s with
  | .FunctionDef _ a _ _ _ _ _ _ _ _ => a
  | _ => { posonlyargs := [], args := [], vararg := none, kwonlyargs := [], kw_defaults := [], kwarg := none, defaults := [] }
def defBody (s : Stmt) : List Stmt := match s with
  | .FunctionDef _ _ b _ _ _ _ _ _ _ => b
  | _ => []
def defScope (s : Stmt) : Scope := match s with
  | .FunctionDef _ _ _ _ _ _ sc _ _ _ => sc
  | _ => { kind := .function, names := [], isGenerator := false, isCoroutine := false }
abbrev CX0 : CXT := fun _ _ _ _ _ _ => False
abbrev E0 : XK := fun _ _ _ => False
theorem pass0 {X : Cx} : Passes CX0 X E0 := fun _ _ _ _ _ _ _ h => h.elim
structure Fun (K : PySem.W.Frag) (x qual : Str) (st : Stmt) (f : Addr) (fd : FuncData) : Prop where
  ex : ∃ (oc : Value) (od : Option Addr) (kV doc pm : Value) (an : Option Addr) (cdv ct : Value) (osl : Array (Option Value)),
    fd = PySem.W.fnOf x qual (defArgs st) (defBody st) (defScope st) .none kV doc pm an cdv ct ∧ K.lookup f = some ⟨oc, od, .func fd, osl⟩ ∧ PySem.W.codeIn K cdv qual = true
  kp : PySem.W.keepIn K (.ref f) = true
section
variable {P : Program} {w : World} {K : PySem.W.Frag} {mg : Str → Option Value} {base : Heap}
theorem Fun.ok {x qual : Str} {st : Stmt} {f : Addr} {fd : FuncData} {N ps : List Str} {k : Nat} {sp : Sp} (F : Fun K x qual st f fd) (S : FnScope N ps (defScope st)) (len : ∀ vs H Q E, sp vs H Q E → vs.length = ps.length)
    (hbody : ∀ (cdv : Value) (A : Around) (outer : List Env) (s : Shared) (H : Hp) (vs : List V) (Q : VK) (E : XK), Room k (A.deeper (envOfC qual (defScope st) s.heap.objs.size f cdv)) → sp vs H Q E →
      ∃ t, PSs (cxOf CX0 P w K mg base N qual (defScope st) f cdv A outer s H E).nox (defBody st) t ∧ t { nx := fun _ H' => Q .non H', rt := Q } (start N vs) H) : FnOk P w K mg base CX0 (k + 1) f fd ps sp := by
  obtain ⟨oc, od, kV, doc, pm, an, cdv, ct, osl, rfl, lk, hcd⟩ := F.ex
  refine fn_of lk hcd S len fun A outer s H vs Q E hr hsp => ?_
  obtain ⟨t, h, q⟩ := hbody cdv A outer s H vs Q E hr hsp
  exact ⟨t, h.nox, q⟩
theorem Fun.binds {x qual : Str} {st : Stmt} {f : Addr} {fd : FuncData} {ps : List Str} (F : Fun K x qual st f fd)
    (h : ∀ (kV doc pm : Value) (an : Option Addr) (cdv ct : Value) (us : List Value), us.length = ps.length → bindArgs (PySem.W.fnOf x qual (defArgs st) (defBody st) (defScope st) .none kV doc pm an cdv ct) ⟨us, []⟩ = pure (ps.zip us)) : Binds K fd ps [] := by
  obtain ⟨oc, od, kV, doc, pm, an, cdv, ct, osl, rfl, lk, hcd⟩ := F.ex
  exact .all (h kV doc pm an cdv ct)
theorem fun_mk {x qual : Str} {st : Stmt} {f : Addr} {oc : Value} {od an : Option Addr} {osl : Array (Option Value)} {kV doc pm cdv ct : Value} (l : K.lookup f = some ⟨oc, od, .func (PySem.W.fnOf x qual (defArgs st) (defBody st) (defScope st) .none kV doc pm an cdv ct), osl⟩)
    (c : PySem.W.codeIn K cdv qual = true) (k : PySem.W.keepIn K (.ref f) = true) : Fun K x qual st f (PySem.W.fnOf x qual (defArgs st) (defBody st) (defScope st) .none kV doc pm an cdv ct) := ⟨⟨oc, od, kV, doc, pm, an, cdv, ct, osl, rfl, l, c⟩, k⟩
end
theorem hu_of {A : Around} {k : Nat} (hr : Room k A) : A.units + 1 < cLine := Nat.lt_of_le_of_lt (Nat.add_le_add_left (by decide : 1 ≤ 64) _) hr.units
section
variable {X : Cx}
theorem pv (i : Nat) {x : Str} {pos : Pos} (hN : X.N[i]? = some x := by rfl) (hv : Vis X.env.scope x := by first | exact Or.inl rfl | exact Or.inr (Or.inl rfl) | exact Or.inr (Or.inr rfl)) (hd : (x == ("__debug__" : Str)) = false := by decide)
    (hcd : (x == ("__classdict__" : Str)) = false := by decide) : PE X (.Name x pos) (tVar i) := pe_var hN hv hd hcd
end
theorem iteF {A B : Prop} (h : B) : if false = true then A else B := by
  rw [if_neg Bool.false_ne_true]
  exact h
theorem iteT {A B : Prop} (h : A) : if true = true then A else B := by
  rw [if_pos rfl]
  exact h
theorem ite2 {c A B : Prop} [Decidable c] (h1 : c → A) (h2 : ¬ c → B) : if c then A else B := by
  by_cases h : c
  · rw [if_pos h]
    exact h1 h
  · rw [if_neg h]
    exact h2 h
def Same (H H' : Hp) : Prop := ∀ b o, H b = some o → H' b = some o
theorem Same.refl (H : Hp) : Same H H := fun _ _ h => h
theorem Same.trans {H H1 H2 : Hp} (a : Same H H1) (b : Same H1 H2) : Same H H2 := fun c o h => b c o (a c o h)
theorem Same.free {H H' : Hp} (e : Same H H') {l : Addr} (h : H' l = Option.none) : H l = Option.none := by
  cases q : H l with
  | none => rfl
  | some o =>
    rw [e l o q] at h
    cases h
section
variable {κ : Type} [DecidableEq κ]
theorem nd_snoc : ∀ {l : List κ} {k : κ}, l.Nodup → ¬ k ∈ l → (l ++ [k]).Nodup
  | [], k, _, _ => by simp
  | a :: r, k, h, hk => by
    obtain ⟨h1, h2⟩ := List.nodup_cons.mp h
    show (a :: (r ++ [k])).Nodup
    refine List.nodup_cons.mpr ⟨fun m => ?_, nd_snoc h2 fun m => hk (List.mem_cons.mpr (Or.inr m))⟩
    rcases List.mem_append.mp m with q | q
    · exact h1 q
    · exact hk (List.mem_cons.mpr (Or.inl (List.mem_singleton.mp q).symm))
end
end L2
end
section
namespace L2
open PySem PySem.Spec PyProof.Rows
open PySem.W (WData Codec OpenSpec Well WellAll ReadsW ReadsAllW)
mutual
/-- x stands for the datum d, lists and tuples all the way -/
inductive Dw (K : PySem.W.Frag) (H : Hp) : V → WData → Prop
  | non : Dw K H .non .none
  | bl (b : Bool) : Dw K H (.bl b) (.bool b)
  | int (i : Int) : Dw K H (.int i) (.int i)
  | str (x : Str) : Dw K H (.str x) (.str x)
  | byt (b : Array UInt8) : Dw K H (.byt b) (.bytes b.toList)
  | lst {a : Addr} {xs : List V} {ds : List WData} : SqL K H a xs → DwAll K H xs ds → Dw K H (.ref a) (.list ds)
  | tup {a : Addr} {xs : List V} {ds : List WData} : SqT K H a xs → DwAll K H xs ds → Dw K H (.ref a) (.tuple ds)
inductive DwAll (K : PySem.W.Frag) (H : Hp) : List V → List WData → Prop
  | nil : DwAll K H [] []
  | cons {v : V} {vs : List V} {d : WData} {ds : List WData} : Dw K H v d → DwAll K H vs ds → DwAll K H (v :: vs) (d :: ds)
end
theorem dw_ints {K : PySem.W.Frag} {H : Hp} : ∀ ns : List Int, DwAll K H (ns.map V.int) (ns.map WData.int)
  | [] => .nil
  | n :: r => .cons (.int n) (dw_ints r)
theorem ints_dw {K : PySem.W.Frag} {H : Hp} : ∀ (ns : List Int) (xs : List V), DwAll K H xs (ns.map WData.int) → xs = ns.map V.int
  | [], xs, h => by
    cases h
    rfl
  | n :: r, xs, h => by
    cases h with
    | cons h1 h2 =>
      cases h1
      rw [ints_dw r _ h2] <;> rfl
section
variable {P : Program} {w : World} {K : PySem.W.Frag} {H : Hp} {h : Heap} {R : PySem.W.WRecords} {cl : Str → Option Addr}
theorem sqL_at {a : Addr} {xs : List V} (hok : HOk P w H h) (KX : K.In h) (q : SqL K H a xs) : ∃ (its : List Value) (o : Obj) (n : Nat), Vals xs its ∧ h.get? a = some o ∧ o.cls = .type "list" ∧ o.data = .seq its.toArray n := by
  rcases q with q | ⟨o, its, n, e, hc, _, hd, _, hv⟩
  · obtain ⟨_, its, n, hv, e⟩ := (show ObjOk P w H h a (.lst xs) from q.ok hok)
    exact ⟨its, _, n, hv, e, rfl, rfl⟩
  · exact ⟨its.toList, o, n, hv, KX _ _ e, hc, by simp [hd]⟩
theorem sqT_at {a : Addr} {xs : List V} (hok : HOk P w H h) (KX : K.In h) (q : SqT K H a xs) : ∃ (its : List Value) (o : Obj) (n : Nat), Vals xs its ∧ h.get? a = some o ∧ o.cls = .type "tuple" ∧ o.data = .seq its.toArray n := by
  rcases q with q | ⟨o, its, n, e, hc, hd, _, hv⟩
  · obtain ⟨_, its, hv, o, e, hc, n, hd⟩ := (show ObjOk P w H h a (.tup xs) from q.ok hok)
    exact ⟨its, o, n, hv, e, hc, hd⟩
  · exact ⟨its.toList, o, n, hv, KX _ _ e, hc, by simp [hd]⟩
mutual
theorem Dw.reads (hok : HOk P w H h) (KX : K.In h) : ∀ (d : WData) (v : V) (u : Value), Dw K H v d → RelV v u → ∃ as, ReadsW R cl h u d as
  | .none, _, _, x, r => by
    cases x
    cases r
    exact ⟨_, ReadsW.none⟩
  | .bool b, _, _, x, r => by
    cases x
    cases r
    exact ⟨_, ReadsW.bool b⟩
  | .int i, _, _, x, r => by
    cases x
    obtain ⟨t, rfl⟩ := r
    exact ⟨_, ReadsW.int i t⟩
  | .str s, _, _, x, r => by
    cases x
    obtain ⟨t, rfl⟩ := r
    exact ⟨_, ReadsW.str s t⟩
  | .bytes b, _, _, x, r => by
    cases x
    obtain ⟨t, rfl⟩ := r
    exact ⟨_, ReadsW.bytes _ t⟩
  | .list ds, _, _, x, r => by
    cases x with
    | lst hs ha =>
      cases r
      obtain ⟨its, o, n, rv, ho, hc, hd⟩ := sqL_at hok KX hs
      obtain ⟨as, hr⟩ := Dw.readsAll hok KX ds _ its ha rv
      exact ⟨_, ReadsW.list ho hc hd hr⟩
  | .tuple ds, _, _, x, r => by
    cases x with
    | tup hs ha =>
      cases r
      obtain ⟨its, o, n, rv, ho, hc, hd⟩ := sqT_at hok KX hs
      obtain ⟨as, hr⟩ := Dw.readsAll hok KX ds _ its ha rv
      exact ⟨_, ReadsW.tuple ho hc hd hr⟩
  | .float _, _, _, x, _ => by cases x
  | .dict _, _, _, x, _ => by cases x
  | .bytearray _, _, _, x, _ => by cases x
  | .set _, _, _, x, _ => by cases x
  | .frozenset _, _, _, x, _ => by cases x
  | .obj _ _, _, _, x, _ => by cases x
theorem Dw.readsAll (hok : HOk P w H h) (KX : K.In h) : ∀ (ds : List WData) (vs : List V) (us : List Value), DwAll K H vs ds → Vals vs us → ∃ as, ReadsAllW R cl h us ds as
  | [], _, _, x, r => by
    cases x
    cases r
    exact ⟨_, ReadsAllW.nil⟩
  | d :: ds, _, _, x, r => by
    cases x with
    | cons h1 h2 =>
      cases r with
      | cons r1 r2 =>
        obtain ⟨as, q1⟩ := Dw.reads hok KX d _ _ h1 r1
        obtain ⟨bs, q2⟩ := Dw.readsAll hok KX ds _ _ h2 r2
        exact ⟨_, ReadsAllW.cons q1 q2⟩
end
end
mutual
/-- data that a codec tells -/
def plW : WData → Bool
  | .none => true
  | .bool _ => true
  | .int _ => true
  | .str _ => true
  | .bytes _ => true
  | .list xs => plWs xs
  | .tuple xs => plWs xs
  | _ => false
def plWs : List WData → Bool
  | [] => true
  | x :: r => plW x && plWs r
end
theorem plWs_map {α : Type} {f : α → WData} (h : ∀ a, plW (f a) = true) : ∀ l : List α, plWs (l.map f) = true
  | [] => rfl
  | x :: r => by
    show (plW (f x) && plWs (r.map f)) = true
    rw [h x, plWs_map h r] <;> rfl
theorem pl_enc : ∀ (c : Codec) (a : c.denote), plW (c.enc a) = true
  | .unit, _ => rfl
  | .bool, _ => rfl
  | .int _ _, _ => rfl
  | .nat _ _, _ => rfl
  | .u8, _ => rfl
  | .bytes _ _, _ => rfl
  | .text _ _ _ _, _ => rfl
  | .list _ _ c, a => plWs_map (fun x => pl_enc c x) a
  | .pair c d, a => by
    show (plW (c.enc a.1) && (plW (d.enc a.2) && true)) = true
    rw [pl_enc c a.1, pl_enc d a.2] <;> rfl
  | .triple c d e, a => by
    show (plW (c.enc a.1) && (plW (d.enc a.2.1) && (plW (e.enc a.2.2) && true))) = true
    rw [pl_enc c a.1, pl_enc d a.2.1, pl_enc e a.2.2] <;> rfl
  | .option c, none => rfl
  | .option c, some x => pl_enc c x
theorem pl_encAll : ∀ (cs : List Codec) (a : Codec.denoteAll cs), plWs (Codec.encAll cs a) = true
  | [], _ => rfl
  | c :: cs, a => by
    show (plW (c.enc a.1) && plWs (Codec.encAll cs a.2)) = true
    rw [pl_enc c a.1, pl_encAll cs a.2] <;> rfl
theorem weight_mem : ∀ {xs : List WData} {d : WData}, d ∈ xs → d.weight ≤ WData.weightAll xs
  | [], d, h => absurd h (by simp)
  | x :: r, d, h => by
    show d.weight ≤ x.weight + 1 + WData.weightAll r
    rcases List.mem_cons.mp h with e | m
    · rw [e]
      omega
    · have z := weight_mem m
      omega
def toV : Value → V
  | .none => .non
  | .bool b => .bl b
  | .int i _ => .int i
  | .str x _ => .str x
  | .bytes b _ => .byt b
  | .ref a => .ref a
  | _ => .non
def OkU (A : List Addr) : Value → Prop
  | .none => True
  | .bool _ => True
  | .int _ _ => True
  | .str _ _ => True
  | .bytes _ _ => True
  | .ref a => a ∈ A
  | _ => False
theorem OkU.mono {A B : List Addr} (h : ∀ a ∈ A, a ∈ B) : ∀ {u : Value}, OkU A u → OkU B u := fun {u} x => by
  cases u with
  | ref a => exact h a x
  | none => trivial
  | bool b => trivial
  | int i t => trivial
  | str s t => trivial
  | bytes b t => trivial
  | _ => exact False.elim x
theorem relV_toV {A : List Addr} {u : Value} (x : OkU A u) : RelV (toV u) u := by
  cases u with
  | ref a => rfl
  | none => rfl
  | bool b => rfl
  | int i t => exact ⟨t, rfl⟩
  | str s t => exact ⟨t, rfl⟩
  | bytes b t => exact ⟨t, rfl⟩
  | _ => exact False.elim x
theorem vals_toV {A : List Addr} : ∀ {vs : List Value}, (∀ u ∈ vs, OkU A u) → Vals (vs.map toV) vs
  | [], _ => .nil
  | u :: r, h => .cons (relV_toV (h u (List.mem_cons_self ..))) (vals_toV fun x hx => h x (List.mem_cons_of_mem _ hx))
def ArgOb (h : Heap) (A : List Addr) (a : Addr) : Prop := ∃ vs : List Value, vs.length ≤ sizeLine ∧ (∀ u ∈ vs, OkU A u) ∧
  (h.get? a = some { cls := .type "list", data := .seq vs.toArray } ∨ h.get? a = some { cls := .type "tuple", data := .seq vs.toArray })
theorem ArgOb.mono {h : Heap} {A B : List Addr} {a : Addr} (k : ∀ a ∈ A, a ∈ B) (x : ArgOb h A a) : ArgOb h B a := by
  obtain ⟨vs, h1, h2, h3⟩ := x
  exact ⟨vs, h1, fun u hu => (h2 u hu).mono k, h3⟩
theorem wellAll_len {P : Params} {h : Heap} : ∀ {vs : List Value} {ds : List WData}, WellAll P h vs ds → vs.length = ds.length
  | _, _, .nil => rfl
  | _, _, .cons _ b => by
    show _ + 1 = _ + 1
    rw [wellAll_len b]
theorem well_list {P : Params} {h : Heap} {v : Value} {ds : List WData} (x : Well P h v (.list ds)) : ∃ (a : Addr) (vs : List Value), v = .ref a ∧ h.get? a = some { cls := .type "list", data := .seq vs.toArray } ∧ WellAll P h vs ds := by
  cases x with
  | list ho hall => exact ⟨_, _, rfl, ho, hall⟩
theorem well_tuple {P : Params} {h : Heap} {v : Value} {ds : List WData} (x : Well P h v (.tuple ds)) : ∃ (a : Addr) (vs : List Value), v = .ref a ∧ h.get? a = some { cls := .type "tuple", data := .seq vs.toArray } ∧ WellAll P h vs ds := by
  cases x with
  | tuple ho hall => exact ⟨_, _, rfl, ho, hall⟩
theorem well_cons {P : Params} {h : Heap} {us : List Value} {d : WData} {ds : List WData} (x : WellAll P h us (d :: ds)) : ∃ (v : Value) (vs : List Value), us = v :: vs ∧ Well P h v d ∧ WellAll P h vs ds := by
  cases x with
  | cons a b => exact ⟨_, _, rfl, a, b⟩
theorem line_of {n : Nat} (h : n ≤ 1048576) : n ≤ sizeLine := Nat.le_trans h (by decide)
section
variable {P : Params} {h : Heap}
mutual
theorem area_one : ∀ (d : WData) (v : Value), Well P h v d → plW d = true → d.weight ≤ 1048576 → ∃ A : List Addr, OkU A v ∧ ∀ a ∈ A, ArgOb h A a
  | .none, _, x, _, _ => by
    cases x
    exact ⟨[], trivial, fun a m => absurd m (by simp)⟩
  | .bool b, _, x, _, _ => by
    cases x
    exact ⟨[], trivial, fun a m => absurd m (by simp)⟩
  | .int i, _, x, _, _ => by
    cases x
    exact ⟨[], trivial, fun a m => absurd m (by simp)⟩
  | .str s, _, x, _, _ => by
    cases x
    exact ⟨[], trivial, fun a m => absurd m (by simp)⟩
  | .bytes b, _, x, _, _ => by
    cases x
    exact ⟨[], trivial, fun a m => absurd m (by simp)⟩
  | .list ds, _, x, p, z => by
    obtain ⟨a, vs, rfl, ho, hall⟩ := well_list x
    have z2 : WData.weightAll ds ≤ 1048576 := z
    obtain ⟨A, h1, h2⟩ := area_all ds _ hall p fun d hd => Nat.le_trans (weight_mem hd) z2
    have k : ∀ b ∈ A, b ∈ a :: A := fun b hb => List.mem_cons_of_mem _ hb
    refine ⟨a :: A, List.mem_cons_self .., fun b hb => ?_⟩
    rcases List.mem_cons.mp hb with e | m
    · rw [e]
      exact ⟨vs, line_of (by rw [wellAll_len hall]; exact Nat.le_trans (PySem.W.length_le_weightAllW ds) z2), fun u hu => (h1 u hu).mono k, .inl ho⟩
    · exact (h2 b m).mono k
  | .tuple ds, _, x, p, z => by
    obtain ⟨a, vs, rfl, ho, hall⟩ := well_tuple x
    have z2 : WData.weightAll ds ≤ 1048576 := z
    obtain ⟨A, h1, h2⟩ := area_all ds _ hall p fun d hd => Nat.le_trans (weight_mem hd) z2
    have k : ∀ b ∈ A, b ∈ a :: A := fun b hb => List.mem_cons_of_mem _ hb
    refine ⟨a :: A, List.mem_cons_self .., fun b hb => ?_⟩
    rcases List.mem_cons.mp hb with e | m
    · rw [e]
      exact ⟨vs, line_of (by rw [wellAll_len hall]; exact Nat.le_trans (PySem.W.length_le_weightAllW ds) z2), fun u hu => (h1 u hu).mono k, .inr ho⟩
    · exact (h2 b m).mono k
  | .float _, _, _, p, _ => Bool.noConfusion (show false = true from p)
  | .dict _, _, _, p, _ => Bool.noConfusion (show false = true from p)
  | .bytearray _, _, _, p, _ => Bool.noConfusion (show false = true from p)
  | .set _, _, _, p, _ => Bool.noConfusion (show false = true from p)
  | .frozenset _, _, _, p, _ => Bool.noConfusion (show false = true from p)
  | .obj _ _, _, _, p, _ => Bool.noConfusion (show false = true from p)
theorem area_all : ∀ (ds : List WData) (vs : List Value), WellAll P h vs ds → plWs ds = true → (∀ d ∈ ds, d.weight ≤ 1048576) → ∃ A : List Addr, (∀ u ∈ vs, OkU A u) ∧ ∀ a ∈ A, ArgOb h A a
  | [], _, x, _, _ => by
    cases x
    exact ⟨[], fun u m => absurd m (by simp), fun a m => absurd m (by simp)⟩
  | d :: ds, _, x, p, z => by
    obtain ⟨v, vs, rfl, x1, x2⟩ := well_cons x
    have q : plW d = true ∧ plWs ds = true := Bool.and_eq_true_iff.mp p
    obtain ⟨A, a1, a2⟩ := area_one d v x1 q.1 (z d (List.mem_cons_self ..))
    obtain ⟨B, b1, b2⟩ := area_all ds vs x2 q.2 fun e he => z e (List.mem_cons_of_mem _ he)
    have kA : ∀ b ∈ A, b ∈ A ++ B := fun b hb => List.mem_append.mpr (.inl hb)
    have kB : ∀ b ∈ B, b ∈ A ++ B := fun b hb => List.mem_append.mpr (.inr hb)
    refine ⟨A ++ B, fun u hu => ?_, fun b hb => ?_⟩
    · rcases List.mem_cons.mp hu with e | m
      · rw [e]
        exact a1.mono kA
      · exact (b1 u m).mono kB
    · rcases List.mem_append.mp hb with m | m
      · exact (a2 b m).mono kA
      · exact (b2 b m).mono kB
end
end
def hoOf (o : Obj) : Option HO := match o.data with
  | .seq vs _ => if (o.cls == Value.type "list") = true then some (.frz o (.lst (vs.toList.map toV))) else some (.frz o (.tup (vs.toList.map toV)))
  | _ => none
def argH (K : PySem.W.Frag) (h : Heap) (A : List Addr) : Hp := fun b => if b ∈ A then (if (K.lookup b).isNone = true then (h.get? b).bind hoOf else none) else none
def OnlyF (H : Hp) : Prop := ∀ b, H b = none ∨ ∃ o u, H b = some (.frz o u)
theorem hoOf_lst (vs : List Value) : hoOf { cls := .type "list", data := .seq vs.toArray } = some (.frz { cls := .type "list", data := .seq vs.toArray } (.lst (vs.map toV))) := by
  show (if (Value.type "list" == Value.type "list") = true then some (HO.frz { cls := .type "list", data := .seq vs.toArray } (.lst (vs.toArray.toList.map toV))) else some (HO.frz { cls := .type "list", data := .seq vs.toArray } (.tup (vs.toArray.toList.map toV)))) = _
  rw [if_pos (beq_self_eq_true _)]
theorem hoOf_tup (vs : List Value) : hoOf { cls := .type "tuple", data := .seq vs.toArray } = some (.frz { cls := .type "tuple", data := .seq vs.toArray } (.tup (vs.map toV))) := by
  show (if (Value.type "tuple" == Value.type "list") = true then some (HO.frz { cls := .type "tuple", data := .seq vs.toArray } (.lst (vs.toArray.toList.map toV))) else some (HO.frz { cls := .type "tuple", data := .seq vs.toArray } (.tup (vs.toArray.toList.map toV)))) = _
  rw [if_neg (by decide)]
section
variable {P : Program} {w : World} {K : PySem.W.Frag} {h : Heap} {A : List Addr}
theorem argH_at {b : Addr} {o : Obj} (hb : b ∈ A) (hk : K.lookup b = none) (e : h.get? b = some o) : argH K h A b = hoOf o := by
  unfold argH
  rw [if_pos hb, hk, if_pos (show (none : Option Obj).isNone = true from rfl), e] <;> rfl
theorem of_argH {b : Addr} {u : HO} (q : argH K h A b = some u) : b ∈ A ∧ K.lookup b = none := by
  unfold argH at q
  by_cases hb : b ∈ A
  · rw [if_pos hb] at q
    cases hk : K.lookup b with
    | none => exact ⟨hb, rfl⟩
    | some o =>
      rw [hk, if_neg (by simp)] at q
      cases q
  · rw [if_neg hb] at q
    cases q
theorem argH_is (ar : ∀ a ∈ A, ArgOb h A a) {b : Addr} {u : HO} (q : argH K h A b = some u) : K.lookup b = none ∧ ∃ vs : List Value, vs.length ≤ sizeLine ∧ (∀ u ∈ vs, OkU A u) ∧
    ((h.get? b = some { cls := .type "list", data := .seq vs.toArray } ∧ u = .frz { cls := .type "list", data := .seq vs.toArray } (.lst (vs.map toV))) ∨
     (h.get? b = some { cls := .type "tuple", data := .seq vs.toArray } ∧ u = .frz { cls := .type "tuple", data := .seq vs.toArray } (.tup (vs.map toV)))) := by
  obtain ⟨hb, hk⟩ := of_argH q
  obtain ⟨vs, h1, h2, h3⟩ := ar b hb
  refine ⟨hk, vs, h1, h2, ?_⟩
  rcases h3 with e | e
  · rw [argH_at hb hk e, hoOf_lst] at q
    exact .inl ⟨e, (Option.some.inj q).symm⟩
  · rw [argH_at hb hk e, hoOf_tup] at q
    exact .inr ⟨e, (Option.some.inj q).symm⟩
theorem argH_only (ar : ∀ a ∈ A, ArgOb h A a) : OnlyF (argH K h A) := fun b => by
  cases q : argH K h A b with
  | none => exact .inl rfl
  | some u =>
    obtain ⟨_, vs, _, _, ⟨_, e⟩ | ⟨_, e⟩⟩ := argH_is ar q
    · exact .inr ⟨_, _, by rw [e]⟩
    · exact .inr ⟨_, _, by rw [e]⟩
theorem argH_ok (ar : ∀ a ∈ A, ArgOb h A a) : HOk P w (argH K h A) h := fun b u q => by
  obtain ⟨_, vs, h1, h2, ⟨e, rfl⟩ | ⟨e, rfl⟩⟩ := argH_is ar q
  · exact ⟨e, by rw [List.length_map]; exact h1, vs, _, vals_toV h2, e⟩
  · exact ⟨e, by rw [List.length_map]; exact h1, vs, vals_toV h2, _, e, rfl, _, rfl⟩
theorem seq_inj {c c' : Value} {vs us : List Value} (e : (some { cls := c, data := .seq vs.toArray } : Option Obj) = some { cls := c', data := .seq us.toArray }) : c = c' ∧ vs = us := by
  have e1 := Option.some.inj e
  have e2 : c = c' := congrArg Obj.cls e1
  have e3 : Data.seq vs.toArray = Data.seq us.toArray := congrArg Obj.data e1
  injection e3 with e4
  refine ⟨e2, ?_⟩
  have e5 := congrArg Array.toList e4
  simpa using e5
theorem argL (KX : K.In h) (ar : ∀ a ∈ A, ArgOb h A a) {a : Addr} {vs : List Value} (ha : a ∈ A) (e : h.get? a = some { cls := .type "list", data := .seq vs.toArray }) : (∀ u ∈ vs, OkU A u) ∧ SqL K (argH K h A) a (vs.map toV) := by
  obtain ⟨us, h1, h2, h3⟩ := ar a ha
  have hu : us = vs := by
    rcases h3 with q | q
    · rw [e] at q
      exact (seq_inj q).2.symm
    · rw [e] at q
      exact absurd (Value.type.inj (seq_inj q).1) (by decide)
  subst hu
  refine ⟨h2, ?_⟩
  cases hk : K.lookup a with
  | none => exact .inl (.inr ⟨_, by rw [argH_at ha hk e, hoOf_lst]⟩)
  | some o =>
    have e2 := KX a o hk
    rw [e] at e2
    obtain rfl := Option.some.inj e2
    exact .inr ⟨_, us.toArray, _, hk, rfl, rfl, rfl, by rw [List.size_toArray]; exact h1, by simpa using vals_toV h2⟩
theorem argT (KX : K.In h) (ar : ∀ a ∈ A, ArgOb h A a) {a : Addr} {vs : List Value} (ha : a ∈ A) (e : h.get? a = some { cls := .type "tuple", data := .seq vs.toArray }) : (∀ u ∈ vs, OkU A u) ∧ SqT K (argH K h A) a (vs.map toV) := by
  obtain ⟨us, h1, h2, h3⟩ := ar a ha
  have hu : us = vs := by
    rcases h3 with q | q
    · rw [e] at q
      exact absurd (Value.type.inj (seq_inj q).1) (by decide)
    · rw [e] at q
      exact (seq_inj q).2.symm
  subst hu
  refine ⟨h2, ?_⟩
  cases hk : K.lookup a with
  | none => exact .inl (.inr ⟨_, by rw [argH_at ha hk e, hoOf_tup]⟩)
  | some o =>
    have e2 := KX a o hk
    rw [e] at e2
    obtain rfl := Option.some.inj e2
    exact .inr ⟨_, us.toArray, _, hk, rfl, rfl, by rw [List.size_toArray]; exact h1, by simpa using vals_toV h2⟩
mutual
theorem dw_one {Pm : Params} (KX : K.In h) (ar : ∀ a ∈ A, ArgOb h A a) : ∀ (d : WData) (v : Value), Well Pm h v d → plW d = true → OkU A v → Dw K (argH K h A) (toV v) d
  | .none, _, x, _, _ => by
    cases x
    exact .non
  | .bool b, _, x, _, _ => by
    cases x
    exact .bl b
  | .int i, _, x, _, _ => by
    cases x
    exact .int i
  | .str s, _, x, _, _ => by
    cases x
    exact .str s
  | .bytes b, _, x, _, _ => by
    cases x
    have z := Dw.byt (K := K) (H := argH K h A) b.toArray
    exact z
  | .list ds, _, x, p, hu => by
    obtain ⟨a, vs, rfl, ho, hall⟩ := well_list x
    obtain ⟨h2, hs⟩ := argL KX ar hu ho
    exact .lst hs (dw_all KX ar ds _ hall p h2)
  | .tuple ds, _, x, p, hu => by
    obtain ⟨a, vs, rfl, ho, hall⟩ := well_tuple x
    obtain ⟨h2, hs⟩ := argT KX ar hu ho
    exact .tup hs (dw_all KX ar ds _ hall p h2)
  | .float _, _, _, p, _ => Bool.noConfusion (show false = true from p)
  | .dict _, _, _, p, _ => Bool.noConfusion (show false = true from p)
  | .bytearray _, _, _, p, _ => Bool.noConfusion (show false = true from p)
  | .set _, _, _, p, _ => Bool.noConfusion (show false = true from p)
  | .frozenset _, _, _, p, _ => Bool.noConfusion (show false = true from p)
  | .obj _ _, _, _, p, _ => Bool.noConfusion (show false = true from p)
theorem dw_all {Pm : Params} (KX : K.In h) (ar : ∀ a ∈ A, ArgOb h A a) : ∀ (ds : List WData) (vs : List Value), WellAll Pm h vs ds → plWs ds = true → (∀ u ∈ vs, OkU A u) → DwAll K (argH K h A) (vs.map toV) ds
  | [], _, x, _, _ => by
    cases x
    exact .nil
  | d :: ds, _, x, p, hu => by
    obtain ⟨v, vs, rfl, x1, x2⟩ := well_cons x
    have q : plW d = true ∧ plWs ds = true := Bool.and_eq_true_iff.mp p
    exact .cons (dw_one KX ar d v x1 q.1 (hu _ (List.mem_cons_self ..))) (dw_all KX ar ds vs x2 q.2 fun u m => hu u (List.mem_cons_of_mem _ m))
end
end
theorem spec_call {P : Program} {w : World} {K : PySem.W.Frag} {mg mb : Str → Option Value} {CX : CXT} {k : Nat} {fa : Addr} {fd : FuncData} {ps : List Str} {sp : Sp} {s₁ : Shared} {vals : List Value} {ds : List WData} {R : PySem.W.WRecords} {cl : Str → Option Addr} {d0 : WData}
    (KX : K.In s₁.heap) (hns : s₁.heap.Ns mainGlobals mg) (hb : s₁.heap.Ns builtinsNs mb) (hbb : ∀ x : Str, x ≠ "__name__" → mb x = bootBuiltins x) (hlim : s₁.heap.NoLimit) (hg : s₁.gens = #[])
    (hwl : WellAll w.params s₁.heap vals ds) (hpl : plWs ds = true) (hwt : ∀ d ∈ ds, d.weight ≤ 1048576) (hr : Room k callerA)
    (F : ∀ base : Heap, K.In base → base.Ns mainGlobals mg → FnOk P w K mg base CX k fa fd ps sp) (hbind : ∀ (s : Shared) (us : List Value), us.length = ps.length → BindsTo s fd ⟨us, []⟩ (ps.zip us)) (hlen : ds.length = ps.length)
    (hsp : ∀ (H : Hp) (xs : List V), OnlyF H → DwAll K H xs ds → sp xs H (fun v H' => Dw K H' v d0) fun _ _ _ => False)
    (hCX : ∀ H e s', CX [] H s₁ (fun _ _ _ => False) e s' → False) :
    codeAny (model P w) callerA (.call (.ref fa) ⟨vals, []⟩) (fun r s' => ∃ u as, r = .ok (.ret u) ∧ ReadsW R cl s'.heap u d0 as ∧ OldK s₁.heap s'.heap ∧ s'.os = s₁.os ∧ AllBare s'.gens) s₁ := by
  obtain ⟨A, ho, ar⟩ := area_all ds vals hwl hpl hwt
  have hO : OnlyF (argH K s₁.heap A) := argH_only ar
  have hok : HOk P w (argH K s₁.heap A) s₁.heap := argH_ok ar
  have hS := dw_all KX ar ds vals hwl hpl ho
  have hV := vals_toV ho
  have hK : ∀ b u, argH K s₁.heap A b = some u → K.lookup b = none := fun b u q => (argH_is ar q).1
  have noA : ∀ {b : Addr} {o : Obj} {es : Array DictEntry} {ep : Nat}, s₁.heap.get? b = some o → o.data = .dict es ep → argH K s₁.heap A b = none := fun {b o es ep} e d => by
    cases q : argH K s₁.heap A b with
    | none => rfl
    | some u =>
      obtain ⟨_, vs, _, _, ⟨e2, _⟩ | ⟨e2, _⟩⟩ := argH_is ar q
      · rw [e2] at e
        cases e
        have d' : Data.seq vs.toArray _ = Data.dict es ep := d
        cases d'
      · rw [e2] at e
        cases e
        have d' : Data.seq vs.toArray _ = Data.dict es ep := d
        cases d'
  generalize argH K s₁.heap A = H at hO hok hS hK noA
  have base_of : ∀ {b : Addr} {o : Obj}, s₁.heap.get? b = some o → H b = none → (hidT s₁.heap H).get? b = some o := fun e n => hidT_get e n
  have nsK : ∀ {b : Addr} {m : Str → Option Value}, s₁.heap.Ns b m → (hidT s₁.heap H).Ns b m := fun {b m} ⟨o, es, ep, e, d, r⟩ => ⟨o, es, ep, base_of e (noA e d), d, r⟩
  have nK : ∀ b o, K.lookup b = some o → H b = none := fun b o e => by
    cases q : H b with
    | none => rfl
    | some u =>
      rw [hK b u q] at e
      cases e
  have hKb : K.In (hidT s₁.heap H) := fun b o e => base_of (KX b o e) (nK b o e)
  have hM : Mod K mg (hidT s₁.heap H) := ⟨hKb, nsK hns, ⟨mb, nsK hb, hbb⟩, let ⟨mc, h1, h2⟩ := hlim; ⟨mc, nsK h1, h2⟩⟩
  have e0 : Env0 P w K mg (hidT s₁.heap H) callerA [] s₁ H := ⟨rfl, hM, fun b o e => of_hidT e, Nat.le_of_eq (hidT_size _ _), trivial, fun b hb => absurd (show b ∈ ([] : List Addr) from hb) (by simp), hok, .of_eq hg⟩
  have hl : vals.length = ps.length := by rw [wellAll_len hwl]; exact hlen
  refine codeAny_mono ((F _ hKb (nsK hns)).run callerA [] s₁ H ⟨vals, []⟩ vals (vals.map toV) _ _ hr e0 (hbind s₁ vals hl) hV (hsp H _ hO hS)) fun r s' x => ?_
  cases r with
  | error e => exact (hCX H e s' x).elim
  | ok fl =>
    cases fl with
    | next => exact False.elim x
    | brk => exact False.elim x
    | cont => exact False.elim x
    | ret u =>
      obtain ⟨v, H', os, bare, un, hok', r', q⟩ := x
      have kept : ∀ b o, s₁.heap.get? b = some o → s'.heap.get? b = some o := fun b o e => by
        cases q2 : H b with
        | none => exact un.keep b o e q2 (by intro z; exact absurd (show b ∈ ([] : List Addr) from z) (by simp)) (by simp)
        | some u2 =>
          rcases hO b with z | ⟨ob, u3, z⟩
          · rw [q2] at z
            cases z
          · have z2 := un.frzs b ob _ z
            obtain ⟨e1, _⟩ := hok b _ z
            obtain ⟨e2, _⟩ := hok' b _ z2
            rw [e] at e1
            cases e1
            exact e2
      have KX' : K.In s'.heap := fun b o e => kept b o (KX b o e)
      obtain ⟨as, hrd⟩ := Dw.reads (R := R) (cl := cl) hok' KX' d0 v u q r'
      exact ⟨u, as, rfl, hrd, OldK.of_keep kept, os, bare⟩
theorem layable_weight {ds : List WData} (h : WData.layableAll ds = true) : ∀ d ∈ ds, d.weight ≤ 1048576 := fun d hd =>
  (PySem.W.layableW_iff.mp (List.all_eq_true.mp h d hd)).2.2
theorem encAll_len : ∀ (cs : List Codec) (a : Codec.denoteAll cs), (Codec.encAll cs a).length = cs.length
  | [], _ => rfl
  | c :: cs, a => by
    show (Codec.encAll cs a.2).length + 1 = cs.length + 1
    rw [encAll_len cs a.2]
theorem walk_spec {r : OpenSpec} {k : Nat} {q : Program} {loose : List Str} {XP : (Str → Option Value) → Heap → Prop} {YP : World → Heap → Prop} {d : DefRec} {K : Params → PySem.W.Frag} {CX : World → CXT} {ps : List Str} {sp : World → Sp}
    (hwell : r.wellSaid = true) (hdf : d.params.defaults = []) (hlen : r.args.length = ps.length) (hr : Room k callerA)
    (hY : ∀ (w : World) (h : Heap), YP w h → (K w.params).In h)
    (F : ∀ (w : World) (mg : Str → Option Value) (fa : Addr) (h : Heap), YP w h → (K w.params).In h → h.Ns mainGlobals mg → mg d.name = some (.ref fa) →
      ∃ fd : FuncData, (∀ (s : Shared) (us : List Value), us.length = ps.length → BindsTo s fd ⟨us, []⟩ (ps.zip us)) ∧
        ∀ base : Heap, (K w.params).In base → base.Ns mainGlobals mg → FnOk r.prog w (K w.params) mg base (CX w) k fa fd ps (sp w))
    (hsp : ∀ (w : World) (H : Hp) (xs : List V) (a : Codec.denoteAll r.args), OnlyF H → Codec.withinAll r.args a = true → Codec.app r.args r.asked a = true → DwAll (K w.params) H xs (Codec.encAll r.args a) →
      sp w xs H (fun v H' => Dw (K w.params) H' v (r.ret.enc (Codec.app r.args r.f a))) fun _ _ _ => False)
    (hCX : ∀ (w : World) (H : Hp) (s : Shared) (e : Value) (s' : Shared), CX w [] H s (fun _ _ _ => False) e s' → False) :
    PySem.W.WalkOS q loose XP YP r d [] (fun f vs => PySem.call f vs) := by
  intro w s_0 s₁ mg mb G Y fa o pm cd doc dV kV ho hd hcd hD hmg hg args vals as hpre hlay hrd hwl hlo
  obtain ⟨a, e1, e2⟩ := PySem.W.os_pre_some hpre
  obtain ⟨e3, hwi⟩ := Codec.encAll_of_decAll r.args args a e1
  subst e3
  have KX := hY w _ Y
  obtain ⟨fd, hb, hF⟩ := F w mg fa _ Y KX G.T.g hmg
  refine PySem.W.enter_call (codeAny_mono (spec_call (R := []) (cl := classAt s_0.heap) (d0 := r.ret.enc (Codec.app r.args r.f a)) KX G.T.g G.T.b G.T.builtins G.T.nolimit hg hwl (pl_encAll _ _) (layable_weight hlay) hr hF hb (by rw [encAll_len]; exact hlen)
    (fun H xs hO hS => hsp w H xs a hO hwi e2 hS) fun H e s' => hCX w H s₁ e s') fun r' s' hq => ?_)
  obtain ⟨u, as', rfl, h1, h2, h3, h4⟩ := hq
  exact ⟨.inl ⟨u, _, as', rfl, fun _ => rfl, h1, (OpenSpec.post_iff hwell hwi _ _).mpr rfl, fun z => Bool.noConfusion (show false = true from z)⟩, h2, h3, h4⟩
theorem walk_specK {r : OpenSpec} {k : Nat} {q : Program} {loose : List Str} {XP : (Str → Option Value) → Heap → Prop} {YP : World → Heap → Prop} {d : DefRec} {K : Params → PySem.W.Frag} {CX : CXT} {ps : List Str} {sp : PySem.W.Frag → Sp}
    (hwell : r.wellSaid = true) (hdf : d.params.defaults = []) (hlen : r.args.length = ps.length) (hr : Room k callerA)
    (hY : ∀ (w : World) (h : Heap), YP w h → (K w.params).In h)
    (F : ∀ (w : World) (mg : Str → Option Value) (fa : Addr) (h : Heap), YP w h → (K w.params).In h → h.Ns mainGlobals mg → mg d.name = some (.ref fa) →
      ∃ fd : FuncData, (∀ (s : Shared) (us : List Value), us.length = ps.length → BindsTo s fd ⟨us, []⟩ (ps.zip us)) ∧
        ∀ base : Heap, (K w.params).In base → base.Ns mainGlobals mg → FnOk r.prog w (K w.params) mg base CX k fa fd ps (sp (K w.params)))
    (hsp : ∀ (K : PySem.W.Frag) (H : Hp) (xs : List V) (a : Codec.denoteAll r.args), OnlyF H → Codec.withinAll r.args a = true → Codec.app r.args r.asked a = true → DwAll K H xs (Codec.encAll r.args a) →
      sp K xs H (fun v H' => Dw K H' v (r.ret.enc (Codec.app r.args r.f a))) fun _ _ _ => False)
    (hCX : ∀ (H : Hp) (s : Shared) (e : Value) (s' : Shared), CX [] H s (fun _ _ _ => False) e s' → False) :
    PySem.W.WalkOS q loose XP YP r d [] (fun f vs => PySem.call f vs) :=
  walk_spec (K := K) (CX := fun _ => CX) (sp := fun w => sp (K w.params)) hwell hdf hlen hr hY F (fun w H xs a h1 h2 h3 h4 => hsp (K w.params) H xs a h1 h2 h3 h4) fun _ H s e s' => hCX H s e s'
end L2
end
section
namespace L2
open PySem PySem.Spec PyProof.Rows
theorem pk {X : Cx} {x : Str} {n : Int} {pos : Pos} (hg : Gl X x) (h : ∃ u, X.mg x = some (.int n u)) (hd : (x == ("__debug__" : Str)) = false := by decide) : PE X (.Name x pos) (tC (.int n)) := by
 obtain ⟨u, hm⟩ := h
 exact pe_glob hg hm ⟨u, rfl⟩ hd
section
variable {prog : Program} {w : World} {A : Around} {E : Value → Shared → Prop} {s : Shared}
theorem xv_view {d : Addr} {o : Obj} {Q : Value → Shared → Prop} (hd : (d == sysModules) = false) (ho : s.heap.get? d = some o) (hc : o.ExactDict)
  (h : Q (.ref s.heap.objs.size) { s with heap := s.heap.push { cls := .type "dict_values", data := .fields #[.ref d] } }) : wpAny (model prog w) A (call (.builtin "dict.values") [.ref d]) Q E s := by
 have hT : s.TypeIs (.ref d) "dict" := ⟨o, ho, hc.1⟩
 have m : MeetsIn prog w (Builtin.«dict.values» ⟨[.ref d], []⟩) (fun _ R s' => s' = s ∧ R (.ok (.ret (.ref s.heap.objs.size))) { s with heap := s.heap.push { cls := .type "dict_values", data := .fields #[.ref d] } }) :=
  .of_wp fun A R s' ⟨es, h⟩ => by
   subst es
   refine wpAny_bind ?_
   unfold Builtin.Dict.noArgs
   refine wpAny_bind (wpAny_notOrdered_dict hT ?_)
   refine (show wpAny _ _ (pure d) _ _ s' from wpAny_pure ?_)
   show wpAny _ _ (Builtin.Dict.showsAll d >>= _) _ _ s'
   unfold Builtin.Dict.showsAll
   rw [if_neg (fun q => by rw [hd] at q; cases q)]
   exact wpAny_bind (wpAny_pure (wpAny_bind (wpAny_newObj_type (wpAny_pure ⟨_, rfl, h⟩))))
 exact call_meetsIn F.slot_dict_values hT F.entry_dict_values (F.args_dict_values_1 _) m ⟨rfl, h⟩
theorem xi_view {d : Addr} {o : Obj} {Q : Value → Shared → Prop} (hd : (d == sysModules) = false) (ho : s.heap.get? d = some o) (hc : o.ExactDict)
  (h : Q (.ref s.heap.objs.size) { s with heap := s.heap.push { cls := .type "dict_items", data := .fields #[.ref d] } }) : wpAny (model prog w) A (call (.builtin "dict.items") [.ref d]) Q E s := by
 have hT : s.TypeIs (.ref d) "dict" := ⟨o, ho, hc.1⟩
 have m : MeetsIn prog w (Builtin.«dict.items» ⟨[.ref d], []⟩) (fun _ R s' => s' = s ∧ R (.ok (.ret (.ref s.heap.objs.size))) { s with heap := s.heap.push { cls := .type "dict_items", data := .fields #[.ref d] } }) :=
  .of_wp fun A R s' ⟨es, h⟩ => by
   subst es
   unfold Builtin.«dict.items»
   refine wpAny_bind ?_
   unfold Builtin.Dict.noArgs
   refine wpAny_bind (wpAny_notOrdered_dict hT ?_)
   refine (show wpAny _ _ (pure d) _ _ s' from wpAny_pure ?_)
   show wpAny _ _ (Builtin.Dict.showsAll d >>= _) _ _ s'
   unfold Builtin.Dict.showsAll
   rw [if_neg (fun q => by rw [hd] at q; cases q)]
   exact wpAny_bind (wpAny_pure (wpAny_bind (wpAny_newObj_type (wpAny_pure ⟨_, rfl, h⟩))))
 exact call_meetsIn F.slot_dict_items hT F.entry_dict_items (F.args_dict_items_1 _) m ⟨rfl, h⟩
theorem xv_iter {v d : Addr} {o : Obj} {es : Array DictEntry} {n ep : Nat} {Q : Value → Shared → Prop} (hv : s.heap.IsValuesView v d) (ho : s.heap.get? d = some o) (hdat : o.data = .dict es ep) (hsz : es.size = n)
  (hQ : Q (.ref s.heap.objs.size) { s with heap := s.heap.push { cls := .type "dict_valueiterator", data := .fields #[.ref d, .int 0 0, .int n 0, .int ep 0] } }) : wpAny (model prog w) A (pyIter (.ref v)) Q E s := by
 obtain ⟨qv, hqv, _, hfv⟩ := id hv
 refine wpAny_pyIter_slot hv.typeIs F.slot_dict_values_iter (wpAny_call_entry F.slot_dict_values_iter hv.typeIs F.entry_dict_values_iter ?_ (F.args_dict_values_iter_1 _))
 unfold Builtin.«dict_values.__iter__»
 refine wpAny_bind (wpAny_pure (wpAny_bind ?_))
 unfold Builtin.Dict_items.dictOf
 refine wpAny_bind (wpAny_field hqv hfv (x := .ref d) rfl (wpAny_pure (wpAny_bind ?_)))
 unfold Builtin.Dict_items.newIterator
 refine wpAny_bind (wpAny_dictEntries ho hdat (wpAny_bind (wpAny_dictEpoch ho hdat ?_)))
 simp only [show Builtin.Dict_items.ownsTuple "dict_valueiterator" = false by decide, Bool.false_eq_true, if_false]
 refine wpAny_newObj_type (wpAny_pure ⟨_, rfl, "dict_valueiterator", _, ⟨_, Heap.get?_push_size _ rfl, rfl⟩, F.slot_dict_valueiterator_next.lookup, ?_⟩)
 subst hsz
 simpa [rawInt] using hQ
theorem xi_iter {v d : Addr} {o : Obj} {es : Array DictEntry} {n ep : Nat} {Q : Value → Shared → Prop} (hv : s.heap.IsItemsView v d) (ho : s.heap.get? d = some o) (hdat : o.data = .dict es ep) (hsz : es.size = n)
  (hQ : Q (.ref s.heap.objs.size) { s with heap := s.heap.push { cls := .type "dict_itemiterator", data := .fields #[.none, .bool false, .ref d, .int 0 0, .int n 0, .int ep 0, .none, .none] } }) : wpAny (model prog w) A (pyIter (.ref v)) Q E s := by
 obtain ⟨qv, hqv, _, hfv⟩ := id hv
 refine wpAny_pyIter_slot hv.typeIs F.slot_dict_items_iter (wpAny_call_entry F.slot_dict_items_iter hv.typeIs F.entry_dict_items_iter ?_ (F.args_dict_items_iter_1 _))
 unfold Builtin.«dict_items.__iter__»
 refine wpAny_bind (wpAny_pure (wpAny_bind ?_))
 unfold Builtin.Dict_items.dictOf
 refine wpAny_bind (wpAny_field hqv hfv (x := .ref d) rfl (wpAny_pure (wpAny_bind ?_)))
 unfold Builtin.Dict_items.newIterator
 refine wpAny_bind (wpAny_dictEntries ho hdat (wpAny_bind (wpAny_dictEpoch ho hdat ?_)))
 simp only [show Builtin.Dict_items.ownsTuple "dict_itemiterator" = true by decide, if_true]
 refine wpAny_newObj_type (wpAny_pure ⟨_, rfl, "dict_itemiterator", _, ⟨_, Heap.get?_push_size _ rfl, rfl⟩, F.slot_dict_itemiterator_next.lookup, ?_⟩)
  (by simp only [sizeOk, Builtin.Dict_items.ownedTupleFields, List.size_toArray, List.length_append, List.length_cons, List.length_nil, sizeLine_eq]; omega)
 subst hsz
 simpa [rawInt, Builtin.Dict_items.ownedTupleFields] using hQ
theorem next_val_item {it d : Addr} {i n ep : Nat} {od : Obj} {es : Array DictEntry} {en : DictEntry} {Q : Option Value → Shared → Prop} (hit : s.heap.IsValIter it d i n ep) (hod : s.heap.get? d = some od) (hdd : od.data = .dict es ep)
  (hsz : es.size = n) (hx : es[i]? = some en) (hQ : ∀ h', h'.IsValIter it d (i + 1) n ep → Heap.SameBut it s.heap h' → Q (some en.val) { s with heap := h' }) : wpAny (model prog w) A (pyNext (.ref it)) Q E s := by
 obtain ⟨o, ho, hc, hd⟩ := id hit
 unfold pyNext
 refine wpAny_bind (wpAny_attempt (wpAny_callSpecial?_slot (name := Str.ofString "__next__") hit.typeIs F.slot_dict_valueiterator_next (wpAny_call_entry F.slot_dict_valueiterator_next hit.typeIs F.entry_dict_valueiterator_next ?_ (F.args_dict_valueiterator_next_1 _))))
 refine wpAny_bind (wpAny_pure (wpAny_bind (wpAny_bind ?_)))
 first | refine wpAny_bind (wpAny_typeNameOfWhole_valiter hit.typeIs (wpAny_pure (wpAny_bind (wpAny_fieldsOf ho hd ?_)))) | refine wpAny_bind (wpAny_typeNameOf_valiter hit.typeIs (wpAny_pure (wpAny_bind (wpAny_fieldsOf ho hd ?_))))
 simp only [show Builtin.Dict_items.ownsTuple "dict_valueiterator" = false by decide, Bool.false_eq_true, if_false]
 show wpAny _ _ (if (Value.ref d == Value.none) = true then _ else _) _ _ s
 rw [if_neg (show ¬ ((Value.ref d == Value.none) = true) from Bool.false_ne_true)]
 refine wpAny_bind (wpAny_pure (wpAny_bind (wpAny_dictEntries hod hdd ?_)))
 rw [if_neg (by rw [hsz]; simp)]
 refine wpAny_bind (wpAny_pure (wpAny_bind (wpAny_dictEpoch hod hdd ?_)))
 rw [if_neg (by simp)]
 refine wpAny_pure ?_
 obtain ⟨hlt', hen⟩ := Array.getElem?_eq_some_iff.mp hx
 simp only [show ¬ ((i : Int) < 0) from by omega, if_false, Int.toNat_natCast, Array.getElem?_eq_getElem hlt']
 refine wpAny_bind ?_
 first | refine wpAny_bind (wpAny_typeNameOfWhole_valiter hit.typeIs (wpAny_pure (wpAny_bind (wpAny_isOneOf_valiter hit.typeIs ?_)))) | refine wpAny_bind (wpAny_typeNameOf_valiter hit.typeIs (wpAny_pure (wpAny_bind (wpAny_isOneOf_valiter hit.typeIs ?_))))
 show wpAny _ _ (setField (.ref it) 1 (rawInt ((i : Int) + 1)) >>= _) _ _ s
 refine wpAny_bind (wpAny_setField ho hd (by simp) ?_)
 have hit' : (s.heap.update it (Obj.mapFields (·.setIfInBounds 1 (rawInt ((i : Int) + 1))))).IsValIter it d (i + 1) n ep :=
  ⟨_, Heap.get?_update_self _ ho (Obj.isFreed_of_fields (Obj.data_mapFields hd _)), (Obj.cls_mapFields ..).trans hc, by rw [Obj.data_mapFields hd]; simp [rawInt]⟩
 refine wpAny_bind (wpAny_holding ?_)
 refine wpAny_bind (wpAny_isOneOf_valiter (s := { s with heap := s.heap.update it (Obj.mapFields (·.setIfInBounds 1 (rawInt ((i : Int) + 1)))) }) hit'.typeIs (wpAny_bind (wpAny_isOneOf_valiter (s := { s with heap := s.heap.update it (Obj.mapFields (·.setIfInBounds 1 (rawInt ((i : Int) + 1)))) }) hit'.typeIs ?_)))
 show wpAny _ _ (pure es[i].val) _ _ _
 rw [hen]
 exact wpAny_pure (wpAny_pure ⟨_, rfl, wpAny_pure (hQ _ hit' (Heap.SameBut.update ..))⟩)
theorem next_val_end {it d : Addr} {i n ep : Nat} {od : Obj} {es : Array DictEntry} {Q : Option Value → Shared → Prop} (hh : A.handled = none) (hit : s.heap.IsValIter it d i n ep) (hod : s.heap.get? d = some od) (hdd : od.data = .dict es ep)
  (hsz : es.size = n) (hge : n ≤ i) (hQ : ∀ h', Heap.ExtBut it s.heap h' → Q none { s with heap := h' }) : wpAny (model prog w) A (pyNext (.ref it)) Q E s := by
 obtain ⟨o, ho, hc, hd⟩ := id hit
 unfold pyNext
 refine wpAny_bind (wpAny_attempt (wpAny_callSpecial?_slot (name := Str.ofString "__next__") hit.typeIs F.slot_dict_valueiterator_next (wpAny_call_entry F.slot_dict_valueiterator_next hit.typeIs F.entry_dict_valueiterator_next ?_ (F.args_dict_valueiterator_next_1 _))))
 refine wpAny_bind (wpAny_pure (wpAny_bind (wpAny_bind ?_)))
 first | refine wpAny_bind (wpAny_typeNameOfWhole_valiter hit.typeIs (wpAny_pure (wpAny_bind (wpAny_fieldsOf ho hd ?_)))) | refine wpAny_bind (wpAny_typeNameOf_valiter hit.typeIs (wpAny_pure (wpAny_bind (wpAny_fieldsOf ho hd ?_))))
 simp only [show Builtin.Dict_items.ownsTuple "dict_valueiterator" = false by decide, Bool.false_eq_true, if_false]
 show wpAny _ _ (if (Value.ref d == Value.none) = true then _ else _) _ _ s
 rw [if_neg (show ¬ ((Value.ref d == Value.none) = true) from Bool.false_ne_true)]
 refine wpAny_bind (wpAny_pure (wpAny_bind (wpAny_dictEntries hod hdd ?_)))
 rw [if_neg (by rw [hsz]; simp)]
 refine wpAny_bind (wpAny_pure (wpAny_bind (wpAny_dictEpoch hod hdd ?_)))
 rw [if_neg (by simp)]
 refine wpAny_pure ?_
 have hge' : es.size ≤ i := by rw [hsz]; exact hge
 simp only [show ¬ ((i : Int) < 0) from by omega, if_false, Int.toNat_natCast, Array.getElem?_eq_none hge']
 refine wpAny_bind ?_
 first | refine wpAny_bind (wpAny_typeNameOfWhole_valiter hit.typeIs (wpAny_pure ?_)) | refine wpAny_bind (wpAny_typeNameOf_valiter hit.typeIs (wpAny_pure ?_))
 show wpAny _ _ (setField (.ref it) 0 .none >>= _) _ _ s
 refine wpAny_bind (wpAny_setField ho hd (by simp) ?_)
 show wpAny _ _ (newExc (.type "StopIteration") [] >>= _) _ _ _
 refine wpAny_bind ?_
 simp only [newExc, newTuple]
 refine wpAny_bind (wpAny_newObj_type ?_ (by size_fits))
 refine wpAny_bind (m := firstArgMember _ _) (wpAny_of_eq (a := Value.none) (by first | rfl | (simp only [firstArgMember]; rfl)) ?_)
 refine wpAny_newObj_type ?_ (by size_fits)
 simp only [raiseNew]
 refine wpAny_bind (wpAny_handled ?_)
 rw [show A.in1.handled = none from hh]
 refine wpAny_bind (wpAny_pure (wpAny_throw ?_))
 refine wpAny_bind (wpAny_isInstance (T := "StopIteration") (b := true) ⟨_, Heap.get?_push_size _ rfl, rfl⟩ isSubtype_stop ?_)
 exact wpAny_pure (hQ _ (((Heap.SameBut.update ..).extBut.push _).push _))
end
end L2
end
section
namespace L2
open PySem PySem.Spec PyProof.Rows
section
variable {prog : Program} {w : World} {A : Around} {E : Value → Shared → Prop} {s : Shared}
theorem next_pair_item {it d : Addr} {i n ep : Nat} {ok ov : Value} {od : Obj} {es : Array DictEntry} {en : DictEntry} {Q : Option Value → Shared → Prop} (hit : IsItemIter s.heap it d i n ep ok ov) (hod : s.heap.get? d = some od) (hdd : od.data = .dict es ep)
  (hsz : es.size = n) (hx : es[i]? = some en)
  (hQ : ∀ h', IsItemIterOut h' it d (i + 1) n ep en.key en.val s.heap.objs.size → h'.get? s.heap.objs.size = some { cls := .type "tuple", data := .seq #[en.key, en.val] } → h'.objs.size = s.heap.objs.size + 1 →
   (∀ b o, b ≠ it → s.heap.get? b = some o → h'.get? b = some o) → Q (some (.ref s.heap.objs.size)) { s with heap := h' }) : wpAny (model prog w) A (pyNext (.ref it)) Q E s := by
 obtain ⟨hp, g, dr, tk, os⟩ := s
 have hT : Shared.TypeIs ⟨hp, g, dr, tk, os⟩ (.ref it) "dict_itemiterator" := ⟨_, hit, rfl⟩
 unfold pyNext
 refine wpAny_bind (wpAny_attempt (wpAny_callSpecial?_slot (name := Str.ofString "__next__") hT F.slot_dict_itemiterator_next (wpAny_call_entry F.slot_dict_itemiterator_next hT F.entry_dict_itemiterator_next ?_ (F.args_dict_itemiterator_next_1 _))))
 refine wpAny_bind (wpAny_pure (wpAny_bind (wpAny_bind ?_)))
 first | refine wpAny_bind (wpAny_typeNameOfWhole_itemiter hT (wpAny_pure (wpAny_bind (wpAny_fieldsOf hit rfl ?_)))) | refine wpAny_bind (wpAny_typeNameOf_itemiter hT (wpAny_pure (wpAny_bind (wpAny_fieldsOf hit rfl ?_))))
 simp only [show Builtin.Dict_items.ownsTuple "dict_itemiterator" = true by decide, if_true]
 show wpAny _ _ (if (Value.ref d == Value.none) = true then _ else _) _ _ _
 rw [if_neg (show ¬ ((Value.ref d == Value.none) = true) from Bool.false_ne_true)]
 refine wpAny_bind (wpAny_pure (wpAny_bind (wpAny_dictEntries hod hdd ?_)))
 rw [if_neg (by rw [hsz]; simp)]
 refine wpAny_bind (wpAny_pure (wpAny_bind (wpAny_dictEpoch hod hdd ?_)))
 rw [if_neg (by simp)]
 refine wpAny_pure ?_
 obtain ⟨hlt', hen⟩ := Array.getElem?_eq_some_iff.mp hx
 simp only [show ¬ ((i : Int) < 0) from by omega, if_false, Int.toNat_natCast, Array.getElem?_eq_getElem hlt']
 rw [hen]
 refine wpAny_bind ?_
 first | refine wpAny_bind (wpAny_typeNameOfWhole_itemiter hT (wpAny_pure (wpAny_bind (wpAny_isOneOf_itemiter hT ?_)))) | refine wpAny_bind (wpAny_typeNameOf_itemiter hT (wpAny_pure (wpAny_bind (wpAny_isOneOf_itemiter hT ?_))))
 show wpAny _ _ (setField (.ref it) 3 (rawInt ((i : Int) + 1)) >>= _) _ _ ⟨hp, g, dr, tk, os⟩
 refine wpAny_bind (wpAny_setField_rec hit (by simp) fun h1 e1 s1 => ?_)
 replace s1 : Heap.SameBut it hp h1 := s1
 replace e1 : IsItemIter h1 it d (i + 1) n ep ok ov := by
  have e : ((i + 1 : Nat) : Int) = (i : Int) + 1 := by omega
  unfold IsItemIter
  rw [e]
  simpa [rawInt] using e1
 have T1 : Shared.TypeIs ⟨h1, g, dr, tk, os⟩ (.ref it) "dict_itemiterator" := ⟨_, e1, rfl⟩
 refine wpAny_bind (wpAny_holding (wpAny_bind (wpAny_isOneOf_itemiter T1 (wpAny_bind (wpAny_isOneOf_itemiter T1 ?_)))))
 show wpAny _ _ (Builtin.Dict_items.pairFromOwner (.ref it) 6 en.key en.val) _ _ ⟨h1, g, dr, tk, os⟩
 unfold Builtin.Dict_items.pairFromOwner
 refine wpAny_bind (wpAny_newTuple ?_)
 have e2 : IsItemIter (h1.push { cls := .type "tuple", data := .seq #[en.key, en.val] }) it d (i + 1) n ep ok ov := Heap.get?_push_of_some _ e1
 generalize hh2 : h1.push { cls := .type "tuple", data := .seq #[en.key, en.val] } = h2 at e2
 have z1 : h1.objs.size = hp.objs.size := s1.1
 have hil : it < hp.objs.size := Heap.lt_size hit
 have t2 : h2.get? hp.objs.size = some { cls := .type "tuple", data := .seq #[en.key, en.val] } := by
  rw [← hh2, ← z1]
  exact Heap.get?_push_size _ rfl
 have z2 : h2.objs.size = hp.objs.size + 1 := by rw [← hh2, Heap.size_push, z1]
 have k2 : ∀ b o, b ≠ it → hp.get? b = some o → h2.get? b = some o := fun b o hb e => by
  rw [← hh2]
  exact Heap.get?_push_of_some _ (s1.extBut b o hb e)
 show wpAny _ _ (Builtin.Dict_items.ownedTupleIsFree (.ref it) >>= _) _ _ ⟨h2, g, dr, tk, os⟩
 rw [z1]
 clear hh2 e1 s1 T1 z1 h1
 refine wpAny_bind ?_
 unfold Builtin.Dict_items.ownedTupleIsFree
 refine wpAny_bind (wpAny_field e2 rfl (x := .none) rfl (wpAny_pure ?_))
 simp only [if_true]
 refine wpAny_bind (wpAny_field e2 rfl (x := ok) rfl (wpAny_bind (wpAny_field e2 rfl (x := ov) rfl ?_)))
 refine wpAny_bind (wpAny_setField_rec e2 (by simp) fun h3 e3 s3 => ?_)
 replace s3 : Heap.SameBut it h2 h3 := s3
 replace e3 : IsItemIter h3 it d (i + 1) n ep en.key ov := e3
 refine wpAny_bind (wpAny_setField_rec e3 (by simp) fun h4 e4 s4 => ?_)
 replace s4 : Heap.SameBut it h3 h4 := s4
 replace e4 : IsItemIter h4 it d (i + 1) n ep en.key en.val := e4
 refine wpAny_bind (wpAny_setField_rec e4 (by simp) fun h5 e5 s5 => ?_)
 replace s5 : Heap.SameBut it h4 h5 := s5
 replace e5 : IsItemIterOut h5 it d (i + 1) n ep en.key en.val hp.objs.size := e5
 refine wpAny_bind (wpAny_setField_rec e5 (by simp) fun h6 e6 s6 => ?_)
 replace s6 : Heap.SameBut it h5 h6 := s6
 replace e6 : IsItemIterOut h6 it d (i + 1) n ep en.key en.val hp.objs.size := e6
 have kk : ∀ b o, b ≠ it → h2.get? b = some o → h6.get? b = some o := fun b o hb e => s6.extBut b o hb (s5.extBut b o hb (s4.extBut b o hb (s3.extBut b o hb e)))
 refine wpAny_bind (wpAny_letGo (wpAny_pure (wpAny_pure ⟨_, rfl, wpAny_pure (hQ h6 e6 (kk _ _ (Nat.ne_of_gt hil) t2) ?_ fun b o hb e => kk b o hb (k2 b o hb e))⟩)))
 show h6.objs.size = hp.objs.size + 1
 rw [s6.1, s5.1, s4.1, s3.1, z2]
theorem next_pair_end {it d : Addr} {i n ep : Nat} {ok ov : Value} {od : Obj} {es : Array DictEntry} {Q : Option Value → Shared → Prop} (hh : A.handled = none) (hit : IsItemIter s.heap it d i n ep ok ov) (hod : s.heap.get? d = some od) (hdd : od.data = .dict es ep)
  (hsz : es.size = n) (hge : n ≤ i) (hQ : ∀ h', Heap.ExtBut it s.heap h' → Q none { s with heap := h' }) : wpAny (model prog w) A (pyNext (.ref it)) Q E s := by
 have hT : s.TypeIs (.ref it) "dict_itemiterator" := ⟨_, hit, rfl⟩
 unfold pyNext
 refine wpAny_bind (wpAny_attempt (wpAny_callSpecial?_slot (name := Str.ofString "__next__") hT F.slot_dict_itemiterator_next (wpAny_call_entry F.slot_dict_itemiterator_next hT F.entry_dict_itemiterator_next ?_ (F.args_dict_itemiterator_next_1 _))))
 refine wpAny_bind (wpAny_pure (wpAny_bind (wpAny_bind ?_)))
 first | refine wpAny_bind (wpAny_typeNameOfWhole_itemiter hT (wpAny_pure (wpAny_bind (wpAny_fieldsOf hit rfl ?_)))) | refine wpAny_bind (wpAny_typeNameOf_itemiter hT (wpAny_pure (wpAny_bind (wpAny_fieldsOf hit rfl ?_))))
 simp only [show Builtin.Dict_items.ownsTuple "dict_itemiterator" = true by decide, if_true]
 show wpAny _ _ (if (Value.ref d == Value.none) = true then _ else _) _ _ s
 rw [if_neg (show ¬ ((Value.ref d == Value.none) = true) from Bool.false_ne_true)]
 refine wpAny_bind (wpAny_pure (wpAny_bind (wpAny_dictEntries hod hdd ?_)))
 rw [if_neg (by rw [hsz]; simp)]
 refine wpAny_bind (wpAny_pure (wpAny_bind (wpAny_dictEpoch hod hdd ?_)))
 rw [if_neg (by simp)]
 refine wpAny_pure ?_
 have hge' : es.size ≤ i := by rw [hsz]; exact hge
 simp only [show ¬ ((i : Int) < 0) from by omega, if_false, Int.toNat_natCast, Array.getElem?_eq_none hge']
 refine wpAny_bind ?_
 first | refine wpAny_bind (wpAny_typeNameOfWhole_itemiter hT (wpAny_pure ?_)) | refine wpAny_bind (wpAny_typeNameOf_itemiter hT (wpAny_pure ?_))
 show wpAny _ _ (setField (.ref it) 2 .none >>= _) _ _ s
 refine wpAny_bind (wpAny_setField hit rfl (by simp) ?_)
 show wpAny _ _ (newExc (.type "StopIteration") [] >>= _) _ _ _
 refine wpAny_bind ?_
 simp only [newExc, newTuple]
 refine wpAny_bind (wpAny_newObj_type ?_ (by size_fits))
 refine wpAny_bind (m := firstArgMember _ _) (wpAny_of_eq (a := Value.none) (by first | rfl | (simp only [firstArgMember]; rfl)) ?_)
 refine wpAny_newObj_type ?_ (by size_fits)
 simp only [raiseNew]
 refine wpAny_bind (wpAny_handled ?_)
 rw [show A.in1.handled = none from hh]
 refine wpAny_bind (wpAny_pure (wpAny_throw ?_))
 refine wpAny_bind (wpAny_isInstance (T := "StopIteration") (b := true) ⟨_, Heap.get?_push_size _ rfl, rfl⟩ isSubtype_stop ?_)
 exact wpAny_pure (hQ _ (((Heap.SameBut.update ..).extBut.push _).push _))
end
theorem Inv.frzT2 {X : Cx} {pins : List (Addr × Obj)} {σ : St} {H : Hp} {s : Shared} {d : Addr} {o : Obj} {kvs : List (List Key × V)} (I : Inv X pins σ H s) (h : H d = some (.frz o (.dT kvs))) :
  (d == sysModules) = false ∧ s.heap.get? d = some o ∧ o.ExactDict ∧ ∃ (es : Array DictEntry) (ep : Nat), o.data = .dict es ep ∧ es.size = kvs.length ∧
   ∀ (i : Nat) (k : List Key) (v : V), kvs[i]? = some (k, v) → ∃ (en : DictEntry) (q : Addr), es[i]? = some en ∧ en.key = .ref q ∧ H q = some (.tup (k.map kV)) ∧ RelV v en.val := by
 obtain ⟨hd, z, hs, xs, pr, o', es, ep, ho, hx, hdt, he, _⟩ := I.hok d _ h
 rw [hd] at ho
 cases ho
 refine ⟨hs, hd, hx, es, ep, hdt, ?_, fun i k v e => ?_⟩
 ·have l1 : es.size = xs.length := size_of_entries he
  have l2 : kvs.length = xs.length := Paired.length pr
  omega
 ·obtain ⟨b, hb, e1, e2, e3⟩ := paired_get pr e
  have q := entry_at he i
  rw [hb] at q
  exact ⟨_, b.2.1, q, rfl, e2, e3⟩
def ItdT (d : Addr) (o : Obj) (kvs : List (List Key × V)) : It :=
 ⟨fun i H => H d = some (.frz o (.dT kvs)) ∧ i < kvs.length, fun i H x H' => H' = H ∧ ∃ k, kvs[i]? = some (k, x), fun i H => H d = some (.frz o (.dT kvs)) ∧ kvs.length ≤ i⟩
def ItiT (d : Addr) (o : Obj) (kvs : List (List Key × V)) : It :=
 ⟨fun i H => H d = some (.frz o (.dT kvs)) ∧ i < kvs.length, fun i H x H' => ∃ (T q : Addr) (k : List Key) (v : V), kvs[i]? = some (k, v) ∧ x = .ref T ∧ H T = none ∧ H q = some (.tup (k.map kV)) ∧ H' = upd H T (.tup [.ref q, v]),
  fun i H => H d = some (.frz o (.dT kvs)) ∧ kvs.length ≤ i⟩
section
variable {P : Program} {w : World} {K : PySem.W.Frag} {tg : Expr} {d : Addr} {o : Obj} {es : Array DictEntry} {ep : Nat}
theorem turn_valsT {kvs : List (List Key × V)} (it : Addr) (hod : o.data = .dict es ep) : Turn P w K tg (ItdT d o kvs) [it] it (fun i h => h.IsValIter it d i kvs.length ep) where
 mem := by simp
 obj := fun i h st b hb => by
  have e : b = it := by simpa using hb
  subst e
  obtain ⟨oi, e, c, dd⟩ := st
  exact ⟨oi, e, fun v z => by rw [dd] at z; cases z⟩
 keep := fun i h h' st k => st.at fun oi e => k it (by simp) oi e
 item := by
  intro X hP hw hK hc i pins s σ H E I hf st hg
  subst hP hw hK
  obtain ⟨hd, hi⟩ := hg
  obtain ⟨f0, f1, f2, f3, f4, f5⟩ := hf it (by simp)
  obtain ⟨hs, hgd, hx, es', ep', hdt, hsz, ent⟩ := I.frzT2 hd
  obtain ⟨rfl, rfl⟩ := dict_ep hod hdt
  obtain ⟨⟨k, v⟩, hkv⟩ : ∃ p, kvs[i]? = some p := ⟨kvs[i], List.getElem?_eq_getElem hi⟩
  obtain ⟨en, q, hen, hkey, hq, hv⟩ := ent i k v hkv
  refine next_val_item st hgd hdt hsz hen fun h' st' sb => ?_
  have I1 : Inv X pins σ H { s with heap := h' } := I.turned (t' := s.toks) (fun b ob hb e => (sb.2 b hb).trans e) f0 f1 f3 f4 f5
  obtain ⟨oi, e, c, dd⟩ := id st'
  exact ⟨en.val, rfl, go_of (s := { s with heap := h' }) e c dd (by decide) ⟨v, H, I1, hv, ⟨rfl, k, hkv⟩, st', fun b hb => (hf b hb).1⟩⟩
 done := by
  intro X hP hw hK hc i pins s σ H E I hf st hg
  subst hP hw hK
  obtain ⟨hd, hi⟩ := hg
  obtain ⟨f0, f1, f2, f3, f4, f5⟩ := hf it (by simp)
  obtain ⟨hs, hgd, hx, es', ep', hdt, hsz, ent⟩ := I.frzT2 hd
  obtain ⟨rfl, rfl⟩ := dict_ep hod hdt
  exact next_val_end (I.ok.hd hc) st hgd hdt hsz hi fun h' eb => ⟨rfl, I.turned (t' := s.toks) (fun b ob hb e => eb b ob hb e) f0 f1 f3 f4 f5⟩
 self := fun A i s Q E st h => wpAny_pyIter_valiter st h
theorem turn_itemsT {kvs : List (List Key × V)} {elts : List Expr} {kk : Nat} {tpos : Pos} (it : Addr) (hod : o.data = .dict es ep) :
  Turn P w K (.Tuple elts kk tpos) (ItiT d o kvs) [it] it (fun i h => ∃ ok ov, IsItemIter h it d i kvs.length ep ok ov) where
 mem := by simp
 obj := fun i h st b hb => by
  have e : b = it := by simpa using hb
  subst e
  obtain ⟨ok, ov, e⟩ := st
  exact ⟨_, e, fun v z => nomatch z⟩
 keep := fun i h h' st k => let ⟨ok, ov, e⟩ := st; ⟨ok, ov, k it (by simp) _ e⟩
 item := by
  intro X hP hw hK hc i pins s σ H E I hf st hg
  subst hP hw hK
  obtain ⟨hd, hi⟩ := hg
  obtain ⟨hs, hgd, hx, es', ep', hdt, hsz, ent⟩ := I.frzT2 hd
  obtain ⟨rfl, rfl⟩ := dict_ep hod hdt
  obtain ⟨⟨k, v⟩, hkv⟩ : ∃ p, kvs[i]? = some p := ⟨kvs[i], List.getElem?_eq_getElem hi⟩
  obtain ⟨en, q, hen, hkey, hq, hv⟩ := ent i k v hkv
  obtain ⟨ok, ov, he⟩ := st
  have hlt : it < s.heap.objs.size := Heap.lt_size he
  refine next_pair_item he hgd hdt hsz hen fun h' ho hT hz hk => ?_
  refine ⟨_, rfl, wpAny_letOwnedTupleGo_items (s := { s with heap := h' }) ho fun h'' he' sb => ?_⟩
  have hT2 : h''.get? s.heap.objs.size = some { cls := .type "tuple", data := .seq #[en.key, en.val] } := (sb.2 _ (Nat.ne_of_gt hlt)).trans hT
  have new : ObjOk X.prog X.w (upd H s.heap.objs.size (.tup [.ref q, v])) h'' s.heap.objs.size (.tup [.ref q, v]) :=
   ⟨by show 2 ≤ sizeLine; decide, [en.key, en.val], .cons hkey (.cons hv .nil), ⟨_, hT2, rfl, _, rfl⟩⟩
  have I1 : Inv X pins σ (upd H s.heap.objs.size (.tup [.ref q, v])) { s with heap := h'' } :=
   I.turnedNew (t' := s.toks) (ch := [it]) (fun b ob hb e => (sb.2 b (by simpa using hb)).trans (hk b ob (by simpa using hb) e)) hf (Nat.le_refl _) new
  refine ⟨.ref s.heap.objs.size, _, I1, rfl, ⟨_, q, k, v, hkv, rfl, I.hok.fresh (Nat.le_refl _), hq, rfl⟩, ⟨_, _, he'⟩, fun b hb => ?_⟩
  have e : b = it := by simpa using hb
  rw [e, upd_ne (Nat.ne_of_lt hlt)]
  exact (hf it (by simp)).1
 done := by
  intro X hP hw hK hc i pins s σ H E I hf st hg
  subst hP hw hK
  obtain ⟨hd, hi⟩ := hg
  obtain ⟨f0, f1, f2, f3, f4, f5⟩ := hf it (by simp)
  obtain ⟨hs, hgd, hx, es', ep', hdt, hsz, ent⟩ := I.frzT2 hd
  obtain ⟨rfl, rfl⟩ := dict_ep hod hdt
  obtain ⟨ok, ov, he⟩ := st
  exact next_pair_end (I.ok.hd hc) he hgd hdt hsz hi fun h' eb => ⟨rfl, I.turned (t' := s.toks) (fun b ob hb e => eb b ob hb e) f0 f1 f3 f4 f5⟩
 self := fun A i s Q E st h => let ⟨_, _, e⟩ := st; PySem.W.kcp_self e h
end
def iValsT (td : TE) : TI := fun σ H R => td σ H fun x H1 => ∃ d o kvs, x = .ref d ∧ H1 d = some (.frz o (.dT kvs)) ∧ R (ItdT d o kvs) H1
def iItemsT (td : TE) : TI := fun σ H R => td σ H fun x H1 => ∃ d o kvs, x = .ref d ∧ H1 d = some (.frz o (.dT kvs)) ∧ R (ItiT d o kvs) H1
theorem exact_noDict {h : Heap} {d : Addr} {o : Obj} (ho : h.get? d = some o) (hc : o.ExactDict) : ∀ b, Value.ref d = .ref b → ∃ ob, h.get? b = some ob ∧ ob.dict = none := fun b e => by
 cases e
 exact ⟨o, ho, hc.2.1⟩
section
variable {X : Cx} {tg e : Expr} {td : TE} {apos cpos : Pos}
theorem pi_valuesT (he : PE X e td) (hbase : attributeBase e "values" X.env (eval e X.env) = eval e X.env := by rfl) (hline : (apos.endLine == cpos.line) = true := by rfl) : PI X tg (.Call (.Attribute e "values" apos) [] [] cpos) (iValsT td) := by
 intro pins s σ H R I h
 refine wpAny_Call_method (T := "dict") (id := "dict.values") hbase rfl hline F.plainAttrs_dict F.slot_dict_values F.type_dict_values (thn (he pins s σ H _ I h) fun u s1 ⟨x, H1, I1, rx, d, o, kvs, ex, hd, q⟩ => ?_)
 subst ex
 obtain rfl : u = Value.ref d := rx
 obtain ⟨hs, hgd, hx, es, ep, hdt, hsz, ent⟩ := I1.frzT2 hd
 refine ⟨⟨o, hgd, hx.1⟩, exact_noDict hgd hx, ?_⟩
 have I2 : Inv X pins σ H1 { s1 with heap := s1.heap.push { cls := .type "dict_values", data := .fields #[.ref d] } } := I1.kept (t' := s1.toks) fun b ob q => Heap.get?_push_of_some _ q
 refine Calls.callWith_builtin rfl (PySem.evalArgs_none (xv_view hs hgd hx ?_))
 exact xv_iter ⟨_, Heap.get?_push_size _ rfl, rfl, rfl⟩ (Heap.get?_push_of_some _ hgd) hdt hsz (pi_one (tk := s1.toks) I2 _ (turn_valsT _ hdt) ⟨_, Heap.get?_push_size _ rfl, rfl, rfl⟩ q)
theorem pi_itemsT {elts : List Expr} {kk : Nat} {tpos : Pos} (he : PE X e td) (hbase : attributeBase e "items" X.env (eval e X.env) = eval e X.env := by rfl) (hline : (apos.endLine == cpos.line) = true := by rfl) :
  PI X (.Tuple elts kk tpos) (.Call (.Attribute e "items" apos) [] [] cpos) (iItemsT td) := by
 intro pins s σ H R I h
 refine wpAny_Call_method (T := "dict") (id := "dict.items") hbase rfl hline F.plainAttrs_dict F.slot_dict_items F.type_dict_items (thn (he pins s σ H _ I h) fun u s1 ⟨x, H1, I1, rx, d, o, kvs, ex, hd, q⟩ => ?_)
 subst ex
 obtain rfl : u = Value.ref d := rx
 obtain ⟨hs, hgd, hx, es, ep, hdt, hsz, ent⟩ := I1.frzT2 hd
 refine ⟨⟨o, hgd, hx.1⟩, exact_noDict hgd hx, ?_⟩
 have I2 : Inv X pins σ H1 { s1 with heap := s1.heap.push { cls := .type "dict_items", data := .fields #[.ref d] } } := I1.kept (t' := s1.toks) fun b ob q => Heap.get?_push_of_some _ q
 refine Calls.callWith_builtin rfl (PySem.evalArgs_none (xi_view hs hgd hx ?_))
 exact xi_iter ⟨_, Heap.get?_push_size _ rfl, rfl, rfl⟩ (Heap.get?_push_of_some _ hgd) hdt hsz (pi_one (tk := s1.toks) I2 _ (turn_itemsT _ hdt) ⟨.none, .none, Heap.get?_push_size _ rfl⟩ q)
end
end L2
end
section
namespace L2
open PySem PySem.Spec PyProof.Rows
section
variable {prog : Program} {w : World} {A : Around} {E : Value → Shared → Prop} {s : Shared}
theorem xd_meets_len {d : Addr} {o : Obj} {es : Array DictEntry} {ep : Nat} (hd : (d == sysModules) = false) :
  MeetsIn prog w (Builtin.«dict.__len__» ⟨[.ref d], []⟩) (fun _ R s => s.heap.get? d = some o ∧ o.data = .dict es ep ∧ R (.ok (.ret (.int es.size s.toks))) { s with toks := s.toks + 1 }) :=
 .of_wp fun A R s ⟨ho, hdat, h⟩ => by
  show wpAny _ _ (dictSize d >>= _) _ _ s
  unfold dictSize
  refine wpAny_bind (wpAny_bind (wpAny_dictEntries ho hdat (wpAny_pure ?_)))
  refine wpAny_bind (m := Builtin.Dict.pendingCount d) (wpAny_pendingCount_other hd (wpAny_ret_mkInt ?_))
  exact h
theorem xd_len {d : Addr} {o : Obj} {es : Array DictEntry} {ep n : Nat} {Q : Value → Shared → Prop} (hd : (d == sysModules) = false) (ho : s.heap.get? d = some o) (hc : o.ExactDict) (hdat : o.data = .dict es ep) (hsz : es.size = n) (hfit : (n : Int) < 2 ^ 63)
  (h : Q (.int n (s.toks + 1)) { s with toks := s.toks + 1 + 1 }) : wpAny (model prog w) A (call (.builtin "len") [.ref d]) Q E s := by
 have hT : s.TypeIs (.ref d) "dict" := ⟨o, ho, hc.1⟩
 subst hsz
 refine Calls.call_function_entry kind_len plain_len entry_len (args_len1 _) ?_
 unfold Builtin.«len»
 refine wpAny_bind (m := oneArg "len" _) (wpAny_pure ?_)
 refine wpAny_bind (m := callSpecial? (.ref d) (Str.ofString "__len__")) (wpAny_callSpecial?_slot (name := Str.ofString "__len__") hT F.slot_dict_len (call_meetsIn F.slot_dict_len hT F.entry_dict_len (F.args_dict_len_1 _) (xd_meets_len hd) ⟨ho, hdat, ?_⟩))
 refine (show wpAny _ _ _ _ _ { s with toks := s.toks + 1 } from wpAny_bind (wpAny_holding (wpAny_pure (wpAny_bind (wpAny_letGo ?_)))))
 show wpAny _ _ (if ((es.size : Nat) : Int) < 0 then _ else _) _ _ _
 rw [if_neg (by omega)]
 show wpAny _ _ (if ((es.size : Nat) : Int) ≥ 2 ^ 63 then _ else _) _ _ _
 rw [if_neg (by omega)]
 exact wpAny_bind (wpAny_mkInt (wpAny_pure ⟨_, rfl, h⟩))
end
theorem Inv.dT {X : Cx} {pins : List (Addr × Obj)} {σ : St} {H : Hp} {s : Shared} {d : Addr} {kvs : List (List Key × V)} (I : Inv X pins σ H s) (h : H d = some (.dT kvs)) :
  kvs.length ≤ sizeLine ∧ (d == sysModules) = false ∧ ∃ (o : Obj) (es : Array DictEntry) (ep : Nat), s.heap.get? d = some o ∧ o.ExactDict ∧ o.data = .dict es ep ∧ es.size = kvs.length ∧
   ∀ (i : Nat) (k : List Key) (v : V), kvs[i]? = some (k, v) → ∃ en : DictEntry, es[i]? = some en ∧ RelV v en.val := by
 obtain ⟨z, hs, xs, pr, o, es, ep, ho, hx, hdt, he, _⟩ := I.hok d _ h
 refine ⟨z, hs, o, es, ep, ho, hx, hdt, ?_, fun i k v e => ?_⟩
 ·have l1 : es.size = xs.length := size_of_entries he
  have l2 : kvs.length = xs.length := Paired.length pr
  omega
 ·obtain ⟨b, hb, e1, e2, e3⟩ := paired_get pr e
  have q := entry_at he i
  rw [hb] at q
  exact ⟨_, q, e3⟩
section
variable {X : Cx}
theorem call_lenT : CallR X (.builtin "len") (fun xs H Q => ∃ a kvs, xs = [V.ref a] ∧ H a = some (.dT kvs) ∧ Q (.int kvs.length) H) := by
 intro pins s σ H xs us Q I r h
 obtain ⟨a, kvs, rfl, ha, q⟩ := h
 obtain ⟨u, rfl, ru⟩ := vals1 r
 cases ru
 obtain ⟨z, hs, o, es, ep, ho, hx, hdt, hsz, _⟩ := I.dT ha
 exact xd_len hs ho hx hdt hsz (by rw [sizeLine_eq] at z; omega) ⟨.int kvs.length, H, I.tok _, ⟨_, rfl⟩, q⟩
theorem xv_src {prog : Program} {w : World} {r d : Addr} {o : Obj} {es : Array DictEntry} {ep : Nat} (hdt : o.data = .dict es ep) :
  PySem.W.KdlSrc prog w "dict_values" r d es.size (fun i v => ∃ en, es[i]? = some en ∧ v = en.val) (fun h => h.IsValuesView r d ∧ h.get? d = some o) where
 type := fun _ hm => hm.1.typeIs
 there := fun _ hm => ⟨let ⟨_, ho, _⟩ := hm.1; Heap.lt_size ho, Heap.lt_size hm.2⟩
 keep := fun _ _ hm hk => ⟨let ⟨o, ho, x⟩ := hm.1; ⟨o, hk r (.inl rfl) o ho, x⟩, hk d (.inr rfl) _ hm.2⟩
 notList := by decide
 notTuple := by decide
 hint := fun _ _ _ _ hm hq => PySem.W.kdl_hint_values hm.1.typeIs hq
 iter := fun A s hh hm => by
  have hne : d ≠ s.heap.objs.size := Nat.ne_of_lt (Heap.lt_size hm.2)
  refine ⟨_, fun i h => h.IsValIter s.heap.objs.size d i es.size ep ∧ h.get? d = some o, (fun _ _ hq => xv_iter hm.1 hm.2 hdt rfl hq), ?_, ⟨⟨_, Heap.get?_push_size _ rfl, rfl, rfl⟩, Heap.get?_push_of_some _ hm.2⟩⟩
  exact {
   sub := fun b hb => by simp at hb; simp [hb]
   frame := fun _ _ _ st hk => ⟨st.1.at fun o e => hk _ (by simp) o e, hk d (by simp) _ st.2⟩
   item := fun i s2 Q E hi st hQ => by
    refine next_val_item st.1 st.2 hdt rfl (Array.getElem?_eq_getElem hi) fun h' hit' hs' => ?_
    exact hQ _ h' s2.toks ⟨_, Array.getElem?_eq_getElem hi, rfl⟩ ⟨hit', hs'.extBut _ _ hne st.2⟩ fun b o hb e => hs'.extBut b o (fun h => hb (by simp [h])) e
   done := fun s2 Q E st hQ => next_val_end hh st.1 st.2 hdt rfl (Nat.le_refl _) fun h' he' => hQ h' s2.toks fun b o hb e => he' b o (fun h => hb (by simp [h])) e
   self := fun _ _ _ _ st hQ => wpAny_pyIter_valiter st.1 hQ }
theorem vals_of_get : ∀ {xs : List V} {us : List Value}, xs.length = us.length → (∀ (j : Nat) (v : V), xs[j]? = some v → ∃ u, us[j]? = some u ∧ RelV v u) → Vals xs us
 | [], [], _, _ => .nil
 | x :: xs, u :: us, hl, h => by
  obtain ⟨u', e, r⟩ := h 0 x rfl
  cases e
  exact .cons r (vals_of_get (Nat.succ.inj hl) fun j v e => h (j + 1) v e)
 | [], _ :: _, hl, _ => by cases hl
 | _ :: _, [], hl, _ => by cases hl
def tValsT (td : TE) : TE := fun σ H Q => td σ H fun x H1 => ∃ d kvs, x = .ref d ∧ H1 d = some (.dT kvs) ∧ ∀ r, H1 r = none → Q (.ref r) (upd H1 r (.ext fun h => h.IsValuesView r d))
theorem pe_valuesT {e : Expr} {td : TE} {apos cpos : Pos} (he : PE X e td) (hbase : attributeBase e "values" X.env (eval e X.env) = eval e X.env := by rfl) (hline : (apos.endLine == cpos.line) = true := by rfl) :
  PE X (.Call (.Attribute e "values" apos) [] [] cpos) (tValsT td) := by
 intro pins s σ H Q I h
 refine wpAny_Call_method (T := "dict") (id := "dict.values") hbase rfl hline F.plainAttrs_dict F.slot_dict_values F.type_dict_values (thn (he pins s σ H _ I h) fun u s1 ⟨x, H1, I1, rx, d, kvs, ex, hd, q⟩ => ?_)
 subst ex
 obtain rfl : u = Value.ref d := rx
 obtain ⟨z, hsm, o, es, ep, ho, hx, hdt, hsz, ent⟩ := I1.dT hd
 refine ⟨⟨o, ho, hx.1⟩, exact_noDict ho hx, ?_⟩
 refine Calls.callWith_builtin rfl (PySem.evalArgs_none (xv_view hsm ho hx ?_))
 refine ⟨.ref s1.heap.objs.size, _, I1.laid (a := s1.heap.objs.size) (o := .ext fun h => h.IsValuesView s1.heap.objs.size d) (t' := s1.toks) (fun b ob q => Heap.get?_push_of_some _ q) (Nat.le_refl _) ?_, rfl, q _ (I1.hok.fresh (Nat.le_refl _))⟩
 refine ⟨⟨_, Heap.get?_push_size _ rfl, rfl, rfl⟩, ⟨_, Heap.get?_push_size _ rfl⟩, fun h1 h2 ⟨ob, e1, e2⟩ k => ⟨ob, k ob e1, e2⟩⟩
def rListVals : List V → Hp → VK → Prop := fun xs H Q => ∃ (r d : Addr) (kvs : List (List Key × V)), xs = [.ref r] ∧ H r = some (.ext fun h => h.IsValuesView r d) ∧ H d = some (.dT kvs) ∧ ∀ l, H l = none → Q (.ref l) (upd H l (.lst (kvs.map (·.2))))
theorem call_listVals (hc : X.calm = true) : CallR X (.type "list") rListVals := by
 intro pins s σ H xs us Q I rv h
 obtain ⟨r, d, kvs, rfl, hr, hd, q⟩ := h
 obtain ⟨u, rfl, ru⟩ := vals1 rv
 cases ru
 obtain ⟨z, hsm, o, es, ep, ho, hx, hdt, hsz, ent⟩ := I.dT hd
 obtain ⟨hview, _, _⟩ := I.hok r _ hr
 refine PySem.W.kdl_call (xv_src hdt) (I.ok.hd hc) ⟨hview, ho⟩ (by rw [hsz]; exact z) fun h' tk acc c hk hD hacc => ?_
 have vv : Vals (kvs.map (·.2)) acc.toList := by
  refine vals_of_get ?_ fun j v e => ?_
  ·have l1 : acc.size = es.size := hacc.1
   simp only [List.length_map, Array.length_toList]
   omega
  ·rw [List.getElem?_map] at e
   cases e1 : kvs[j]? with
   | none => rw [e1] at e; cases e
   | some kv =>
    rw [e1] at e
    obtain ⟨k, v'⟩ := kv
    obtain rfl : v' = v := Option.some.inj e
    obtain ⟨en, hen, rv⟩ := ent j k v' e1
    have hj : j < acc.size := by
     have l1 : acc.size = es.size := hacc.1
     have := (Array.getElem?_eq_some_iff.mp hen).1
     omega
    obtain ⟨en', hen', ev⟩ := hacc.2 j acc[j] (Array.getElem?_eq_getElem hj)
    rw [hen] at hen'
    cases hen'
    exact ⟨acc[j], by rw [Array.getElem?_toList]; exact Array.getElem?_eq_getElem hj, by rw [ev]; exact rv⟩
 exact ⟨.ref s.heap.objs.size, _, I.laid (a := s.heap.objs.size) (o := .lst (kvs.map (·.2))) (t' := tk) hk (Nat.le_refl _) ⟨by rw [List.length_map]; exact z, acc.toList, c, vv, hD⟩, rfl, q _ (I.hok.fresh (Nat.le_refl _))⟩
end
theorem bt_len : bootBuiltins "len" = some (.builtin "len") := by decide +kernel
theorem bt_max : bootBuiltins "max" = some (.builtin "max") := by decide +kernel
theorem bt_min : bootBuiltins "min" = some (.builtin "min") := by decide +kernel
theorem bt_all : bootBuiltins "all" = some (.builtin "all") := by decide +kernel
theorem bt_any : bootBuiltins "any" = some (.builtin "any") := by decide +kernel
theorem bt_sum : bootBuiltins "sum" = some (.builtin "sum") := by decide +kernel
theorem bt_sorted : bootBuiltins "sorted" = some (.builtin "sorted") := by decide +kernel
theorem bt_list : bootBuiltins "list" = some (.type "list") := by decide +kernel
theorem bt_dict : bootBuiltins "dict" = some (.type "dict") := by decide +kernel
theorem bt_tuple : bootBuiltins "tuple" = some (.type "tuple") := by decide +kernel
theorem tupleKey_at {P : Program} {w : World} {h h' : Heap} {k : List Key} {a : Addr} (x : (tupleKind (mixKind P w)).is h k a) (hk : ∀ o, h.get? a = some o → h'.get? a = some o) : (tupleKind (mixKind P w)).is h' k a := by
 obtain ⟨o, its, n, h1, h2⟩ := x
 exact ⟨o, its, n, hk o h1, h2⟩
theorem tupleKey_lt {P : Program} {w : World} {h : Heap} {k : List Key} {a : Addr} (x : (tupleKind (mixKind P w)).is h k a) : a < h.objs.size := by
 obtain ⟨o, its, n, h1, h2⟩ := x
 exact Heap.lt_size h1
theorem dictH_at {P : Program} {w : World} {h h' : Heap} {d : Addr} {xs : List (List Key × Addr × Value)} (x : h.DictOfH (tupleKind (mixKind P w)) d xs) (hd : ∀ o, h.get? d = some o → h'.get? d = some o)
  (hk : ∀ q ∈ xs, ∀ o, h.get? q.2.1 = some o → h'.get? q.2.1 = some o) : h'.DictOfH (tupleKind (mixKind P w)) d xs := by
 obtain ⟨o, es, ep, h1, h2, h3, h4, h5, h6⟩ := x
 exact ⟨o, es, ep, hd o h1, h2, h3, h4, fun y hy => tupleKey_at (h5 y hy) (hk y hy), h6⟩
theorem atKey_none_of {xs : List (List Key × Addr × Value)} {k : List Key} (h : k ∉ xs.map (·.1)) : atKey xs k = none := by
 unfold atKey
 rw [List.find?_eq_none.mpr]
 ·rfl
 ·intro x hx q
  exact h (List.mem_map.mpr ⟨x, hx, of_decide_eq_true q⟩)
section
variable {prog : Program} {w : World} {A : Around} {E : Value → Shared → Prop}
theorem upd_loopT {R : Result → Shared → Prop} {S I l : Addr} {items : Array Value} {res : Value} (hh : A.handled = none) (hu : A.units + 1 < cLine) (hlI : l ≠ I) (hSI : S ≠ I) (hSl : S ≠ l) :
  ∀ (rest : List (List Key × Addr × Value)) (i : Nat) (acc : List (List Key × Addr × Value)) (ix : Int) (t : Tok) (s : Shared), items.size = i + rest.length → acc.length + rest.length ≤ sizeLine → ((acc ++ rest).map (·.1)).Nodup →
   (∀ q ∈ acc, q.2.1 ≠ S ∧ q.2.1 ≠ I) → (∀ q ∈ rest, q.2.1 ≠ S ∧ q.2.1 ≠ I ∧ (tupleKind (mixKind prog w)).is s.heap q.1 q.2.1) →
   (∀ (j : Nat) (q : List Key × Addr × Value), rest[j]? = some q → ∃ b : Addr, items[i + j]? = some (.ref b) ∧ b ≠ S ∧ b ≠ I ∧ IsTup s.heap b #[.ref q.2.1, q.2.2]) →
   s.heap.IsListIter I l i → s.heap.IsList l items → s.heap.DictOfH (tupleKind (mixKind prog w)) S acc →
   (∀ h' tk, h'.DictOfH (tupleKind (mixKind prog w)) S (acc ++ rest) → (∀ b o, b ≠ S → b ≠ I → s.heap.get? b = some o → h'.get? b = some o) → R (.ok (.ret res)) { s with heap := h', toks := tk }) →
   codeAny (model prog w) A (.builtin "dict.update.loop" ⟨[.ref S, .ref I, .int ix t, res], []⟩) R s
 | [], i, acc, ix, t, s, hsz, hln, hnd, hacc, hrk, ht, hit, hl, hm, hR => by
  refine codeAny_builtin ud_entry ?_
  rw [Around.under_plainId ud_plain _]
  show wpAny _ A.in1 (pyNext (.ref I) >>= _) _ _ s
  refine wpAny_bind (wpAny_pyNext_list_end (A := A.in1) hh hit hl (by first | exact Array.getElem?_eq_none (Nat.le_of_eq hsz) | (simp at hsz; simp; omega)) fun h' he => ?_)
  show wpAny _ A.in1 (Builtin.Dict.addKeywords S [] >>= _) _ _ _
  refine wpAny_bind (wpAny_pure (wpAny_pure ?_))
  rw [List.append_nil] at hR
  exact hR h' s.toks (dictH_at hm (fun o e => he S o hSI e) fun q hq o e => he _ o (hacc q hq).2 e) fun b o _ hb e => he b o hb e
 | q :: rest, i, acc, ix, t, s, hsz, hln, hnd, hacc, hrk, ht, hit, hl, hm, hR => by
  obtain ⟨b, hb, hbS, hbI, htup⟩ := ht 0 q rfl
  obtain ⟨hqS, hqI, hqk⟩ := hrk q List.mem_cons_self
  rw [List.length_cons] at hsz hln
  refine codeAny_builtin ud_entry ?_
  rw [Around.under_plainId ud_plain _]
  show wpAny _ A.in1 (pyNext (.ref I) >>= _) _ _ s
  refine wpAny_bind (wpAny_pyNext_list_item (x := .ref b) hit hl (by simpa using hb) fun h1 hit1 hs1 => ?_)
  have ht1 : IsTup h1 b #[.ref q.2.1, q.2.2] := htup.extBut hs1.extBut hbI
  have hl1 : h1.IsList l items := hl.extBut hs1.extBut hlI
  have hm1 : h1.DictOfH (tupleKind (mixKind prog w)) S acc := dictH_at hm (fun o e => hs1.extBut S o hSI e) fun q' hq' o e => hs1.extBut _ o (hacc q' hq').2 e
  have hk1 : (tupleKind (mixKind prog w)).is h1 q.1 q.2.1 := tupleKey_at hqk fun o e => hs1.extBut _ o hqI e
  obtain ⟨o, ho, hc, n, hd⟩ := id ht1
  show wpAny _ A.in1 (holding [Value.ref b] _ >>= _) _ _ _
  refine wpAny_bind (wpAny_holding (wpAny_bind (wpAny_tryCatch ?_)))
  unfold Builtin.Dict.pairItems
  refine wpAny_bind (wpAny_typeOf (T := "tuple") ⟨o, ho, hc⟩ ?_)
  rw [if_pos (by first | decide | rfl | simp)]
  refine wpAny_bind (wpAny_seqItems ho hd (wpAny_pure ?_))
  show wpAny _ A.in1 (holding [Value.ref q.2.1, q.2.2] (dictSet S (.ref q.2.1) q.2.2)) _ _ _
  have hno : atKey acc q.1 = none := by
   refine atKey_none_of fun hm' => ?_
   rw [List.map_append, List.map_cons, List.nodup_append] at hnd
   exact hnd.2.2 _ hm' _ List.mem_cons_self rfl
  refine wpAny_holding (wpAny_dictSet_heap (hsz := by omega) (tupleKind_room_in1 hu) hk1 hm1 fun h2 hm2 hs2 => ?_)
  rw [storedH_new hno] at hm2
  refine wpAny_pure ⟨plainId_quiet ud_plain _, upd_loopT (items := items) hh hu hlI hSI hSl rest (i + 1) (acc ++ [(q.1, q.2.1, q.2.2)]) (ix + 1) 0 _ (show items.size = i + 1 + rest.length by omega) ?_ ?_ ?_ ?_ (fun j q' e => ?_) ?_ ?_ hm2 fun h' tk hd' k => ?_⟩
  ·rw [List.length_append]
   show acc.length + 1 + rest.length ≤ sizeLine
   omega
  ·rw [List.append_assoc]
   exact hnd
  ·intro q' hq'
   rcases List.mem_append.mp hq' with hq' | hq'
   ·exact hacc q' hq'
   ·rcases List.mem_singleton.mp hq' with rfl
    exact ⟨hqS, hqI⟩
  ·intro q' hq'
   obtain ⟨a1, a2, a3⟩ := hrk q' (List.mem_cons_of_mem _ hq')
   exact ⟨a1, a2, tupleKey_at a3 fun o e => hs2.extBut _ o a1 (hs1.extBut _ o a2 e)⟩
  ·obtain ⟨b', hb', hbS', hbI', htup'⟩ := ht (j + 1) q' (by simpa using e)
   refine ⟨b', ?_, hbS', hbI', (htup'.extBut hs1.extBut hbI').extBut hs2.extBut hbS'⟩
   rw [show i + 1 + j = i + (j + 1) by omega]
   exact hb'
  ·exact hit1.at fun o' e => hs2.extBut I o' (Ne.symm hSI) e
  ·exact hl1.extBut hs2.extBut (Ne.symm hSl)
  ·rw [List.append_assoc] at hd'
   exact hR h' tk hd' fun c oc h3 h4 e => k c oc h3 h4 (hs2.extBut c oc h3 (hs1.extBut c oc h4 e))
theorem call_dict_pairsT {s : Shared} {l : Addr} {ol : Obj} {items : Array Value} {n : Nat} {prs : List (List Key × Addr × Value)} {Q : Value → Shared → Prop} (hh : A.handled = none) (hu : A.units + 2 < cLine) (hl : s.heap.get? l = some ol) (hc : ol.cls = .type "list") (hd : ol.dict = none)
  (hdat : ol.data = .seq items n) (hsz : items.size = prs.length) (hln : prs.length ≤ sizeLine) (hnd : (prs.map (·.1)).Nodup) (hpk : ∀ q ∈ prs, (tupleKind (mixKind prog w)).is s.heap q.1 q.2.1)
  (ht : ∀ (j : Nat) (q : List Key × Addr × Value), prs[j]? = some q → ∃ b : Addr, items[j]? = some (.ref b) ∧ IsTup s.heap b #[.ref q.2.1, q.2.2])
  (h : ∀ h' tk, h'.DictOfH (tupleKind (mixKind prog w)) s.heap.objs.size prs → (∀ b o, s.heap.get? b = some o → h'.get? b = some o) → Q (.ref s.heap.objs.size) { s with heap := h', toks := tk }) :
  wpAny (model prog w) A (call (.type "dict") [.ref l]) Q E s := by
 refine callType_codes (Q₁ := fun obj s₁ => obj = .ref s.heap.objs.size ∧ s₁ = { s with heap := s.heap.push { cls := .type "dict", data := .dict #[] } }) PySem.F.kt_called_dict (PySem.F.kt_typeCall_dict_1 _) PySem.F.entry_dict_init (kt_code_dict_new _ ⟨rfl, rfl⟩) ?_
 rintro obj s₁ ⟨rfl, rfl⟩
 have hnew : (s.heap.push { cls := .type "dict", data := .dict #[] }).DictOfH (tupleKind (mixKind prog w)) s.heap.objs.size [] := Heap.DictOfH.new s.heap
 have k0 : ∀ b o, s.heap.get? b = some o → (s.heap.push { cls := .type "dict", data := .dict #[] }).get? b = some o := fun b o e => Heap.get?_push_of_some _ e
 refine ⟨hnew.typeIs, PySem.F.args_dict_init_2 _ _, ?_⟩
 unfold Builtin.«dict.__init__»
 refine wpAny_bind ?_
 unfold Builtin.Dict.selfAndRest
 refine wpAny_bind (wpAny_notOrdered_dict hnew.typeIs ?_)
 show wpAny _ _ (pure (s.heap.objs.size, [Value.ref l])) _ _ _
 refine wpAny_pure ?_
 show wpAny _ _ (Builtin.Dict.updateFrom "dict.__init__" s.heap.objs.size (.ref l) [] .none) _ _ _
 unfold Builtin.Dict.updateFrom
 refine wpAny_bind (wpAny_typeOf (T := "list") ⟨ol, k0 _ _ hl, hc⟩ ?_)
 rw [if_pos (by first | decide | rfl | simp)]
 refine wpAny_bind (miss_list (k0 _ _ hl) hc hdat hd hh fun h1 tk1 hk1 => ?_)
 rw [if_pos (show (none : Option Value).isNone = true from rfl)]
 refine wpAny_bind (wpAny_rule ?_)
 have hl1 : h1.IsList l items := ⟨ol, hk1 _ _ (k0 _ _ hl), hc, n, hdat⟩
 have hS1 : s.heap.objs.size < h1.objs.size := by
  have e : (s.heap.push { cls := .type "dict", data := .dict #[] }).get? s.heap.objs.size = some { cls := .type "dict", data := .dict #[] } := Heap.get?_push_size _ rfl
  exact Heap.lt_size (hk1 _ _ e)
 refine wpAny_bind (wpAny_pyIter_list hl1 ?_)
 have k2 : ∀ b o, h1.get? b = some o → (h1.push { cls := .type "list_iterator", data := .fields #[.ref l, .int 0 0] }).get? b = some o := fun b o e => Heap.get?_push_of_some _ e
 have k3 : ∀ b o, s.heap.get? b = some o → (h1.push { cls := .type "list_iterator", data := .fields #[.ref l, .int 0 0] }).get? b = some o := fun b o e => k2 _ _ (hk1 _ _ (k0 _ _ e))
 have hlt : l < s.heap.objs.size := Heap.lt_size hl
 have key := upd_loopT (prog := prog) (w := w) (A := A.in1) (R := wants (fun r s₂ => r = .none ∧ Q (.ref s.heap.objs.size) s₂) E) (S := s.heap.objs.size) (I := h1.objs.size) (l := l) (items := items) (res := Value.none) hh hu
  (Nat.ne_of_lt (Nat.lt_trans hlt hS1)) (Nat.ne_of_lt hS1) (Nat.ne_of_gt hlt) prs 0 [] 0 0
  { s with heap := h1.push { cls := .type "list_iterator", data := .fields #[.ref l, .int 0 0] }, toks := tk1 } (by rw [hsz, Nat.zero_add]) (by rw [List.length_nil, Nat.zero_add]; exact hln) hnd (fun q hq => nomatch hq)
  (fun q hq => by
   have z := tupleKey_lt (hpk q hq)
   exact ⟨Nat.ne_of_lt z, Nat.ne_of_lt (Nat.lt_trans z hS1), tupleKey_at (hpk q hq) fun o e => k3 _ o e⟩)
  (fun j q e => by
   obtain ⟨b, e1, e2⟩ := ht j q e
   have hb : b < s.heap.objs.size := e2.lt
   exact ⟨b, by rw [Nat.zero_add]; exact e1, Nat.ne_of_lt hb, Nat.ne_of_lt (Nat.lt_trans hb hS1), e2.keeps fun c o z => k3 _ _ z⟩)
  ⟨_, Heap.get?_push_size _ rfl, rfl, rfl⟩ (hl1.at fun o e => k2 _ _ e) (dictH_at hnew (fun o e => k2 _ _ (hk1 _ _ e)) fun q hq => nomatch hq)
  (fun h' tk hd' k => ⟨rfl, h h' tk hd' fun b o e => k b o (Nat.ne_of_lt (Heap.lt_size e)) (Nat.ne_of_lt (Nat.lt_trans (Heap.lt_size e) hS1)) (k3 _ _ e)⟩)
 first
  | exact wpAny_pure ⟨plainId_quiet ud_plain _, key⟩
  | exact wpAny_bind (wpAny_pure (wpAny_pure ⟨plainId_quiet ud_plain _, key⟩))
end
section
variable {X : Cx}
def PairT (K : PySem.W.Frag) (H : Hp) (p : Addr) (kv : List Key × V) : Prop := ∃ q, SqT K H p [.ref q, kv.2] ∧ H q = some (.tup (kv.1.map kV))
theorem pairsT_of {pins : List (Addr × Obj)} {σ : St} {H : Hp} {s : Shared} (I : Inv X pins σ H s) : ∀ {ps : List Addr} {kvs : List (List Key × V)}, Paired (PairT X.K H) ps kvs →
  ∃ prs : List (List Key × Addr × Value), KT H kvs prs ∧ prs.length = ps.length ∧ ∀ (j : Nat) (q : List Key × Addr × Value), prs[j]? = some q → ∃ b : Addr, ps[j]? = some b ∧ IsTup s.heap b #[.ref q.2.1, q.2.2]
 | _, _, .nil => ⟨[], .nil, rfl, fun j q e => by simp at e⟩
 | _, _, .cons (a := p) (b := kv) h t => by
  obtain ⟨prs, r, hl, hp⟩ := pairsT_of I t
  obtain ⟨q0, hq1, hq2⟩ := h
  obtain ⟨its, rv, ht, _⟩ := I.tuple hq1
  obtain ⟨u, y, ei, ru, ry⟩ := vals2 rv
  subst ei
  cases ru
  refine ⟨(kv.1, q0, y) :: prs, .cons ⟨rfl, hq2, ry⟩ r, by rw [List.length_cons, List.length_cons, hl], fun j q e => ?_⟩
  cases j with
  | zero =>
   have e' : (kv.1, q0, y) = q := Option.some.inj e
   subst e'
   exact ⟨p, rfl, ht⟩
  | succ j =>
   obtain ⟨b, e1, e2⟩ := hp j q (by simpa using e)
   exact ⟨b, by simpa using e1, e2⟩
theorem KT.keys {H : Hp} {kvs : List (List Key × V)} {xs : List (List Key × Addr × Value)} (r : KT H kvs xs) : kvs.map (·.1) = xs.map (·.1) := by
 induction r with
 | nil => rfl
 | cons h t ih => rw [List.map_cons, List.map_cons, ih, h.1]
theorem KT.all_is {P : Program} {w : World} {H : Hp} {h : Heap} (ok : HOk P w H h) {kvs : List (List Key × V)} {xs : List (List Key × Addr × Value)} (r : KT H kvs xs) : ∀ x ∈ xs, (tupleKind (mixKind P w)).is h x.1 x.2.1 := by
 induction r with
 | nil => intro x hx; exact nomatch hx
 | @cons p q ps qs hq t ih =>
  intro x hx
  rcases List.mem_cons.mp hx with e | hx
  ·subst e
   exact key_of ok (by rw [← hq.1]; exact hq.2.1)
  ·exact ih x hx
def rDictPT (K : PySem.W.Frag) : List V → Hp → VK → Prop := fun xs H Q => ∃ (a : Addr) (ps : List Addr) (kvs : List (List Key × V)), xs = [.ref a] ∧ SqL K H a (ps.map V.ref) ∧ Paired (PairT K H) ps kvs ∧ (kvs.map (·.1)).Nodup ∧
  ∀ p, H p = none → Q (.ref p) (upd H p (.dT kvs))
theorem call_dictPT (hcalm : X.calm = true) (hu : X.A.units + 2 < cLine) : CallR X (.type "dict") (rDictPT X.K) := by
 intro pins s σ H xs us Q I r q
 obtain ⟨a, ps, kvs, ex, hq, hp, hnd, q⟩ := q
 subst ex
 obtain ⟨u, eu, rx⟩ := vals1 r
 subst eu
 cases rx
 obtain ⟨its, rv, pl, hz⟩ := I.list hq
 have ei := refs_at rv
 subst ei
 rw [List.length_map] at hz
 obtain ⟨prs, rel, hl, hpr⟩ := pairsT_of I hp
 obtain ⟨o, n, ho, hc, hd, hdat⟩ := pl
 have hlk : kvs.length = prs.length := Paired.length rel
 refine call_dict_pairsT (prs := prs) (I.ok.hd hcalm) hu ho hc hd hdat (by simp [hl]) (by rw [hl]; exact hz) (by rw [← KT.keys rel]; exact hnd) (KT.all_is I.hok rel) (fun j q' e => ?_) fun h' tk hd' k => ?_
 ·obtain ⟨b, e1, e2⟩ := hpr j q' e
  exact ⟨b, by simp [e1], e2⟩
 ·have hm : (s.heap.objs.size == sysModules) = false := beq_eq_false_iff_ne.mpr (Nat.ne_of_gt I.big)
  have hfr : H s.heap.objs.size = none := I.hok.fresh (Nat.le_refl _)
  obtain ⟨o', es, ep, h1, h2, h3, h4, h5, h6⟩ := hd'
  refine ⟨.ref s.heap.objs.size, upd H s.heap.objs.size (.dT kvs), I.laid (t' := tk) k (Nat.le_refl _) (show ObjOk X.prog X.w _ _ _ (.dT kvs) from ⟨by rw [hlk, hl]; exact hz, hm, prs, ?_, o', es, ep, h1, h2, h3, h4, h6⟩), rfl, q _ hfr⟩
  exact KT.keeps rel fun b ys e => by
   rw [upd_ne (ne_of_none e hfr)]
   exact e
end
end L2
end
section
namespace L2
open PySem PySem.Spec PyProof.Rows
section
variable {prog : Program} {w : World} {A : Around} {E : Value → Shared → Prop} {s : Shared}
theorem sb_tail {a kS : Addr} {vs : List Value} {keys : Array Value} {e e1 : Nat} {st : SortSt} {P : PySem.Fin → Shared → Prop} (hk : s.heap.get? kS = some (seqObj "list" keys e)) (ha : s.heap.get? a = some (seqObj "list" #[] e1)) (hka : kS ≠ a)
  (hsz : keys.size = vs.length) (hZ : vs.length ≤ sizeLine) (hp : (arrOf st).Perm (keys.zip vs.toArray)) (hfl : failedOf st = none)
  (h : P (.done (.ret .none)) { s with heap := (s.heap.update kS (Obj.mapSeq fun _ => (#[] : Array Value))).update a (Obj.mapSeq fun _ => (arrOf st).map (·.2)) }) :
  wpAny (model prog w) A (ksk_tail a false e1 (.ref kS) st) P E s := by
 have s1 := Heap.SameBut.update s.heap kS (Obj.mapSeq fun _ => (#[] : Array Value))
 have na1 : (s.heap.update kS (Obj.mapSeq fun _ => (#[] : Array Value))).get? a = some (seqObj "list" #[] e1) := (s1.2 a hka.symm).trans ha
 have hout : ((arrOf st).map (·.2)).size = vs.length := by
  rw [Array.size_map, hp.size_eq, Array.size_zip, hsz, List.size_toArray, Nat.min_self]
 unfold ksk_tail
 try dsimp only
 refine wpAny_bind (listUpdate_at hk rfl ?_ (by rw [hsz]; exact hZ) (Nat.zero_le _))
 refine wpAny_bind (wpAny_letGo (wpAny_bind (seqEpoch_at na1 rfl ?_)))
 refine wpAny_bind (listUpdate_at na1 rfl ?_ (Nat.zero_le _) (by simp only [Bool.false_eq_true, if_false]; rw [hout]; exact Nat.le_succ_of_le hZ))
 rw [hfl]
 simp only [bne_self_eq_false, Bool.false_eq_true, if_false]
 exact wpAny_pure h
theorem sb_end {κ : KeyKind} {kd : SortKind} {a kS : Addr} {vs : List Value} {keys : Array Value} {e e1 : Nat} {P : PySem.Fin → Shared → Prop} (hk : s.heap.get? kS = some (seqObj "list" keys e)) (ha : s.heap.get? a = some (seqObj "list" #[] e1)) (hka : kS ≠ a)
  (hsz : keys.size = vs.length) (hZ : vs.length ≤ sizeLine) (h0 : KeysOf κ (keys.zip vs.toArray)) (hO : PyProof.Rows.G.LtAt prog w s κ kd)
  (hkk : 2 ≤ vs.length → ∀ {Q : SortKind → Shared → Prop}, Q kd s → wpAny (model prog w) A (keyKind' keys) Q E s)
  (h : ∀ st : SortSt, (arrOf st).Perm (keys.zip vs.toArray) → SortedToK κ (arrOf st) vs.length →
   P (.done (.ret .none)) { s with heap := (s.heap.update kS (Obj.mapSeq fun _ => (#[] : Array Value))).update a (Obj.mapSeq fun _ => (arrOf st).map (·.2)) }) :
  wpAny (model prog w) A (ksk_end a false vs.toArray e1 (.ref kS) keys) P E s := by
 have hzs : (keys.zip vs.toArray).size = vs.length := by rw [Array.size_zip, hsz, List.size_toArray, Nat.min_self]
 unfold ksk_end
 try dsimp only
 simp only [Bool.false_eq_true, if_false]
 by_cases h2 : vs.toArray.size < 2
 ·rw [if_pos h2, if_pos h2]
  refine wpAny_bind (wpAny_pure ?_)
  rw [StateT.run_pure]
  refine wpAny_bind (wpAny_pure ?_)
  try dsimp only
  refine sb_tail (st := SortSt.mk' general' (keys.zip vs.toArray) #[] 7 none) hk ha hka hsz hZ (Array.Perm.refl _) rfl (h _ (Array.Perm.refl _) ?_)
  intro i j hij hj
  rw [List.size_toArray] at h2
  have : i = j := by omega
  subst this
  exact KeyOrd.kle_refl _
 ·rw [if_neg h2, if_neg h2]
  rw [List.size_toArray] at h2
  refine wpAny_bind (hkk (by omega) ?_)
  refine wpAny_bind (wpAny_mono (PyProof.Rows.G.wpS_sortRunsSt (κ := κ) (kd := kd) (a₀ := keys.zip vs.toArray) (st := SortSt.mk' kd (keys.zip vs.toArray) #[] 7 none)
   (Q := fun _ st' => (arrOf st').Perm (keys.zip vs.toArray) ∧ failedOf st' = none ∧ SortedToK κ (arrOf st') (keys.zip vs.toArray).size)
   hO h0 ⟨Array.Perm.refl _, rfl, rfl⟩ rfl (Stable.refl _) (by rw [hzs]; omega) fun st' a1 a2 a3 a4 => ⟨a1, a2, a3⟩) ?_ fun _ _ e => e)
  rintro ⟨⟨⟩, st'⟩ s' ⟨rfl, hp, hf, hs⟩
  try dsimp only
  rw [hzs] at hs
  exact sb_tail hk ha hka hsz hZ hp hf (h st' hp hs)
end
def leI : List Int → List Int → Prop
 | [], _ => True
 | _ :: _, [] => False
 | x :: xs, y :: ys => x < y ∨ (x = y ∧ leI xs ys)
theorem leI_of : ∀ (xs ys : List Int), PyProof.Rows.lexLt itemOrd (ys.map Sum.inl) (xs.map Sum.inl) = false → leI xs ys
 | [], _, _ => trivial
 | x :: xs, [], h => by cases h
 | x :: xs, y :: ys, h => by
  have h' : (itemOrd.blt (Sum.inl y) (Sum.inl x) || (!itemOrd.blt (Sum.inl x) (Sum.inl y) && PyProof.Rows.lexLt itemOrd (ys.map Sum.inl) (xs.map Sum.inl))) = false := h
  have e1 : itemOrd.blt (Sum.inl y) (Sum.inl x) = decide (y < x) := rfl
  have e2 : itemOrd.blt (Sum.inl x) (Sum.inl y) = decide (x < y) := rfl
  rw [e1, e2] at h'
  by_cases q1 : y < x
  ·rw [decide_eq_true q1] at h'; simp at h'
  ·rw [decide_eq_false q1] at h'
   by_cases q2 : x < y
   ·exact .inl q2
   ·rw [decide_eq_false q2] at h'
    exact .inr ⟨by omega, leI_of xs ys (by simpa using h')⟩
end L2
end
section
namespace L2
open PySem PySem.Spec PyProof.Rows
def SortedBy (ks : List (List Int)) (xs ys : List V) : Prop := ∃ ps : List (List Int × V), ps.Perm (ks.zip xs) ∧ ys = ps.map Prod.snd ∧ ps.Pairwise fun p q => leI p.1 q.1
abbrev noStr : Nat → Bool := fun _ => false
theorem tupItems_ints : ∀ (k : List Int) (us : List Value) (i : Nat), Vals (k.map V.int) us → PyProof.Rows.tupItems noStr i us = some (k.map Sum.inl)
 | [], us, i, h => by
  cases h
  rfl
 | n :: k, us, i, h => by
  cases h with
  | cons r t =>
   obtain ⟨tk, rfl⟩ := r
   show (if noStr i = true then none else (PyProof.Rows.tupItems noStr (i + 1) _).map (Sum.inl n :: ·)) = _
   rw [if_neg (by simp), tupItems_ints k _ (i + 1) t]
   rfl
theorem tup_obj {P : Program} {w : World} {H : Hp} {h : Heap} {p : Addr} {k : List Int} (ok : HOk P w H h) (hp : H p = some (.tup (k.map V.int))) : ∃ o us n, h.get? p = some o ∧ o.cls = .type "tuple" ∧ o.data = .seq (List.toArray us) n ∧ Vals (k.map V.int) us := by
 obtain ⟨_, its, r, o, h1, h2, n, h3⟩ := (show ObjOk P w H h p (.tup (k.map V.int)) from ok p _ hp)
 exact ⟨o, its, n, h1, h2, h3, r⟩
theorem tupKeyC_at {P : Program} {w : World} {H : Hp} {h : Heap} {p : Addr} {k : List Int} (ok : HOk P w H h) (hp : H p = some (.tup (k.map V.int))) : PyProof.Rows.G.tupKeyC h noStr (.ref p) = some (k.map Sum.inl) := by
 obtain ⟨o, us, n, h1, h2, h3, h4⟩ := tup_obj ok hp
 have e1 : PyProof.Rows.G.isTupObj h (.ref p) = true := by
  unfold PyProof.Rows.G.isTupObj
  simp only [h1, h2]
  decide
 unfold PyProof.Rows.G.tupKeyC
 rw [if_pos e1]
 show PyProof.Rows.tupKey h noStr (.ref p) = _
 unfold PyProof.Rows.tupKey
 simp only [h1, h3]
 exact tupItems_ints k us 0 h4
theorem tupsOf_at {P : Program} {w : World} {H : Hp} {h : Heap} (ok : HOk P w H h) : ∀ (ps : List Addr) (ks : List (List Int)), ps.length = ks.length → (∀ k ∈ ks, k ≠ []) → (∀ (j : Nat) (p : Addr) (k : List Int), ps[j]? = some p → ks[j]? = some k → H p = some (.tup (k.map V.int))) →
  ∃ fs, PyProof.Rows.TupsOf h noStr (ps.map Value.ref) fs ∧ fs.length = ps.length
 | [], [], _, _, _ => ⟨[], .nil, rfl⟩
 | [], _ :: _, h, _, _ => by cases h
 | _ :: _, [], h, _, _ => by cases h
 | p :: ps, k :: ks, hl, hne, hp => by
  obtain ⟨fs, h1, h2⟩ := tupsOf_at ok ps ks (Nat.succ.inj hl) (fun k hk => hne k (List.mem_cons_of_mem _ hk)) fun j p k e1 e2 => hp (j + 1) p k e1 e2
  obtain ⟨o, us, n, q1, q2, q3, q4⟩ := tup_obj ok (hp 0 p k rfl rfl)
  cases k with
  | nil => exact absurd rfl (hne [] List.mem_cons_self)
  | cons a k =>
   cases q4 with
   | cons r t =>
    obtain ⟨tk, rfl⟩ := r
    exact ⟨_ :: fs, .cons ⟨p, o, _, n, rfl, q1, q2, q3, rfl, fun _ => ⟨a, tk, rfl⟩, fun h => by cases h⟩ h1, by rw [List.length_cons, List.length_cons, h2]⟩
def absKeyed (h : Heap) (p : Value × Value) : List Int × V := (((PyProof.Rows.G.tupKeyC h noStr p.1).getD []).map fun z => match z with | .inl n => n | .inr _ => 0, (absV p.2).getD .non)
theorem abs_ints (k : List Int) : ((k.map (Sum.inl : Int → Int ⊕ List Nat)).map fun z => match z with | .inl n => n | .inr _ => (0 : Int)) = k := by
 rw [List.map_map]
 exact List.map_id'' (fun _ => rfl) k
theorem zip_abs {P : Program} {w : World} {H : Hp} {h : Heap} (ok : HOk P w H h) : ∀ (ps : List Addr) (ks : List (List Int)) (xs : List V) (vs : List Value), ps.length = ks.length → xs.length = ps.length → Vals xs vs →
  (∀ (j : Nat) (p : Addr) (k : List Int), ps[j]? = some p → ks[j]? = some k → H p = some (.tup (k.map V.int))) → ((ps.map Value.ref).zip vs).map (absKeyed h) = ks.zip xs
 | [], [], xs, vs, _, _, _, _ => by simp
 | [], _ :: _, _, _, h, _, _, _ => by cases h
 | _ :: _, [], _, _, h, _, _, _ => by cases h
 | p :: ps, k :: ks, [], vs, _, h, _, _ => by cases h
 | p :: ps, k :: ks, x :: xs, vs, hl, hx, hv, hp => by
  cases hv with
  | cons r t =>
   rw [List.map_cons, List.zip_cons_cons, List.map_cons, List.zip_cons_cons, zip_abs ok ps ks xs _ (Nat.succ.inj hl) (Nat.succ.inj hx) t fun j p k e1 e2 => hp (j + 1) p k e1 e2]
   congr 1
   unfold absKeyed
   rw [tupKeyC_at ok (hp 0 p k rfl rfl), r.abs]
   show ((k.map Sum.inl).map _, x) = (k, x)
   rw [abs_ints]
theorem vals_abs {us vs : List Value} {xs : List V} (hv : Vals xs vs) (hs : ∀ u ∈ us, u ∈ vs) : Vals (us.map fun u => (absV u).getD .non) us := by
 induction us with
 | nil => exact .nil
 | cons u us ih =>
  refine .cons ?_ (ih fun z hz => hs z (List.mem_cons_of_mem _ hz))
  obtain ⟨j, hj⟩ := List.getElem?_of_mem (hs u List.mem_cons_self)
  have hl := hv.length
  obtain ⟨x, hx⟩ : ∃ x, xs[j]? = some x := ⟨_, List.getElem?_eq_getElem (by have := (List.getElem?_eq_some_iff.mp hj).1; omega)⟩
  obtain ⟨u', e, r⟩ := hv.get hx
  rw [hj] at e
  cases e
  show RelV ((absV u).getD .non) u
  rw [r.abs]
  exact r
theorem pairwise_of {κ : KeyKind} {xs : Array Keyed} {n : Nat} (hs : SortedToK κ xs n) (hn : xs.size = n) {R : Keyed → Keyed → Prop} (h : ∀ (i j : Nat) (p q : Keyed), xs[i]? = some p → xs[j]? = some q → κ.kle (KK κ xs i) (KK κ xs j) → R p q) : xs.toList.Pairwise R := by
 rw [List.pairwise_iff_getElem]
 intro i j hi hj hij
 rw [Array.length_toList] at hi hj
 exact h i j _ _ (by rw [Array.getElem?_eq_getElem hi]; simp) (by rw [Array.getElem?_eq_getElem hj]; simp) (hs i j (Nat.le_of_lt hij) (by omega))
def rSortedBy (K : PySem.W.Frag) (sp : Sp) : V → Hp → VK → Prop := fun x H Q => ∃ (a : Addr) (xs : List V) (ks : List (List Int)), x = .ref a ∧ SqL K H a xs ∧ ks.length = xs.length ∧ (∀ k ∈ ks, k ≠ []) ∧
 (∀ (j : Nat) (x : V) (k : List Int), xs[j]? = some x → ks[j]? = some k → ∀ H1 : Hp, Same H H1 → sp [x] H1 (fun v H2 => ∃ p, v = .ref p ∧ H2 p = some (.tup (k.map V.int)) ∧ Same H1 H2) E0) ∧
 ∀ (H' : Hp) (l : Addr) (ys : List V), Same H H' → H l = none → H' l = some (.lst ys) → SortedBy ks xs ys → Q (.ref l) H'
section
variable {X : Cx} {pins : List (Addr × Obj)} {σ : St} {H : Hp} {s : Shared}
theorem run_key {A2 : Around} {k : Nat} {f : Addr} {fd : FuncData} {ps : List Str} {sp : Sp} {Q : VK} {x : V} {u : Value} {E : Value → Shared → Prop} (hA : A2 = X.A.in1.in1) (F : FnOk X.prog X.w X.K X.mg X.base CX0 k f fd ps sp) (hr : Room k A2) (hb : Binds X.K fd ps [])
  (I : Inv X pins σ H s) (r : RelV x u) (h : sp [x] H Q E0) : wpAny (model X.prog X.w) A2 (call (.ref f) [u]) (EP X pins σ Q) E s := by
 subst hA
 have hl : ([u] ++ ([] : List Value)).length = ps.length := F.len _ _ _ _ h
 refine wpAny_call (codeAny_mono (F.run _ X.stack s H ⟨[u], []⟩ [u] [x] Q E0 hr I.env0.in1.in1 (hb s [u] I.kIn hl) (.cons r .nil) h) fun r s' hq => ?_)
 cases r with
 | error e => exact hq.elim
 | ok fl =>
  cases fl with
  | ret u => exact I.after hq
  | next => exact False.elim hq
  | brk => exact False.elim hq
  | cont => exact False.elim hq
theorem same_fresh {H : Hp} {l : Addr} {o : HO} (h : H l = none) : Same H (upd H l o) := fun b u e => by
 rw [upd_ne (ne_of_none e h)]
 exact e
theorem same_over {H H1 : Hp} {l : Addr} {o : HO} (s : Same H H1) (h : H l = none) : Same H (upd H1 l o) := fun b u e => by
 rw [upd_ne (ne_of_none e h)]
 exact s b u e
theorem sb_rest {A2 : Around} {k : Nat} {f : Addr} {fd : FuncData} {pn : List Str} {sp : Sp} {D kS : Addr} {e1 : Nat} {xs : List V} {vs : List Value} {ks : List (List Int)} {P : PySem.Fin → Shared → Prop} {E : Value → Shared → Prop} {H0 : Hp}
  (hA : A2 = X.A.in1.in1) (F : FnOk X.prog X.w X.K X.mg X.base CX0 k f fd pn sp) (hr : Room k A2) (hb : Binds X.K fd pn [])
  (I : Inv X pins σ H s) (hs : Same H0 H) (hDf : H D = some (.frz (seqObj "list" #[] e1) (.lst []))) (hkS : H kS = some (.lst [])) (hD0 : H0 D = none) (hk0 : H0 kS = none) (hn : ∀ o' u', X.H_0 D ≠ some (.frz o' u'))
  (hv : Vals xs vs) (hlen : ks.length = xs.length) (hne : ∀ k ∈ ks, k ≠ []) (hZ : xs.length ≤ sizeLine)
  (hsp : ∀ (j : Nat) (x : V) (k : List Int), xs[j]? = some x → ks[j]? = some k → ∀ H1 : Hp, Same H0 H1 → sp [x] H1 (fun v H2 => ∃ p, v = .ref p ∧ H2 p = some (.tup (k.map V.int)) ∧ Same H1 H2) E0)
  (h : ∀ (s' : Shared) (H' : Hp) (ys : List V), Inv X pins σ H' s' → Same H0 H' → H' D = some (.lst ys) → SortedBy ks xs ys → P (.done (.ret .none)) s') :
  wpAny (model X.prog X.w) A2 (ksk_rest D (.ref f) false vs.toArray e1 (.ref kS)) P E s := by
 have hvl : xs.length = vs.length := hv.length
 have hkD : kS ≠ D := ne_of hkS hDf (by intro q; cases q)
 unfold ksk_rest
 refine wpAny_bind (wpAny_rule ?_)
 first
  | rw [List.forIn_toArray]
  | (rw [← Array.forIn_toList]; simp only [List.toList_toArray])
  | rw [← Array.forIn_toList]
 refine wpAny_bind (ksk_fold (fun i s' => ∃ (H' : Hp) (ps : List Addr), Inv X pins σ H' s' ∧ Same H0 H' ∧ H' D = some (.frz (seqObj "list" #[] e1) (.lst [])) ∧ H' kS = some (.lst (ps.map V.ref)) ∧ ps.length = i ∧
  ∀ (j : Nat) (p : Addr) (k : List Int), ps[j]? = some p → ks[j]? = some k → H' p = some (.tup (k.map V.int))) vs 0 s
  ⟨H, [], I, hs, hDf, hkS, rfl, fun j p k e => by simp at e⟩ ?step ?done)
 case step =>
  rintro j u s' hx ⟨H', ps, I', hs', hD', hk', hl', hps⟩
  rw [Nat.zero_add] at hl' ⊢
  have hj : j < vs.length := (List.getElem?_eq_some_iff.mp hx).1
  obtain ⟨x, hxj⟩ : ∃ x, xs[j]? = some x := ⟨_, List.getElem?_eq_getElem (by omega)⟩
  obtain ⟨kk, hkj⟩ : ∃ kk, ks[j]? = some kk := ⟨_, List.getElem?_eq_getElem (by omega)⟩
  obtain ⟨u', eu, ru⟩ := hv.get hxj
  rw [hx] at eu
  cases eu
  refine wpAny_bind (wpAny_attempt (thn (run_key hA F hr hb I' ru (hsp j x kk hxj hkj H' hs')) fun v s'' he => ?_))
  obtain ⟨w1, H2, I2, rv, p, rfl, hp, s2⟩ := he
  cases rv
  try dsimp only
  have hkS2 : H2 kS = some (.lst (ps.map V.ref)) := s2 _ _ hk'
  obtain ⟨z, its, n, rits, _, hget⟩ := I2.lstM hkS2
  have hits := refs_at rits
  subst hits
  refine wpAny_bind (listUpdate_at hget rfl ?_ (by simp only [List.size_toArray, List.length_map]; omega) (by simp only [Array.size_push, List.size_toArray, List.length_map]; omega))
  have hlen2 : (ps ++ [p]).length ≤ sizeLine := by rw [List.length_append]; simp only [List.length_singleton]; omega
  have I3 := I2.lset (f := fun x => x.push (Value.ref p)) (t' := s''.toks) (ys := (ps ++ [p]).map V.ref) (its' := (ps ++ [p]).map Value.ref) hkS2 hget (by simp) (by
   have : ∀ l : List Addr, Vals (l.map V.ref) (l.map Value.ref) := fun l => by
    induction l with
    | nil => exact .nil
    | cons a l ih => exact .cons rfl ih
   exact this _) (by rw [List.length_map]; exact hlen2)
  have hpk : p ≠ kS := ne_of hp hkS2 (by intro q; cases q)
  refine wpAny_pure ⟨rfl, upd H2 kS (.lst ((ps ++ [p]).map V.ref)), ps ++ [p], I3, same_over (hs'.trans s2) hk0, ?_, upd_same, by rw [List.length_append, hl']; rfl, fun i q kq e1 e2 => ?_⟩
  ·rw [upd_ne (Ne.symm hkD)]
   exact s2 _ _ hD'
  ·by_cases hi : i < ps.length
   ·rw [List.getElem?_append_left hi] at e1
    have hq := s2 _ _ (hps i q kq e1 e2)
    rw [upd_ne (ne_of hq hkS2 (by intro q; cases q))]
    exact hq
   ·rw [List.getElem?_append_right (by omega)] at e1
    have hi2 : i - ps.length = 0 := by
     rcases Nat.eq_zero_or_pos (i - ps.length) with q | q
     ·exact q
     ·rw [List.getElem?_eq_none (by simp; omega)] at e1
      cases e1
    rw [hi2] at e1
    have e3 : p = q := Option.some.inj e1
    subst e3
    have hij : i = j := by omega
    subst hij
    rw [hkj] at e2
    cases e2
    rw [upd_ne hpk]
    exact hp
 case done =>
  rintro s' ⟨H', ps, I', hs', hD', hk', hl', hps⟩
  rw [Nat.zero_add] at hl'
  obtain ⟨z, its, n, rits, _, hget⟩ := I'.lstM hk'
  have hits := refs_at rits
  subst hits
  obtain ⟨hDget, _⟩ := I'.hok D _ hD'
  refine wpAny_bind (listItems_at hget rfl ?_)
  have hpl : ps.length = ks.length := by omega
  obtain ⟨fs, ht, hfl⟩ := tupsOf_at I'.hok ps ks hpl hne hps
  have hzip := zip_abs I'.hok ps ks xs vs hpl (by omega) hv hps
  have htl : ((ps.map Value.ref).toArray.zip vs.toArray).toList = (ps.map Value.ref).zip vs := by simp
  have hkeys : KeysOf (PyProof.Rows.G.tupKindC s'.heap noStr) ((ps.map Value.ref).toArray.zip vs.toArray) := by
   intro q hq
   rw [htl] at hq
   obtain ⟨i, hi⟩ := List.getElem?_of_mem hq
   obtain ⟨q1, q2⟩ := q
   rw [List.getElem?_zip_eq_some] at hi
   obtain ⟨hi1, hi2⟩ := hi
   rw [List.getElem?_map] at hi1
   cases hpi : ps[i]? with
   | none => rw [hpi] at hi1; cases hi1
   | some p =>
    rw [hpi] at hi1
    have e1 : Value.ref p = q1 := Option.some.inj hi1
    have hip := (List.getElem?_eq_some_iff.mp hpi).1
    obtain ⟨kk, hkk⟩ : ∃ kk, ks[i]? = some kk := ⟨_, List.getElem?_eq_getElem (by omega)⟩
    refine ⟨kk.map Sum.inl, ?_⟩
    show PyProof.Rows.G.tupKeyC s'.heap noStr q1 = _
    rw [← e1]
    exact tupKeyC_at I'.hok (hps i p kk hpi hkk)
  refine sb_end (κ := PyProof.Rows.G.tupKindC s'.heap noStr) (kd := tuples' true) (e := n) hget hDget hkD (by simp; omega) (by omega) hkeys (PyProof.Rows.G.tupC_ltAt (s := s') true (PyProof.Rows.G.KeepsTups.refl _))
   (fun h2 _ hq => PyProof.Rows.tup_kind (s := s') (by omega) ht hq) fun st hp hsr => ?_
  have hperm : (arrOf st).toList.Perm ((ps.map Value.ref).zip vs) := by
   rw [← htl]
   exact Array.perm_iff_toList_perm.mp hp
  have habs : ((arrOf st).toList.map (absKeyed s'.heap)).Perm (ks.zip xs) := by
   rw [← hzip]
   exact hperm.map _
  have hsize : (arrOf st).size = vs.length := by
   rw [hp.size_eq, Array.size_zip]
   simp
   omega
  have hvals : Vals (((arrOf st).toList.map (absKeyed s'.heap)).map Prod.snd) ((arrOf st).map (·.2)).toList := by
   have e : ((arrOf st).toList.map (absKeyed s'.heap)).map Prod.snd = ((arrOf st).map (·.2)).toList.map fun u => (absV u).getD .non := by
    rw [List.map_map, Array.toList_map, List.map_map]
    rfl
   rw [e]
   refine vals_abs hv fun u hu => ?_
   rw [Array.toList_map] at hu
   obtain ⟨q, hq, rfl⟩ := List.mem_map.mp hu
   have := hperm.mem_iff.mp hq
   exact (List.of_mem_zip (a := q.1) (b := q.2) this).2
  have hylen : (((arrOf st).toList.map (absKeyed s'.heap)).map Prod.snd).length = xs.length := by
   rw [List.length_map, List.length_map, Array.length_toList, hsize]
   exact hvl.symm
  have I3 := I'.lset (f := fun _ => (#[] : Array Value)) (t' := s'.toks) (ys := []) (its' := []) hk' hget rfl .nil (Nat.zero_le _)
  have hD3 : (upd H' kS (.lst [])) D = some (.frz (seqObj "list" #[] e1) (.lst [])) := by rw [upd_ne (Ne.symm hkD)]; exact hD'
  have hDg3 := (I3.hok D _ hD3).1
  have I4 := I3.unlock hD3 hn
  have I5 := I4.lset (l := D) (xs := []) (f := fun _ => (arrOf st).map (·.2)) (t' := s'.toks) (its := []) (its' := ((arrOf st).map (·.2)).toList) upd_same hDg3 (by simp only [Array.toArray_toList]) hvals (by rw [hylen]; exact hZ)
  refine h _ _ _ I5 (same_over (same_over (same_over hs' hk0) hD0) hD0) upd_same ⟨(arrOf st).toList.map (absKeyed s'.heap), habs, rfl, ?_⟩
  rw [List.pairwise_map]
  refine pairwise_of hsr hsize fun i j p q e1 e2 hle => ?_
  have key : ∀ (i : Nat) (p : Keyed), (arrOf st)[i]? = some p → KK (PyProof.Rows.G.tupKindC s'.heap noStr) (arrOf st) i = ((absKeyed s'.heap p).1.map Sum.inl) := by
   intro i p e
   have hm : p ∈ (arrOf st).toList := by
    rw [Array.mem_toList_iff]
    exact Array.mem_of_getElem? e
   have hm2 := hperm.mem_iff.mp hm
   obtain ⟨a, ha⟩ := hkeys p (by rw [htl]; exact hm2)
   obtain ⟨i2, hi2⟩ := List.getElem?_of_mem hm2
   obtain ⟨p1, p2⟩ := p
   rw [List.getElem?_zip_eq_some] at hi2
   obtain ⟨hz1, _⟩ := hi2
   rw [List.getElem?_map] at hz1
   cases hpi : ps[i2]? with
   | none => rw [hpi] at hz1; cases hz1
   | some pp =>
    rw [hpi] at hz1
    have e3 : Value.ref pp = p1 := Option.some.inj hz1
    subst e3
    have hip := (List.getElem?_eq_some_iff.mp hpi).1
    obtain ⟨kk, hkk⟩ : ∃ kk, ks[i2]? = some kk := ⟨_, List.getElem?_eq_getElem (by omega)⟩
    have ek := tupKeyC_at I'.hok (hps i2 pp kk hpi hkk)
    have e4 : (absKeyed s'.heap (Value.ref pp, p2)).1 = kk := by
     unfold absKeyed
     rw [ek]
     exact abs_ints kk
    rw [e4]
    unfold KK
    rw [e]
    show (PyProof.Rows.G.tupKeyC s'.heap noStr (Value.ref pp)).getD _ = _
    rw [ek]
    rfl
  rw [key i p e1, key j q e2] at hle
  exact leI_of _ _ hle
end
end L2
end
section
namespace L2
open PySem PySem.Spec PyProof.Rows
section
variable {X : Cx} {pins : List (Addr × Obj)} {σ : St} {H : Hp} {s : Shared}
theorem sb_call {k : Nat} {f : Addr} {fd : FuncData} {pn : List Str} {sp : Sp} {x : V} {u : Value} {Q : VK} (hc : X.calm = true) (F : FnOk X.prog X.w X.K X.mg X.base CX0 k f fd pn sp) (hr : Room (k + 2) X.A) (hb : Binds X.K fd pn [])
  (I : Inv X pins σ H s) (rx : RelV x u) (h : rSortedBy X.K sp x H Q) : wpAny (model X.prog X.w) X.A (call (.builtin "sorted") [u] [(Str.ofString "key", .ref f)]) (EP X pins σ Q) X.xe s := by
 obtain ⟨l, xs, ks, rfl, hl, hlen, hne, hsp, q⟩ := h
 obtain rfl : u = Value.ref l := rx
 obtain ⟨vs, hv, pl, hZ⟩ := I.list hl
 have hvl : xs.length = vs.length := hv.length
 have hZv : vs.length ≤ sizeLine := by omega
 refine call_function_entry_kw kind_sorted plain_sorted entry_sorted (ksk_s1 _ _) ?_
 unfold Builtin.«sorted»
 refine wpAny_bind (m := checkCount "sorted" 1 1 _) (wpAny_pure ?_)
 refine wpAny_bind (collect_list pl.isList ?_ hZv)
 refine wpAny_bind (wpAny_newList ?_ hZv)
 generalize hh1 : (s.heap.push (seqObj "list" #[] 0)).update s.heap.objs.size (Obj.mapSeq (· ++ vs.toArray)) = h1
 have z1 : h1.objs.size = s.heap.objs.size + 1 := by rw [← hh1, Heap.size_update, size_push']
 have k1 : ∀ b o, s.heap.get? b = some o → h1.get? b = some o := fun b o e => by
  have hlt : b < s.heap.objs.size := Heap.lt_size e
  rw [← hh1, Heap.get?_update_ne _ _ _ _ (Nat.ne_of_lt hlt), Heap.get?_push_ne _ _ _ (Nat.ne_of_lt hlt)]
  exact e
 have hoL : (h1.push (seqObj "list" vs.toArray 0)).get? h1.objs.size = some (seqObj "list" vs.toArray 0) := Heap.get?_push_size _ rfl
 show wpAny _ _ _ _ _ { s with heap := h1.push (seqObj "list" vs.toArray 0) }
 refine wpAny_bind (wpAny_holding (wpAny_call_entry_kw slot_list_sort ⟨_, hoL, rfl⟩ entry_list_sort ?body (by first | exact ksk_l1 _ _ | exact ksk_a1 _ _ | (unfold argsOk; kernel_rfl))))
 case body =>
  show wpAny (model X.prog X.w) X.A.in1.in1 (Builtin.«list.sort» ⟨[.ref h1.objs.size], [(Str.ofString "key", .ref f)]⟩) _ _ _
  rw [ksk_t1]
  unfold ksk_tree
  refine wpAny_bind (listItems_at hoL rfl ?_)
  refine wpAny_bind (listUpdate_at hoL rfl ?_ (by rw [List.size_toArray]; exact hZv) (Nat.zero_le _))
  generalize hh2 : (h1.push (seqObj "list" vs.toArray 0)).update h1.objs.size (Obj.mapSeq fun _ => (#[] : Array Value)) = h2
  obtain ⟨e1, ho2⟩ : ∃ e1, h2.get? h1.objs.size = some (seqObj "list" #[] e1) := by
   rw [← hh2]
   exact ⟨_, get?_update_seq hoL fun _ => #[]⟩
  have z2 : h2.objs.size = h1.objs.size + 1 := by rw [← hh2, Heap.size_update, size_push']
  have k2 : ∀ b o, s.heap.get? b = some o → h2.get? b = some o := fun b o e => by
   have hlt : b < s.heap.objs.size := Heap.lt_size e
   have hlt1 : b < h1.objs.size := by rw [z1]; exact Nat.lt_succ_of_lt hlt
   rw [← hh2, Heap.get?_update_ne _ _ _ _ (Nat.ne_of_lt hlt1), Heap.get?_push_ne _ _ _ (Nat.ne_of_lt hlt1)]
   exact k1 b o e
  refine wpAny_bind (seqEpoch_at ho2 rfl ?_)
  refine wpAny_bind (wpAny_newTuple ?_ hZv)
  refine wpAny_bind (wpAny_newList ?_ (Nat.zero_le _))
  refine wpAny_holding ?_
  have I1 : Inv X pins σ (upd H h1.objs.size (.lst [])) { s with heap := h2.push (seqObj "tuple" vs.toArray 0) } :=
   I.laid (t' := s.toks) (fun b o e => Heap.get?_push_of_some _ (k2 b o e)) (by omega) ⟨Nat.zero_le _, [], e1, .nil, Heap.get?_push_of_some _ ho2⟩
  have hn := I1.nofrz upd_same True.intro
  obtain ⟨od, I2⟩ := I1.lock upd_same True.intro
  have hod : od = seqObj "list" #[] e1 := by
   have e2 := (I2.hok h1.objs.size _ upd_same).1
   have e3 : (h2.push (seqObj "tuple" vs.toArray 0)).get? h1.objs.size = some (seqObj "list" #[] e1) := Heap.get?_push_of_some _ ho2
   exact Option.some.inj (e2.symm.trans e3)
  subst hod
  have hfr : H h1.objs.size = none := I.hok.fresh (by omega)
  have I3 := I2.lnew (its := []) (ys := []) (t' := s.toks) .nil (Nat.zero_le _)
  have hk0 : H (h2.push (seqObj "tuple" vs.toArray 0)).objs.size = none := I.hok.fresh (by rw [size_push']; omega)
  have hne2 : (h2.push (seqObj "tuple" vs.toArray 0)).objs.size ≠ h1.objs.size := by rw [size_push']; omega
  have s1 : Same H (upd (upd H h1.objs.size (.lst [])) h1.objs.size (.frz (seqObj "list" #[] e1) (.lst []))) := same_over (same_fresh hfr) hfr
  refine sb_rest (H0 := H) (s := { s with heap := (h2.push (seqObj "tuple" vs.toArray 0)).push (seqObj "list" #[] 0) }) (kS := (h2.push (seqObj "tuple" vs.toArray 0)).objs.size) rfl F hr.in1.in1 hb I3 (same_over s1 hk0) ?_ upd_same hfr hk0 hn hv hlen hne hZ hsp fun s' H' ys I' hs' hD' hsb => ?_
  ·show upd _ _ _ h1.objs.size = _
   rw [upd_ne (Ne.symm hne2)]
   exact upd_same
  ·exact ⟨_, rfl, wpAny_pure ⟨_, rfl, .ref h1.objs.size, H', I', rfl, q H' h1.objs.size ys hs' hfr hD' hsb⟩⟩
def tSortedBy (K : PySem.W.Frag) (sp : Sp) (te : TE) : TE := fun σ H Q => te σ H fun x H1 => rSortedBy K sp x H1 Q
theorem pe_sortedBy {k : Nat} {f : Addr} {fd : FuncData} {pn : List Str} {sp : Sp} {e : Expr} {te : TE} {p p2 kpos pos : Pos} {g : Str} (hc : X.calm = true) (F : FnOk X.prog X.w X.K X.mg X.base CX0 k f fd pn sp) (hr : Room (k + 2) X.A) (hb : Binds X.K fd pn [])
  (hg : Gl X "sorted") (hm : X.mg "sorted" = none) (hgf : Gl X g) (hmf : X.mg g = some (.ref f)) (he : PE X e te) (hdb : (g == ("__debug__" : Str)) = false := by decide) (hs : starEach [e] X.env = [(false, eval e X.env)] := by rfl) :
  PE X (.Call (.Name "sorted" p) [e] [⟨some "key", .Name g p2, kpos⟩] pos) (tSortedBy X.K sp te) := by
 intro pins s σ H Q I h
 refine wpAny_Call_Name_kw (ld_blt I hg hm bt_sorted ?_ (by decide) (by decide))
 have ha : PA X [e] (tCons te tNil) := pa_cons he pa_nil hs
 have hkw : PK X [⟨some "key", .Name g p2, kpos⟩] (tCons (tC (.ref f)) tNil) := pk_cons (pe_glob hgf hmf rfl hdb) pk_nil
 refine PyProof.Rows.callWith_kw (thn (ha pos pins s σ H (fun vs H1 => ∃ x, vs = [x] ∧ rSortedBy X.K sp x H1 Q) I ?_) fun us s1 ⟨vs, H1, I1, r, x, ev, q⟩ => ?_) (by rw [hs]; rfl) (by rw [hs]; rfl)
 ·show te σ H fun x H1 => ∃ y, [x] = [y] ∧ rSortedBy X.K sp y H1 Q
  have hmono : (fun x H1 => rSortedBy X.K sp x H1 Q) = (fun x H1 => ∃ y, [x] = [y] ∧ rSortedBy X.K sp y H1 Q) := by
   funext x H1
   apply propext
   constructor
   ·exact fun q => ⟨x, rfl, q⟩
   ·rintro ⟨y, e, q⟩
    cases e
    exact q
  rw [← hmono]
  exact h
 ·subst ev
  obtain ⟨u, rfl, ru⟩ := vals1 r
  refine thn (hkw pos pins s1 σ H1 (fun zs H2 => zs = [.ref f] ∧ H2 = H1) I1 ⟨rfl, rfl⟩) fun ws s2 ⟨zs, H2, I2, rz, ez, eh⟩ => ?_
  subst ez eh
  obtain ⟨u2, rfl, ru2⟩ := vals1 rz
  cases ru2
  exact sb_call hc F hr hb I2 ru q
end
end L2
end
section
namespace L2
open PySem PySem.Spec PyProof.Rows
section
variable {X : Cx} {K : PySem.W.Frag}
theorem pe_fldK {e : Expr} {f : Str} {pos : Pos} {ta : TE} (hK : X.K = K) (he : PE X e ta) (hb : attributeBase e f X.env (eval e X.env) = eval e X.env) : PE X (.Attribute e f pos) (tFld K ta f) := by
 subst hK
 exact pe_fld he hb
theorem slK (hK : X.K = K) : SlR X (rSlL K) := by
 subst hK
 exact sl_list
theorem ixK (hK : X.K = K) : IxR X (rIxL K) := by
 subst hK
 exact ix_list
def rLenSeq (K : PySem.W.Frag) : List V → Hp → VK → Prop := fun xs H Q => ∃ p ys, xs = [.ref p] ∧ (SqL K H p ys ∨ SqT K H p ys) ∧ Q (.int ys.length) H
theorem lenK (hK : X.K = K) : CallR X (.builtin "len") (rLenSeq K) := by
 subst hK
 exact call_len_seq
theorem pg_tupK {es : List Expr} {k : Nat} {t : TGs} {n : Nat} {pos : Pos} (hK : X.K = K) (hc : X.calm = true) (h : PGs X es t) (hn : (assignEach es X.env).length = n := by rfl) (hst : (assignEach es X.env).findIdx? (·.1) = none := by rfl) : PG X (.Tuple es k pos) (gTup K n t) := by
 subst hK
 exact pg_tup hc h hn hst
theorem pt_truthK {a : Expr} {ta : TE} (hK : X.K = K) (ha : PE X a ta) (he : ∀ whole, isTrue a X.env whole = (do let v ← whole; standAt a.pos; holding [v] (truthy v))) : PT X a (fun σ H Q => ta σ H fun x H' => ∃ k, TruV K x H' k ∧ Q k H') := by
 subst hK
 exact pt_truth ha he
end
end L2
end
section
namespace L2
open PySem PySem.Spec PyProof.Rows
section
variable {prog : Program} {w : World} {κ : Type} [DecidableEq κ] {knd : HeapKind prog w κ} {A : Around} {E : Value → Shared → Prop} {s : Shared}
def withoutH (xs : List (κ × Addr × Value)) (k : κ) : List (κ × Addr × Value) := xs.filter fun x => decide (x.1 ≠ k)
theorem withoutH_no {xs : List (κ × Addr × Value)} {k : κ} (h : k ∉ xs.map (·.1)) : withoutH xs k = xs := by
 unfold withoutH
 rw [List.filter_eq_self]
 intro x hx
 exact decide_eq_true fun e => h (List.mem_map.mpr ⟨x, hx, e⟩)
theorem erase_withoutH {β : Type} (f : κ × Addr × Value → β) : ∀ {xs : List (κ × Addr × Value)} {j : Nat} {k : κ} {p : Addr × Value}, (xs.map (·.1)).Nodup → xs[j]? = some (k, p) → (xs.map f).eraseIdx j = (withoutH xs k).map f
 | [], j, k, p, _, h => by simp at h
 | x :: xs, 0, k, p, hn, h => by
  simp only [List.getElem?_cons_zero, Option.some.injEq] at h
  subst h
  rw [List.map_cons, List.nodup_cons] at hn
  have e : withoutH ((k, p) :: xs) k = withoutH xs k := by
   unfold withoutH
   rw [List.filter_cons]
   simp
  rw [e, withoutH_no hn.1]
  rfl
 | x :: xs, j + 1, k, p, hn, h => by
  simp only [List.getElem?_cons_succ] at h
  rw [List.map_cons, List.nodup_cons] at hn
  have hmem : k ∈ xs.map (·.1) := List.mem_map.mpr ⟨(k, p), List.mem_of_getElem? h, rfl⟩
  have hne : x.1 ≠ k := fun e => hn.1 (e ▸ hmem)
  have e : withoutH (x :: xs) k = x :: withoutH xs k := by
   unfold withoutH
   rw [List.filter_cons, if_pos (decide_eq_true hne)]
  rw [e, List.map_cons, List.map_cons, List.eraseIdx_cons_succ, erase_withoutH f hn.2 h]
theorem takeOut_heap {d a : Addr} {xs : List (κ × Addr × Value)} {k : κ} {p : Addr × Value} {Q : Option DictEntry → Shared → Prop} (hu : knd.room A) (hkey : knd.is s.heap k a) (hm : s.heap.DictOfH knd d xs) (hp : atKey xs k = some p) (hsz : xs.length ≤ sizeLine)
  (hsome : ∀ h', h'.DictOfH knd d (withoutH xs k) → Heap.SameBut d s.heap h' → Q (some ⟨knd.hash k, .ref p.1, p.2⟩) { s with heap := h', toks := s.toks + knd.draws k }) : wpAny (model prog w) A (Builtin.Dict.takeOut d (.ref a)) Q E s := by
 obtain ⟨o, es, ep, ho, hc, hd, he, his, hn⟩ := hm
 have hes : es.size ≤ sizeLine := by rw [size_of_entries he]; exact hsz
 unfold Builtin.Dict.takeOut
 try with_reducible refine wpAny_holding ?_
 refine wpAny_bind (knd.pyHash hu hkey ?_)
 refine wpAny_bind (wpAny_dictFind_heap (s := { s with toks := s.toks + knd.draws k }) hu hkey ho hd he his hn ?_ ?_)
 ·intro hno
  rw [atKey_none_of_get hno] at hp
  cases hp
 ·intro j q hj
  have hq : q = p := by
   have := atKey_of_get hn hj
   rw [hp] at this
   exact (Option.some.inj this).symm
  subst hq
  refine wpAny_bind (wpAny_dictEntries (s := { s with toks := s.toks + knd.draws k }) ho hd ?_)
  have he' : es[j]? = some (entryOfKey knd (k, q)) := by rw [entry_at he j, hj]; rfl
  rw [he']
  refine wpAny_bind (wpAny_updateDictKeys (hz := hes) (s := { s with toks := s.toks + knd.draws k }) ho hd (wpAny_pure (hsome _ ⟨_, _, ep + 1, Heap.get?_update_self _ ho (Obj.isFreed_of_dict (Obj.data_mapDictKeys hd _)),
   hc.mapDictKeys _, Obj.data_mapDictKeys hd _, ?_, ?_, ?_⟩ (Heap.SameBut.update ..))))
  ·have := erase_withoutH (entryOfKey knd) hn hj
   rw [← he] at this
   obtain ⟨l⟩ := es
   simpa using this
  ·intro x hx
   exact knd.keeps (his x (List.mem_filter.mp hx).1) ho hd (Heap.SameBut.update ..)
  ·exact List.Nodup.sublist (List.Sublist.map _ List.filter_sublist) hn
theorem meets_popH (d a : Addr) : MeetsIn prog w (Builtin.«dict.pop» ⟨[.ref d, .ref a], []⟩) (fun A R s => knd.room A.in1 ∧ ∃ k xs p, knd.is s.heap k a ∧ s.heap.DictOfH knd d xs ∧ xs.length ≤ sizeLine ∧ atKey xs k = some p ∧
  ∀ h', h'.DictOfH knd d (withoutH xs k) → Heap.SameBut d s.heap h' → R (.ok (.ret p.2)) { s with heap := h', toks := s.toks + knd.draws k }) :=
 .of_wp fun A R s ⟨hu, k, xs, p, hkey, hm, hsz, hp, h⟩ => by
  obtain ⟨o, es, ep, ho, hc, hd, he, his, hn⟩ := id hm
  unfold Builtin.«dict.pop»
  refine wpAny_bind ?_
  unfold Builtin.Dict.keyAndDefault
  refine wpAny_bind (wpAny_notOrdered_dict hm.typeIs ?_)
  show wpAny _ _ (pure (d, Value.ref a, none)) _ _ s
  refine wpAny_pure ?_
  have hkp : (keyPart (Value.ref a)).isSome = false := rfl
  have hne : es.isEmpty = false := by
   cases hx : xs with
   | nil => rw [hx] at hp; cases hp
   | cons x r =>
    have := size_of_entries he
    rw [hx, List.length_cons] at this
    rw [Array.isEmpty_eq_false_iff]
    intro q
    rw [q] at this
    simp at this
  simp only [hkp, Bool.false_eq_true, if_false]
  refine wpAny_bind (wpAny_dictEntries ho hd (wpAny_bind (wpAny_pure ?_)))
  rw [hne]
  simp only [Bool.false_eq_true, if_false]
  refine wpAny_bind (takeOut_heap hu hkey hm hp hsz fun h' hm' hs' => ?_)
  simp only [Option.isNone_some, Bool.false_eq_true, if_false]
  exact wpAny_bind (wpAny_letGo (wpAny_pure ⟨p.2, rfl, h h' hm' hs'⟩))
end
theorem KT.drop {H : Hp} {kvs : List (List Key × V)} {xs : List (List Key × Addr × Value)} (r : KT H kvs xs) (k : List Key) : KT H (dropK kvs k) (withoutH xs k) := by
 induction r with
 | nil => exact .nil
 | @cons p q ps qs h t ih =>
  obtain ⟨h1, h2, h3⟩ := h
  unfold dropK withoutH at ih ⊢
  rw [List.filter_cons, List.filter_cons]
  by_cases e : p.1 = k
  ·rw [if_neg (by simp [e]), if_neg (by simp [← h1, e])]
   exact ih
  ·rw [if_pos (by simp [e]), if_pos (by simp [← h1, e])]
   exact .cons ⟨h1, h2, h3⟩ ih
section
variable {X : Cx}
theorem d_popT {pins : List (Addr × Obj)} {σ : St} {H : Hp} {s : Shared} {a b : Addr} {kvs : List (List Key × V)} {k : List Key} {A : Around} {E : Value → Shared → Prop} {v : V} {Q : Value → Shared → Prop} (hu : A.units + 1 < cLine) (I : Inv X pins σ H s) (e : H a = some (.dT kvs)) (eb : H b = some (.tup (k.map kV))) (l : valV kvs k = some v)
  (h : ∀ w' s', Inv X pins σ (upd H a (.dT (dropK kvs k))) s' → RelV v w' → Q w' s') : wpAny (model X.prog X.w) A (call (.builtin "dict.pop") [.ref a, .ref b]) Q E s := by
 obtain ⟨z, hd, xs, rel, dd⟩ := dt_of I.hok e
 obtain ⟨w', hw, rw'⟩ := RelO.some_of (v := v) (o := (atKey xs k).map (·.2)) (by rw [← l]; exact rel.val k)
 obtain ⟨p, hp, hp2⟩ := Option.map_eq_some_iff.mp hw
 have hz : xs.length ≤ sizeLine := by rw [← Paired.length rel]; exact z
 refine call_meetsIn PySem.F.slot_dict_pop dd.typeIs PySem.F.entry_dict_pop (PySem.F.args_dict_pop_2 _ _) (meets_popH (knd := tupleKind (mixKind X.prog X.w)) a b)
  ⟨tupleKind_room_in1 hu, k, xs, p, key_of I.hok eb, dd, hz, hp, fun h' dd' hs => h p.2 _ ?_ (by rw [hp2]; exact rw')⟩
 obtain ⟨q, es, ep, hq, h2, h3, h4, _, h5⟩ := dd'
 refine d_write I (by rw [e]; exact True.intro) hs ⟨q, hq⟩ ⟨Nat.le_trans (dropK_le kvs k) z, hd, _, (KT.drop rel k).keeps fun c ys ec => ?_, q, es, ep, hq, h2, h3, h4, h5⟩
 rw [upd_ne (ne_of ec e (fun z => nomatch z))]
 exact ec
def tDPopT (td ty : TE) : TE := fun σ H Q => td σ H fun x H1 => ∃ a, x = .ref a ∧ IsD H1 a ∧ ty σ H1 fun y H2 => ∃ kvs k b v, H2 a = some (.dT kvs) ∧ y = .ref b ∧ H2 b = some (.tup (k.map kV)) ∧ valV kvs k = some v ∧ Q v (upd H2 a (.dT (dropK kvs k)))
theorem pe_dpopT {o e : Expr} {apos cpos : Pos} {td ty : TE} (hu : X.A.units + 1 < cLine) (ho : PE X o td) (he : PE X e ty) (m : M1 X o "pop" apos e cpos) : PE X (.Call (.Attribute o "pop" apos) [e] [] cpos) (tDPopT td ty) := by
 intro pins s σ H Q I h
 refine wpAny_Call_method m.base m.few m.line PySem.F.plainAttrs_dict PySem.F.slot_dict_pop PySem.F.type_dict_pop (thn (ho pins s σ H _ I h) fun u s1 ⟨x, H1, I1, rx, a, ex, d, q1⟩ => ?_)
 subst ex
 obtain rfl : u = Value.ref a := rx
 obtain ⟨t1, t2, _⟩ := isD_at I1 d
 refine ⟨t1, t2, ?_⟩
 rw [m.trees]
 refine Calls.callWith_builtin rfl (Calls.evalArgs_plain (Calls.spliced_cons (thn (he pins s1 σ H1 _ I1 q1) fun iv s2 ⟨y, H2, I2, ry, kvs, k, b, v, ea, ey, eb, l, q2⟩ => Calls.spliced_nil ?_)))
 subst ey
 obtain rfl : iv = Value.ref b := ry
 exact d_popT hu I2 ea eb l fun w' s3 I3 rw' => ⟨v, _, I3, rw', q2⟩
end
structure FunD (K : PySem.W.Frag) (x qual : Str) (st : Stmt) (f : Addr) (fd : FuncData) : Prop where
 ex : ∃ (oc dV : Value) (od : Option Addr) (kV doc pm : Value) (an : Option Addr) (cdv ct : Value) (osl : Array (Option Value)),
  fd = PySem.W.fnOf x qual (defArgs st) (defBody st) (defScope st) dV kV doc pm an cdv ct ∧ K.lookup f = some ⟨oc, od, .func fd, osl⟩ ∧ PySem.W.codeIn K cdv qual = true
theorem FunD.ok {P : Program} {w : World} {K : PySem.W.Frag} {mg : Str → Option Value} {base : Heap} {x qual : Str} {st : Stmt} {f : Addr} {fd : FuncData} {N ps : List Str} {k : Nat} {sp : Sp} (F : FunD K x qual st f fd) (S : FnScope N ps (defScope st)) (len : ∀ vs H Q E, sp vs H Q E → vs.length = ps.length)
  (hbody : ∀ (cdv : Value) (A : Around) (outer : List Env) (s : Shared) (H : Hp) (vs : List V) (Q : VK) (E : XK), Room k (A.deeper (envOfC qual (defScope st) s.heap.objs.size f cdv)) → sp vs H Q E →
   ∃ t, PSs (cxOf CX0 P w K mg base N qual (defScope st) f cdv A outer s H E).nox (defBody st) t ∧ t { nx := fun _ H' => Q .non H', rt := Q } (start N vs) H) : FnOk P w K mg base CX0 (k + 1) f fd ps sp := by
 obtain ⟨oc, dV, od, kV, doc, pm, an, cdv, ct, osl, rfl, lk, hcd⟩ := F.ex
 refine fn_of lk hcd S len fun A outer s H vs Q E hr hsp => ?_
 obtain ⟨t, h, q⟩ := hbody cdv A outer s H vs Q E hr hsp
 exact ⟨t, h.nox, q⟩
end L2
end
section
namespace Pp
open PySem PySem.Spec PyProof.Rows L2
def top (i : Nat) : Stmt := PySem.Challenge.pw_parcelpasses_s01_answers.main.body.getD i (.Pass ⟨0, 0, 0, 0⟩)
abbrev s_Parcel_init : Stmt := inClass (top 2) 0
abbrev s_Parcel_waits_at : Stmt := inClass (top 2) 1
abbrev s_key_of : Stmt := top 3
abbrev s_rank : Stmt := top 4
abbrev s_in_order : Stmt := top 5
abbrev s_Pass_init : Stmt := inClass (top 14) 0
abbrev s_Pass_joins : Stmt := inClass (top 14) 1
abbrev s_Pass_other_end : Stmt := inClass (top 14) 2
abbrev s_Pass_is_open_at : Stmt := inClass (top 14) 3
abbrev s_Pass_soonest_sending : Stmt := inClass (top 14) 4
abbrev s_Plan_init : Stmt := inClass (top 15) 0
abbrev s_Plan_has_node : Stmt := inClass (top 15) 1
abbrev s_passes_at : Stmt := top 16
abbrev s_split_passes : Stmt := top 17
abbrev s_is_pass : Stmt := top 18
abbrev s_is_plan : Stmt := top 19
abbrev s_plan_of : Stmt := top 20
abbrev s_Kept_init : Stmt := inClass (top 27) 0
abbrev s_four_bytes : Stmt := top 28
abbrev s_number_at : Stmt := top 29
abbrev s_parcel_message : Stmt := top 30
abbrev s_kept_message : Stmt := top 31
abbrev s_parcel_from : Stmt := top 32
abbrev s_has_parcel_size : Stmt := top 33
abbrev s_is_parcel : Stmt := top 34
abbrev s_kept_from : Stmt := top 35
abbrev s_is_count : Stmt := top 36
abbrev s_Way_init : Stmt := inClass (top 38) 0
abbrev s_ways_from : Stmt := top 39
abbrev s_sooner_by_one_more : Stmt := top 40
abbrev s_Node_init : Stmt := inClass (top 50) 0
abbrev s_Node_put : Stmt := inClass (top 50) 1
abbrev s_Node_may_go : Stmt := inClass (top 50) 2
abbrev s_Node_tick : Stmt := inClass (top 50) 3
abbrev s_Node_drop_ended : Stmt := inClass (top 50) 4
abbrev s_Node_send_all : Stmt := inClass (top 50) 5
abbrev s_Node_send_by : Stmt := inClass (top 50) 6
abbrev s_Node_hear : Stmt := inClass (top 50) 7
abbrev s_Node_own_pass : Stmt := inClass (top 50) 8
abbrev s_Node_hear_parcel : Stmt := inClass (top 50) 9
abbrev s_Node_take_in : Stmt := inClass (top 50) 10
abbrev s_Node_take_as_arrived : Stmt := inClass (top 50) 11
abbrev s_Node_take_to_hold : Stmt := inClass (top 50) 12
abbrev s_Node_hear_kept : Stmt := inClass (top 50) 13
abbrev s_Node_read : Stmt := inClass (top 50) 14
abbrev s_Node_state : Stmt := inClass (top 50) 15
abbrev s_told_by : Stmt := top 51
abbrev s_first_to_go_by : Stmt := top 52
abbrev s_Line_init : Stmt := inClass (top 61) 0
abbrev s_Line_has_more : Stmt := inClass (top 61) 1
abbrev s_Line_take_number : Stmt := inClass (top 61) 2
abbrev s_Line_take_row : Stmt := inClass (top 61) 3
abbrev s_Line_answer_call : Stmt := inClass (top 61) 4
abbrev s_Line_answer_start : Stmt := inClass (top 61) 5
abbrev s_Line_answer_put : Stmt := inClass (top 61) 6
abbrev s_Line_answer_heard : Stmt := inClass (top 61) 7
abbrev s_answers : Stmt := top 62
structure Adr where
 c_Parcel : Addr
 c_Pass : Addr
 c_Plan : Addr
 c_Kept : Addr
 c_Way : Addr
 c_Node : Addr
 c_UnknownCall : Addr
 c_Line : Addr
 f_Parcel_init : Addr
 d_Parcel_init : FuncData
 f_Parcel_waits_at : Addr
 d_Parcel_waits_at : FuncData
 f_key_of : Addr
 d_key_of : FuncData
 f_rank : Addr
 d_rank : FuncData
 f_in_order : Addr
 d_in_order : FuncData
 f_Pass_init : Addr
 d_Pass_init : FuncData
 f_Pass_joins : Addr
 d_Pass_joins : FuncData
 f_Pass_other_end : Addr
 d_Pass_other_end : FuncData
 f_Pass_is_open_at : Addr
 d_Pass_is_open_at : FuncData
 f_Pass_soonest_sending : Addr
 d_Pass_soonest_sending : FuncData
 f_Plan_init : Addr
 d_Plan_init : FuncData
 f_Plan_has_node : Addr
 d_Plan_has_node : FuncData
 f_passes_at : Addr
 d_passes_at : FuncData
 f_split_passes : Addr
 d_split_passes : FuncData
 f_is_pass : Addr
 d_is_pass : FuncData
 f_is_plan : Addr
 d_is_plan : FuncData
 f_plan_of : Addr
 d_plan_of : FuncData
 f_Kept_init : Addr
 d_Kept_init : FuncData
 f_four_bytes : Addr
 d_four_bytes : FuncData
 f_number_at : Addr
 d_number_at : FuncData
 f_parcel_message : Addr
 d_parcel_message : FuncData
 f_kept_message : Addr
 d_kept_message : FuncData
 f_parcel_from : Addr
 d_parcel_from : FuncData
 f_has_parcel_size : Addr
 d_has_parcel_size : FuncData
 f_is_parcel : Addr
 d_is_parcel : FuncData
 f_kept_from : Addr
 d_kept_from : FuncData
 f_is_count : Addr
 d_is_count : FuncData
 f_Way_init : Addr
 d_Way_init : FuncData
 f_ways_from : Addr
 d_ways_from : FuncData
 f_sooner_by_one_more : Addr
 d_sooner_by_one_more : FuncData
 f_Node_init : Addr
 d_Node_init : FuncData
 f_Node_put : Addr
 d_Node_put : FuncData
 f_Node_may_go : Addr
 d_Node_may_go : FuncData
 f_Node_tick : Addr
 d_Node_tick : FuncData
 f_Node_drop_ended : Addr
 d_Node_drop_ended : FuncData
 f_Node_send_all : Addr
 d_Node_send_all : FuncData
 f_Node_send_by : Addr
 d_Node_send_by : FuncData
 f_Node_hear : Addr
 d_Node_hear : FuncData
 f_Node_own_pass : Addr
 d_Node_own_pass : FuncData
 f_Node_hear_parcel : Addr
 d_Node_hear_parcel : FuncData
 f_Node_take_in : Addr
 d_Node_take_in : FuncData
 f_Node_take_as_arrived : Addr
 d_Node_take_as_arrived : FuncData
 f_Node_take_to_hold : Addr
 d_Node_take_to_hold : FuncData
 f_Node_hear_kept : Addr
 d_Node_hear_kept : FuncData
 f_Node_read : Addr
 d_Node_read : FuncData
 f_Node_state : Addr
 d_Node_state : FuncData
 f_told_by : Addr
 d_told_by : FuncData
 f_first_to_go_by : Addr
 d_first_to_go_by : FuncData
 f_Line_init : Addr
 d_Line_init : FuncData
 f_Line_has_more : Addr
 d_Line_has_more : FuncData
 f_Line_take_number : Addr
 d_Line_take_number : FuncData
 f_Line_take_row : Addr
 d_Line_take_row : FuncData
 f_Line_answer_call : Addr
 d_Line_answer_call : FuncData
 f_Line_answer_start : Addr
 d_Line_answer_start : FuncData
 f_Line_answer_put : Addr
 d_Line_answer_put : FuncData
 f_Line_answer_heard : Addr
 d_Line_answer_heard : FuncData
 f_answers : Addr
 d_answers : FuncData
structure Tx (K : PySem.W.Frag) (mg : Str → Option Value) (t : Adr) : Prop where
 cl_Parcel : Cls K t.c_Parcel
 gC_Parcel : mg "Parcel" = some (.ref t.c_Parcel)
 mk_Parcel : Mk K t.c_Parcel t.f_Parcel_init
 na_Parcel_source : NoAttr K t.c_Parcel "source"
 na_Parcel_number : NoAttr K t.c_Parcel "number"
 na_Parcel_to : NoAttr K t.c_Parcel "to"
 na_Parcel_end : NoAttr K t.c_Parcel "end"
 na_Parcel_data : NoAttr K t.c_Parcel "data"
 na_Parcel_leg : NoAttr K t.c_Parcel "leg"
 na_Parcel_waits_till : NoAttr K t.c_Parcel "waits_till"
 cl_Pass : Cls K t.c_Pass
 gC_Pass : mg "Pass" = some (.ref t.c_Pass)
 mk_Pass : Mk K t.c_Pass t.f_Pass_init
 na_Pass_number : NoAttr K t.c_Pass "number"
 na_Pass_a : NoAttr K t.c_Pass "a"
 na_Pass_b : NoAttr K t.c_Pass "b"
 na_Pass_takes : NoAttr K t.c_Pass "takes"
 na_Pass_begins : NoAttr K t.c_Pass "begins"
 na_Pass_ends : NoAttr K t.c_Pass "ends"
 cl_Plan : Cls K t.c_Plan
 gC_Plan : mg "Plan" = some (.ref t.c_Plan)
 mk_Plan : Mk K t.c_Plan t.f_Plan_init
 na_Plan_node_count : NoAttr K t.c_Plan "node_count"
 na_Plan_passes : NoAttr K t.c_Plan "passes"
 na_Plan_passes_of : NoAttr K t.c_Plan "passes_of"
 cl_Kept : Cls K t.c_Kept
 gC_Kept : mg "Kept" = some (.ref t.c_Kept)
 mk_Kept : Mk K t.c_Kept t.f_Kept_init
 na_Kept_source : NoAttr K t.c_Kept "source"
 na_Kept_number : NoAttr K t.c_Kept "number"
 na_Kept_leg : NoAttr K t.c_Kept "leg"
 cl_Way : Cls K t.c_Way
 gC_Way : mg "Way" = some (.ref t.c_Way)
 mk_Way : Mk K t.c_Way t.f_Way_init
 na_Way_at : NoAttr K t.c_Way "at"
 na_Way_arrives : NoAttr K t.c_Way "arrives"
 na_Way_first : NoAttr K t.c_Way "first"
 cl_Node : Cls K t.c_Node
 gC_Node : mg "Node" = some (.ref t.c_Node)
 mk_Node : Mk K t.c_Node t.f_Node_init
 na_Node_plan : NoAttr K t.c_Node "plan"
 na_Node_me : NoAttr K t.c_Node "me"
 na_Node_time : NoAttr K t.c_Node "time"
 na_Node_own_count : NoAttr K t.c_Node "own_count"
 na_Node_held : NoAttr K t.c_Node "held"
 na_Node_arrived : NoAttr K t.c_Node "arrived"
 na_Node_known : NoAttr K t.c_Node "known"
 cl_Line : Cls K t.c_Line
 gC_Line : mg "Line" = some (.ref t.c_Line)
 mk_Line : Mk K t.c_Line t.f_Line_init
 na_Line_calls : NoAttr K t.c_Line "calls"
 na_Line_place : NoAttr K t.c_Line "place"
 na_Line_node : NoAttr K t.c_Line "node"
 fn_Parcel_init : FunD K "__init__" "Parcel.__init__" s_Parcel_init t.f_Parcel_init t.d_Parcel_init
 bi_Parcel_init : Binds K t.d_Parcel_init ["self", "source", "number", "to", "end", "data", "leg"] []
 bd_Parcel_init : ∃ u, Binds K t.d_Parcel_init ["self", "source", "number", "to", "end", "data", "leg"] [.int 0 u]
 me_Parcel_waits_at : Meth K t.c_Parcel "waits_at" t.f_Parcel_waits_at
 fn_Parcel_waits_at : Fun K "waits_at" "Parcel.waits_at" s_Parcel_waits_at t.f_Parcel_waits_at t.d_Parcel_waits_at
 bi_Parcel_waits_at : Binds K t.d_Parcel_waits_at ["self", "time"] []
 fn_key_of : Fun K "key_of" "key_of" s_key_of t.f_key_of t.d_key_of
 bi_key_of : Binds K t.d_key_of ["parcel"] []
 g_key_of : mg "key_of" = some (.ref t.f_key_of)
 kp_key_of : PySem.W.keepIn K (.ref t.f_key_of) = true
 fn_rank : Fun K "rank" "rank" s_rank t.f_rank t.d_rank
 bi_rank : Binds K t.d_rank ["parcel"] []
 g_rank : mg "rank" = some (.ref t.f_rank)
 kp_rank : PySem.W.keepIn K (.ref t.f_rank) = true
 fn_in_order : Fun K "in_order" "in_order" s_in_order t.f_in_order t.d_in_order
 bi_in_order : Binds K t.d_in_order ["parcels"] []
 g_in_order : mg "in_order" = some (.ref t.f_in_order)
 kp_in_order : PySem.W.keepIn K (.ref t.f_in_order) = true
 fn_Pass_init : Fun K "__init__" "Pass.__init__" s_Pass_init t.f_Pass_init t.d_Pass_init
 bi_Pass_init : Binds K t.d_Pass_init ["self", "number", "told"] []
 me_Pass_joins : Meth K t.c_Pass "joins" t.f_Pass_joins
 fn_Pass_joins : Fun K "joins" "Pass.joins" s_Pass_joins t.f_Pass_joins t.d_Pass_joins
 bi_Pass_joins : Binds K t.d_Pass_joins ["self", "node"] []
 me_Pass_other_end : Meth K t.c_Pass "other_end" t.f_Pass_other_end
 fn_Pass_other_end : Fun K "other_end" "Pass.other_end" s_Pass_other_end t.f_Pass_other_end t.d_Pass_other_end
 bi_Pass_other_end : Binds K t.d_Pass_other_end ["self", "node"] []
 me_Pass_is_open_at : Meth K t.c_Pass "is_open_at" t.f_Pass_is_open_at
 fn_Pass_is_open_at : Fun K "is_open_at" "Pass.is_open_at" s_Pass_is_open_at t.f_Pass_is_open_at t.d_Pass_is_open_at
 bi_Pass_is_open_at : Binds K t.d_Pass_is_open_at ["self", "time"] []
 me_Pass_soonest_sending : Meth K t.c_Pass "soonest_sending" t.f_Pass_soonest_sending
 fn_Pass_soonest_sending : Fun K "soonest_sending" "Pass.soonest_sending" s_Pass_soonest_sending t.f_Pass_soonest_sending t.d_Pass_soonest_sending
 bi_Pass_soonest_sending : Binds K t.d_Pass_soonest_sending ["self", "time"] []
 fn_Plan_init : Fun K "__init__" "Plan.__init__" s_Plan_init t.f_Plan_init t.d_Plan_init
 bi_Plan_init : Binds K t.d_Plan_init ["self", "node_count", "passes"] []
 me_Plan_has_node : Meth K t.c_Plan "has_node" t.f_Plan_has_node
 fn_Plan_has_node : Fun K "has_node" "Plan.has_node" s_Plan_has_node t.f_Plan_has_node t.d_Plan_has_node
 bi_Plan_has_node : Binds K t.d_Plan_has_node ["self", "node"] []
 fn_passes_at : Fun K "passes_at" "passes_at" s_passes_at t.f_passes_at t.d_passes_at
 bi_passes_at : Binds K t.d_passes_at ["passes", "node"] []
 g_passes_at : mg "passes_at" = some (.ref t.f_passes_at)
 kp_passes_at : PySem.W.keepIn K (.ref t.f_passes_at) = true
 fn_split_passes : Fun K "split_passes" "split_passes" s_split_passes t.f_split_passes t.d_split_passes
 bi_split_passes : Binds K t.d_split_passes ["numbers"] []
 g_split_passes : mg "split_passes" = some (.ref t.f_split_passes)
 kp_split_passes : PySem.W.keepIn K (.ref t.f_split_passes) = true
 fn_is_pass : Fun K "is_pass" "is_pass" s_is_pass t.f_is_pass t.d_is_pass
 bi_is_pass : Binds K t.d_is_pass ["node_count", "told"] []
 g_is_pass : mg "is_pass" = some (.ref t.f_is_pass)
 kp_is_pass : PySem.W.keepIn K (.ref t.f_is_pass) = true
 fn_is_plan : Fun K "is_plan" "is_plan" s_is_plan t.f_is_plan t.d_is_plan
 bi_is_plan : Binds K t.d_is_plan ["node_count", "passes_told"] []
 g_is_plan : mg "is_plan" = some (.ref t.f_is_plan)
 kp_is_plan : PySem.W.keepIn K (.ref t.f_is_plan) = true
 fn_plan_of : Fun K "plan_of" "plan_of" s_plan_of t.f_plan_of t.d_plan_of
 bi_plan_of : Binds K t.d_plan_of ["node_count", "numbers"] []
 g_plan_of : mg "plan_of" = some (.ref t.f_plan_of)
 kp_plan_of : PySem.W.keepIn K (.ref t.f_plan_of) = true
 fn_Kept_init : Fun K "__init__" "Kept.__init__" s_Kept_init t.f_Kept_init t.d_Kept_init
 bi_Kept_init : Binds K t.d_Kept_init ["self", "source", "number", "leg"] []
 fn_four_bytes : Fun K "four_bytes" "four_bytes" s_four_bytes t.f_four_bytes t.d_four_bytes
 bi_four_bytes : Binds K t.d_four_bytes ["number"] []
 g_four_bytes : mg "four_bytes" = some (.ref t.f_four_bytes)
 kp_four_bytes : PySem.W.keepIn K (.ref t.f_four_bytes) = true
 fn_number_at : Fun K "number_at" "number_at" s_number_at t.f_number_at t.d_number_at
 bi_number_at : Binds K t.d_number_at ["message", "place"] []
 g_number_at : mg "number_at" = some (.ref t.f_number_at)
 kp_number_at : PySem.W.keepIn K (.ref t.f_number_at) = true
 fn_parcel_message : Fun K "parcel_message" "parcel_message" s_parcel_message t.f_parcel_message t.d_parcel_message
 bi_parcel_message : Binds K t.d_parcel_message ["parcel", "leg"] []
 g_parcel_message : mg "parcel_message" = some (.ref t.f_parcel_message)
 kp_parcel_message : PySem.W.keepIn K (.ref t.f_parcel_message) = true
 fn_kept_message : Fun K "kept_message" "kept_message" s_kept_message t.f_kept_message t.d_kept_message
 bi_kept_message : Binds K t.d_kept_message ["parcel"] []
 g_kept_message : mg "kept_message" = some (.ref t.f_kept_message)
 kp_kept_message : PySem.W.keepIn K (.ref t.f_kept_message) = true
 fn_parcel_from : Fun K "parcel_from" "parcel_from" s_parcel_from t.f_parcel_from t.d_parcel_from
 bi_parcel_from : Binds K t.d_parcel_from ["message", "plan"] []
 g_parcel_from : mg "parcel_from" = some (.ref t.f_parcel_from)
 kp_parcel_from : PySem.W.keepIn K (.ref t.f_parcel_from) = true
 fn_has_parcel_size : Fun K "has_parcel_size" "has_parcel_size" s_has_parcel_size t.f_has_parcel_size t.d_has_parcel_size
 bi_has_parcel_size : Binds K t.d_has_parcel_size ["message"] []
 g_has_parcel_size : mg "has_parcel_size" = some (.ref t.f_has_parcel_size)
 kp_has_parcel_size : PySem.W.keepIn K (.ref t.f_has_parcel_size) = true
 fn_is_parcel : Fun K "is_parcel" "is_parcel" s_is_parcel t.f_is_parcel t.d_is_parcel
 bi_is_parcel : Binds K t.d_is_parcel ["parcel", "plan"] []
 g_is_parcel : mg "is_parcel" = some (.ref t.f_is_parcel)
 kp_is_parcel : PySem.W.keepIn K (.ref t.f_is_parcel) = true
 fn_kept_from : Fun K "kept_from" "kept_from" s_kept_from t.f_kept_from t.d_kept_from
 bi_kept_from : Binds K t.d_kept_from ["message", "plan"] []
 g_kept_from : mg "kept_from" = some (.ref t.f_kept_from)
 kp_kept_from : PySem.W.keepIn K (.ref t.f_kept_from) = true
 fn_is_count : Fun K "is_count" "is_count" s_is_count t.f_is_count t.d_is_count
 bi_is_count : Binds K t.d_is_count ["number"] []
 g_is_count : mg "is_count" = some (.ref t.f_is_count)
 kp_is_count : PySem.W.keepIn K (.ref t.f_is_count) = true
 fn_Way_init : Fun K "__init__" "Way.__init__" s_Way_init t.f_Way_init t.d_Way_init
 bi_Way_init : Binds K t.d_Way_init ["self", "at", "arrives", "first"] []
 fn_ways_from : Fun K "ways_from" "ways_from" s_ways_from t.f_ways_from t.d_ways_from
 bi_ways_from : Binds K t.d_ways_from ["plan", "node", "time"] []
 g_ways_from : mg "ways_from" = some (.ref t.f_ways_from)
 kp_ways_from : PySem.W.keepIn K (.ref t.f_ways_from) = true
 fn_sooner_by_one_more : Fun K "sooner_by_one_more" "sooner_by_one_more" s_sooner_by_one_more t.f_sooner_by_one_more t.d_sooner_by_one_more
 bi_sooner_by_one_more : Binds K t.d_sooner_by_one_more ["plan", "ways", "best"] []
 g_sooner_by_one_more : mg "sooner_by_one_more" = some (.ref t.f_sooner_by_one_more)
 kp_sooner_by_one_more : PySem.W.keepIn K (.ref t.f_sooner_by_one_more) = true
 fn_Node_init : Fun K "__init__" "Node.__init__" s_Node_init t.f_Node_init t.d_Node_init
 bi_Node_init : Binds K t.d_Node_init ["self", "plan", "me"] []
 me_Node_put : Meth K t.c_Node "put" t.f_Node_put
 fn_Node_put : Fun K "put" "Node.put" s_Node_put t.f_Node_put t.d_Node_put
 bi_Node_put : Binds K t.d_Node_put ["self", "to", "end", "data"] []
 me_Node_may_go : Meth K t.c_Node "may_go" t.f_Node_may_go
 fn_Node_may_go : Fun K "may_go" "Node.may_go" s_Node_may_go t.f_Node_may_go t.d_Node_may_go
 bi_Node_may_go : Binds K t.d_Node_may_go ["self", "to", "end", "data"] []
 me_Node_tick : Meth K t.c_Node "tick" t.f_Node_tick
 fn_Node_tick : Fun K "tick" "Node.tick" s_Node_tick t.f_Node_tick t.d_Node_tick
 bi_Node_tick : Binds K t.d_Node_tick ["self"] []
 me_Node_drop_ended : Meth K t.c_Node "drop_ended" t.f_Node_drop_ended
 fn_Node_drop_ended : Fun K "drop_ended" "Node.drop_ended" s_Node_drop_ended t.f_Node_drop_ended t.d_Node_drop_ended
 bi_Node_drop_ended : Binds K t.d_Node_drop_ended ["self"] []
 me_Node_send_all : Meth K t.c_Node "send_all" t.f_Node_send_all
 fn_Node_send_all : Fun K "send_all" "Node.send_all" s_Node_send_all t.f_Node_send_all t.d_Node_send_all
 bi_Node_send_all : Binds K t.d_Node_send_all ["self"] []
 me_Node_send_by : Meth K t.c_Node "send_by" t.f_Node_send_by
 fn_Node_send_by : Fun K "send_by" "Node.send_by" s_Node_send_by t.f_Node_send_by t.d_Node_send_by
 bi_Node_send_by : Binds K t.d_Node_send_by ["self", "by", "parcel"] []
 me_Node_hear : Meth K t.c_Node "hear" t.f_Node_hear
 fn_Node_hear : Fun K "hear" "Node.hear" s_Node_hear t.f_Node_hear t.d_Node_hear
 bi_Node_hear : Binds K t.d_Node_hear ["self", "pass_number", "message"] []
 me_Node_own_pass : Meth K t.c_Node "own_pass" t.f_Node_own_pass
 fn_Node_own_pass : Fun K "own_pass" "Node.own_pass" s_Node_own_pass t.f_Node_own_pass t.d_Node_own_pass
 bi_Node_own_pass : Binds K t.d_Node_own_pass ["self", "number"] []
 me_Node_hear_parcel : Meth K t.c_Node "hear_parcel" t.f_Node_hear_parcel
 fn_Node_hear_parcel : Fun K "hear_parcel" "Node.hear_parcel" s_Node_hear_parcel t.f_Node_hear_parcel t.d_Node_hear_parcel
 bi_Node_hear_parcel : Binds K t.d_Node_hear_parcel ["self", "by", "parcel"] []
 me_Node_take_in : Meth K t.c_Node "take_in" t.f_Node_take_in
 fn_Node_take_in : Fun K "take_in" "Node.take_in" s_Node_take_in t.f_Node_take_in t.d_Node_take_in
 bi_Node_take_in : Binds K t.d_Node_take_in ["self", "parcel"] []
 me_Node_take_as_arrived : Meth K t.c_Node "take_as_arrived" t.f_Node_take_as_arrived
 fn_Node_take_as_arrived : Fun K "take_as_arrived" "Node.take_as_arrived" s_Node_take_as_arrived t.f_Node_take_as_arrived t.d_Node_take_as_arrived
 bi_Node_take_as_arrived : Binds K t.d_Node_take_as_arrived ["self", "parcel"] []
 me_Node_take_to_hold : Meth K t.c_Node "take_to_hold" t.f_Node_take_to_hold
 fn_Node_take_to_hold : Fun K "take_to_hold" "Node.take_to_hold" s_Node_take_to_hold t.f_Node_take_to_hold t.d_Node_take_to_hold
 bi_Node_take_to_hold : Binds K t.d_Node_take_to_hold ["self", "parcel"] []
 me_Node_hear_kept : Meth K t.c_Node "hear_kept" t.f_Node_hear_kept
 fn_Node_hear_kept : Fun K "hear_kept" "Node.hear_kept" s_Node_hear_kept t.f_Node_hear_kept t.d_Node_hear_kept
 bi_Node_hear_kept : Binds K t.d_Node_hear_kept ["self", "kept"] []
 me_Node_read : Meth K t.c_Node "read" t.f_Node_read
 fn_Node_read : Fun K "read" "Node.read" s_Node_read t.f_Node_read t.d_Node_read
 bi_Node_read : Binds K t.d_Node_read ["self"] []
 me_Node_state : Meth K t.c_Node "state" t.f_Node_state
 fn_Node_state : Fun K "state" "Node.state" s_Node_state t.f_Node_state t.d_Node_state
 bi_Node_state : Binds K t.d_Node_state ["self"] []
 fn_told_by : Fun K "told_by" "told_by" s_told_by t.f_told_by t.d_told_by
 bi_told_by : Binds K t.d_told_by ["by", "message"] []
 g_told_by : mg "told_by" = some (.ref t.f_told_by)
 kp_told_by : PySem.W.keepIn K (.ref t.f_told_by) = true
 fn_first_to_go_by : Fun K "first_to_go_by" "first_to_go_by" s_first_to_go_by t.f_first_to_go_by t.d_first_to_go_by
 bi_first_to_go_by : Binds K t.d_first_to_go_by ["by", "ready", "ways"] []
 g_first_to_go_by : mg "first_to_go_by" = some (.ref t.f_first_to_go_by)
 kp_first_to_go_by : PySem.W.keepIn K (.ref t.f_first_to_go_by) = true
 fn_Line_init : Fun K "__init__" "Line.__init__" s_Line_init t.f_Line_init t.d_Line_init
 bi_Line_init : Binds K t.d_Line_init ["self", "calls"] []
 me_Line_has_more : Meth K t.c_Line "has_more" t.f_Line_has_more
 fn_Line_has_more : Fun K "has_more" "Line.has_more" s_Line_has_more t.f_Line_has_more t.d_Line_has_more
 bi_Line_has_more : Binds K t.d_Line_has_more ["self"] []
 me_Line_take_number : Meth K t.c_Line "take_number" t.f_Line_take_number
 fn_Line_take_number : Fun K "take_number" "Line.take_number" s_Line_take_number t.f_Line_take_number t.d_Line_take_number
 bi_Line_take_number : Binds K t.d_Line_take_number ["self"] []
 me_Line_take_row : Meth K t.c_Line "take_row" t.f_Line_take_row
 fn_Line_take_row : Fun K "take_row" "Line.take_row" s_Line_take_row t.f_Line_take_row t.d_Line_take_row
 bi_Line_take_row : Binds K t.d_Line_take_row ["self"] []
 me_Line_answer_call : Meth K t.c_Line "answer_call" t.f_Line_answer_call
 fn_Line_answer_call : Fun K "answer_call" "Line.answer_call" s_Line_answer_call t.f_Line_answer_call t.d_Line_answer_call
 bi_Line_answer_call : Binds K t.d_Line_answer_call ["self"] []
 me_Line_answer_start : Meth K t.c_Line "answer_start" t.f_Line_answer_start
 fn_Line_answer_start : Fun K "answer_start" "Line.answer_start" s_Line_answer_start t.f_Line_answer_start t.d_Line_answer_start
 bi_Line_answer_start : Binds K t.d_Line_answer_start ["self"] []
 me_Line_answer_put : Meth K t.c_Line "answer_put" t.f_Line_answer_put
 fn_Line_answer_put : Fun K "answer_put" "Line.answer_put" s_Line_answer_put t.f_Line_answer_put t.d_Line_answer_put
 bi_Line_answer_put : Binds K t.d_Line_answer_put ["self"] []
 me_Line_answer_heard : Meth K t.c_Line "answer_heard" t.f_Line_answer_heard
 fn_Line_answer_heard : Fun K "answer_heard" "Line.answer_heard" s_Line_answer_heard t.f_Line_answer_heard t.d_Line_answer_heard
 bi_Line_answer_heard : Binds K t.d_Line_answer_heard ["self"] []
 fn_answers : Fun K "answers" "answers" s_answers t.f_answers t.d_answers
 bi_answers : Binds K t.d_answers ["calls"] []
 g_answers : mg "answers" = some (.ref t.f_answers)
 kp_answers : PySem.W.keepIn K (.ref t.f_answers) = true
 k_MOST_BYTES : ∃ u, mg "MOST_BYTES" = some (.int (48) u)
 k_LEAST_NODES : ∃ u, mg "LEAST_NODES" = some (.int (2) u)
 k_MOST_NODES : ∃ u, mg "MOST_NODES" = some (.int (32) u)
 k_MOST_PASSES : ∃ u, mg "MOST_PASSES" = some (.int (128) u)
 k_LAST_TIME : ∃ u, mg "LAST_TIME" = some (.int (1000000) u)
 k_LEAST_TAKES : ∃ u, mg "LEAST_TAKES" = some (.int (1) u)
 k_MOST_TAKES : ∃ u, mg "MOST_TAKES" = some (.int (255) u)
 k_NUMBERS_OF_A_PASS : ∃ u, mg "NUMBERS_OF_A_PASS" = some (.int (6) u)
 k_KIND_PARCEL : ∃ u, mg "KIND_PARCEL" = some (.int (1) u)
 k_KIND_KEPT : ∃ u, mg "KIND_KEPT" = some (.int (2) u)
 k_PARCEL_HEAD_SIZE : ∃ u, mg "PARCEL_HEAD_SIZE" = some (.int (16) u)
 k_KEPT_SIZE : ∃ u, mg "KEPT_SIZE" = some (.int (12) u)
 k_MOST_COUNT : ∃ u, mg "MOST_COUNT" = some (.int (2147483647) u)
 k_DONE : ∃ u, mg "DONE" = some (.int (0) u)
 k_NOT_AS_TOLD : ∃ u, mg "NOT_AS_TOLD" = some (.int (-22) u)
 k_FULL : ∃ u, mg "FULL" = some (.int (-28) u)
 k_TIME_IS_OVER : ∃ u, mg "TIME_IS_OVER" = some (.int (-34) u)
 k_NO_MESSAGE : ∃ u, mg "NO_MESSAGE" = some (.int (-71) u)
 k_MOST_HELD : ∃ u, mg "MOST_HELD" = some (.int (64) u)
 k_MOST_ARRIVED : ∃ u, mg "MOST_ARRIVED" = some (.int (64) u)
 k_MOST_KNOWN : ∃ u, mg "MOST_KNOWN" = some (.int (256) u)
 k_CALL_START : ∃ u, mg "CALL_START" = some (.int (0) u)
 k_CALL_PUT : ∃ u, mg "CALL_PUT" = some (.int (1) u)
 k_CALL_TICK : ∃ u, mg "CALL_TICK" = some (.int (2) u)
 k_CALL_HEARD : ∃ u, mg "CALL_HEARD" = some (.int (3) u)
 k_CALL_READ : ∃ u, mg "CALL_READ" = some (.int (4) u)
 k_CALL_STATE : ∃ u, mg "CALL_STATE" = some (.int (5) u)
 b_all : mg "all" = none
 b_dict : mg "dict" = none
 b_enumerate : mg "enumerate" = none
 b_len : mg "len" = none
 b_list : mg "list" = none
 b_max : mg "max" = none
 b_range : mg "range" = none
 b_sorted : mg "sorted" = none
 b_sum : mg "sum" = none
theorem sc_Parcel_init : FnScope ["self", "source", "number", "to", "end", "data", "leg"] ["self", "source", "number", "to", "end", "data", "leg"] (defScope s_Parcel_init) := ⟨rfl, rfl, rfl, by decide +kernel, rfl, by decide +kernel, by decide +kernel⟩
theorem sc_Parcel_waits_at : FnScope ["self", "time"] ["self", "time"] (defScope s_Parcel_waits_at) := ⟨rfl, rfl, rfl, by decide +kernel, rfl, by decide +kernel, by decide +kernel⟩
theorem sc_key_of : FnScope ["parcel"] ["parcel"] (defScope s_key_of) := ⟨rfl, rfl, rfl, by decide +kernel, rfl, by decide +kernel, by decide +kernel⟩
theorem sc_rank : FnScope ["parcel"] ["parcel"] (defScope s_rank) := ⟨rfl, rfl, rfl, by decide +kernel, rfl, by decide +kernel, by decide +kernel⟩
theorem sc_in_order : FnScope ["parcels"] ["parcels"] (defScope s_in_order) := ⟨rfl, rfl, rfl, by decide +kernel, rfl, by decide +kernel, by decide +kernel⟩
theorem sc_Pass_init : FnScope ["self", "number", "told"] ["self", "number", "told"] (defScope s_Pass_init) := ⟨rfl, rfl, rfl, by decide +kernel, rfl, by decide +kernel, by decide +kernel⟩
theorem sc_Pass_joins : FnScope ["self", "node"] ["self", "node"] (defScope s_Pass_joins) := ⟨rfl, rfl, rfl, by decide +kernel, rfl, by decide +kernel, by decide +kernel⟩
theorem sc_Pass_other_end : FnScope ["self", "node"] ["self", "node"] (defScope s_Pass_other_end) := ⟨rfl, rfl, rfl, by decide +kernel, rfl, by decide +kernel, by decide +kernel⟩
theorem sc_Pass_is_open_at : FnScope ["self", "time"] ["self", "time"] (defScope s_Pass_is_open_at) := ⟨rfl, rfl, rfl, by decide +kernel, rfl, by decide +kernel, by decide +kernel⟩
theorem sc_Pass_soonest_sending : FnScope ["self", "time"] ["self", "time"] (defScope s_Pass_soonest_sending) := ⟨rfl, rfl, rfl, by decide +kernel, rfl, by decide +kernel, by decide +kernel⟩
theorem sc_Plan_init : FnScope ["self", "node_count", "passes", "node"] ["self", "node_count", "passes"] (defScope s_Plan_init) := ⟨rfl, rfl, rfl, by decide +kernel, rfl, by decide +kernel, by decide +kernel⟩
theorem sc_Plan_has_node : FnScope ["self", "node"] ["self", "node"] (defScope s_Plan_has_node) := ⟨rfl, rfl, rfl, by decide +kernel, rfl, by decide +kernel, by decide +kernel⟩
theorem sc_passes_at : FnScope ["passes", "node", "each"] ["passes", "node"] (defScope s_passes_at) := ⟨rfl, rfl, rfl, by decide +kernel, rfl, by decide +kernel, by decide +kernel⟩
theorem sc_split_passes : FnScope ["numbers", "k"] ["numbers"] (defScope s_split_passes) := ⟨rfl, rfl, rfl, by decide +kernel, rfl, by decide +kernel, by decide +kernel⟩
theorem sc_is_pass : FnScope ["node_count", "told", "a", "b", "takes", "none", "begins", "ends"] ["node_count", "told"] (defScope s_is_pass) := ⟨rfl, rfl, rfl, by decide +kernel, rfl, by decide +kernel, by decide +kernel⟩
theorem sc_is_plan : FnScope ["node_count", "passes_told", "told"] ["node_count", "passes_told"] (defScope s_is_plan) := ⟨rfl, rfl, rfl, by decide +kernel, rfl, by decide +kernel, by decide +kernel⟩
theorem sc_plan_of : FnScope ["node_count", "numbers", "passes_told", "number", "told"] ["node_count", "numbers"] (defScope s_plan_of) := ⟨rfl, rfl, rfl, by decide +kernel, rfl, by decide +kernel, by decide +kernel⟩
theorem sc_Kept_init : FnScope ["self", "source", "number", "leg"] ["self", "source", "number", "leg"] (defScope s_Kept_init) := ⟨rfl, rfl, rfl, by decide +kernel, rfl, by decide +kernel, by decide +kernel⟩
theorem sc_four_bytes : FnScope ["number", "shift"] ["number"] (defScope s_four_bytes) := ⟨rfl, rfl, rfl, by decide +kernel, rfl, by decide +kernel, by decide +kernel⟩
theorem sc_number_at : FnScope ["message", "place", "k"] ["message", "place"] (defScope s_number_at) := ⟨rfl, rfl, rfl, by decide +kernel, rfl, by decide +kernel, by decide +kernel⟩
theorem sc_parcel_message : FnScope ["parcel", "leg", "head"] ["parcel", "leg"] (defScope s_parcel_message) := ⟨rfl, rfl, rfl, by decide +kernel, rfl, by decide +kernel, by decide +kernel⟩
theorem sc_kept_message : FnScope ["parcel"] ["parcel"] (defScope s_kept_message) := ⟨rfl, rfl, rfl, by decide +kernel, rfl, by decide +kernel, by decide +kernel⟩
theorem sc_parcel_from : FnScope ["message", "plan", "data", "leg", "parcel"] ["message", "plan"] (defScope s_parcel_from) := ⟨rfl, rfl, rfl, by decide +kernel, rfl, by decide +kernel, by decide +kernel⟩
theorem sc_has_parcel_size : FnScope ["message"] ["message"] (defScope s_has_parcel_size) := ⟨rfl, rfl, rfl, by decide +kernel, rfl, by decide +kernel, by decide +kernel⟩
theorem sc_is_parcel : FnScope ["parcel", "plan"] ["parcel", "plan"] (defScope s_is_parcel) := ⟨rfl, rfl, rfl, by decide +kernel, rfl, by decide +kernel, by decide +kernel⟩
theorem sc_kept_from : FnScope ["message", "plan", "kept"] ["message", "plan"] (defScope s_kept_from) := ⟨rfl, rfl, rfl, by decide +kernel, rfl, by decide +kernel, by decide +kernel⟩
theorem sc_is_count : FnScope ["number"] ["number"] (defScope s_is_count) := ⟨rfl, rfl, rfl, by decide +kernel, rfl, by decide +kernel, by decide +kernel⟩
theorem sc_Way_init : FnScope ["self", "at", "arrives", "first"] ["self", "at", "arrives", "first"] (defScope s_Way_init) := ⟨rfl, rfl, rfl, by decide +kernel, rfl, by decide +kernel, by decide +kernel⟩
theorem sc_ways_from : FnScope ["plan", "node", "time", "start", "best", "ways"] ["plan", "node", "time"] (defScope s_ways_from) := ⟨rfl, rfl, rfl, by decide +kernel, rfl, by decide +kernel, by decide +kernel⟩
theorem sc_sooner_by_one_more : FnScope ["plan", "ways", "best", "longer", "way", "each", "sending", "node", "arrives", "first"] ["plan", "ways", "best"] (defScope s_sooner_by_one_more) := ⟨rfl, rfl, rfl, by decide +kernel, rfl, by decide +kernel, by decide +kernel⟩
theorem sc_Node_init : FnScope ["self", "plan", "me"] ["self", "plan", "me"] (defScope s_Node_init) := ⟨rfl, rfl, rfl, by decide +kernel, rfl, by decide +kernel, by decide +kernel⟩
theorem sc_Node_put : FnScope ["self", "to", "end", "data"] ["self", "to", "end", "data"] (defScope s_Node_put) := ⟨rfl, rfl, rfl, by decide +kernel, rfl, by decide +kernel, by decide +kernel⟩
theorem sc_Node_may_go : FnScope ["self", "to", "end", "data"] ["self", "to", "end", "data"] (defScope s_Node_may_go) := ⟨rfl, rfl, rfl, by decide +kernel, rfl, by decide +kernel, by decide +kernel⟩
theorem sc_Node_tick : FnScope ["self"] ["self"] (defScope s_Node_tick) := ⟨rfl, rfl, rfl, by decide +kernel, rfl, by decide +kernel, by decide +kernel⟩
theorem sc_Node_drop_ended : FnScope ["self", "now", "key", "parcel", "end"] ["self"] (defScope s_Node_drop_ended) := ⟨rfl, rfl, rfl, by decide +kernel, rfl, by decide +kernel, by decide +kernel⟩
theorem sc_Node_send_all : FnScope ["self", "ready", "parcel", "usable", "each", "ways", "count", "sent"] ["self"] (defScope s_Node_send_all) := ⟨rfl, rfl, rfl, by decide +kernel, rfl, by decide +kernel, by decide +kernel⟩
theorem sc_Node_send_by : FnScope ["self", "by", "parcel"] ["self", "by", "parcel"] (defScope s_Node_send_by) := ⟨rfl, rfl, rfl, by decide +kernel, rfl, by decide +kernel, by decide +kernel⟩
theorem sc_Node_hear : FnScope ["self", "pass_number", "message", "by", "parcel", "kept"] ["self", "pass_number", "message"] (defScope s_Node_hear) := ⟨rfl, rfl, rfl, by decide +kernel, rfl, by decide +kernel, by decide +kernel⟩
theorem sc_Node_own_pass : FnScope ["self", "number", "each"] ["self", "number"] (defScope s_Node_own_pass) := ⟨rfl, rfl, rfl, by decide +kernel, rfl, by decide +kernel, by decide +kernel⟩
theorem sc_Node_hear_parcel : FnScope ["self", "by", "parcel"] ["self", "by", "parcel"] (defScope s_Node_hear_parcel) := ⟨rfl, rfl, rfl, by decide +kernel, rfl, by decide +kernel, by decide +kernel⟩
theorem sc_Node_take_in : FnScope ["self", "parcel"] ["self", "parcel"] (defScope s_Node_take_in) := ⟨rfl, rfl, rfl, by decide +kernel, rfl, by decide +kernel, by decide +kernel⟩
theorem sc_Node_take_as_arrived : FnScope ["self", "parcel", "key"] ["self", "parcel"] (defScope s_Node_take_as_arrived) := ⟨rfl, rfl, rfl, by decide +kernel, rfl, by decide +kernel, by decide +kernel⟩
theorem sc_Node_take_to_hold : FnScope ["self", "parcel", "key", "held"] ["self", "parcel"] (defScope s_Node_take_to_hold) := ⟨rfl, rfl, rfl, by decide +kernel, rfl, by decide +kernel, by decide +kernel⟩
theorem sc_Node_hear_kept : FnScope ["self", "kept", "key"] ["self", "kept"] (defScope s_Node_hear_kept) := ⟨rfl, rfl, rfl, by decide +kernel, rfl, by decide +kernel, by decide +kernel⟩
theorem sc_Node_read : FnScope ["self", "parcel"] ["self"] (defScope s_Node_read) := ⟨rfl, rfl, rfl, by decide +kernel, rfl, by decide +kernel, by decide +kernel⟩
theorem sc_Node_state : FnScope ["self"] ["self"] (defScope s_Node_state) := ⟨rfl, rfl, rfl, by decide +kernel, rfl, by decide +kernel, by decide +kernel⟩
theorem sc_told_by : FnScope ["by", "message"] ["by", "message"] (defScope s_told_by) := ⟨rfl, rfl, rfl, by decide +kernel, rfl, by decide +kernel, by decide +kernel⟩
theorem sc_first_to_go_by : FnScope ["by", "ready", "ways", "parcel", "way"] ["by", "ready", "ways"] (defScope s_first_to_go_by) := ⟨rfl, rfl, rfl, by decide +kernel, rfl, by decide +kernel, by decide +kernel⟩
theorem sc_Line_init : FnScope ["self", "calls"] ["self", "calls"] (defScope s_Line_init) := ⟨rfl, rfl, rfl, by decide +kernel, rfl, by decide +kernel, by decide +kernel⟩
theorem sc_Line_has_more : FnScope ["self"] ["self"] (defScope s_Line_has_more) := ⟨rfl, rfl, rfl, by decide +kernel, rfl, by decide +kernel, by decide +kernel⟩
theorem sc_Line_take_number : FnScope ["self", "number"] ["self"] (defScope s_Line_take_number) := ⟨rfl, rfl, rfl, by decide +kernel, rfl, by decide +kernel, by decide +kernel⟩
theorem sc_Line_take_row : FnScope ["self", "count", "row"] ["self"] (defScope s_Line_take_row) := ⟨rfl, rfl, rfl, by decide +kernel, rfl, by decide +kernel, by decide +kernel⟩
theorem sc_Line_answer_call : FnScope ["self", "call"] ["self"] (defScope s_Line_answer_call) := ⟨rfl, rfl, rfl, by decide +kernel, rfl, by decide +kernel, by decide +kernel⟩
theorem sc_Line_answer_start : FnScope ["self", "node_count", "me", "plan"] ["self"] (defScope s_Line_answer_start) := ⟨rfl, rfl, rfl, by decide +kernel, rfl, by decide +kernel, by decide +kernel⟩
theorem sc_Line_answer_put : FnScope ["self", "to", "end"] ["self"] (defScope s_Line_answer_put) := ⟨rfl, rfl, rfl, by decide +kernel, rfl, by decide +kernel, by decide +kernel⟩
theorem sc_Line_answer_heard : FnScope ["self", "pass_number"] ["self"] (defScope s_Line_answer_heard) := ⟨rfl, rfl, rfl, by decide +kernel, rfl, by decide +kernel, by decide +kernel⟩
theorem sc_answers : FnScope ["calls", "line", "told", "answer"] ["calls"] (defScope s_answers) := ⟨rfl, rfl, rfl, by decide +kernel, rfl, by decide +kernel, by decide +kernel⟩
end Pp
end
section
namespace Pp
open PySem PySem.Spec PyProof.Rows L2
def fPass (k a b t be en : Int) : List (Str × V) := [("number", .int k), ("a", .int a), ("b", .int b), ("takes", .int t), ("begins", .int be), ("ends", .int en)]
def fWay (at_ arr first : V) : List (Str × V) := [("at", at_), ("arrives", arr), ("first", first)]
def fPlan (n : Int) (lp lo : Addr) : List (Str × V) := [("node_count", .int n), ("passes", .ref lp), ("passes_of", .ref lo)]
def fParcel (src num to end_ : Int) (data : Addr) (leg waits : Int) : List (Str × V) :=
 [("source", .int src), ("number", .int num), ("to", .int to), ("end", .int end_), ("data", .ref data), ("leg", .int leg), ("waits_till", .int waits)]
theorem fl {fs : List (Str × V)} (n : Nat) (h : fs.length = n) (hn : n < 1000 := by decide) : fs.length < 1000 := by rw [h]; exact hn
theorem dI (i j : Int) : decide (V.int i = V.int j) = decide (i = j) := by
 by_cases e : i = j
 ·subst e; simp
 ·rw [decide_eq_false e, decide_eq_false (fun q => e (V.int.inj q))]
section
variable {P : Program} {w : World} {K : PySem.W.Frag} {mg : Str → Option Value} {base : Heap} {t : Adr}
def spPass_init (t : Adr) : Sp := fun vs H Q _ => ∃ (p dx told : Addr) (k n0 n1 n2 n3 n4 n5 : Int), vs = [.ref p, .int k, .ref told] ∧ H p = some (.ins t.c_Pass dx []) ∧ H told = some (.lst [.int n0, .int n1, .int n2, .int n3, .int n4, .int n5]) ∧
 Q .non (upd H p (.ins t.c_Pass dx (fPass k n0 n1 n2 n4 n5)))
theorem ok_Pass_init (T : Tx K mg t) : FnOk P w K mg base CX0 1 t.f_Pass_init t.d_Pass_init ["self", "number", "told"] (spPass_init t) := by
 refine T.fn_Pass_init.ok sc_Pass_init (fun vs H Q E h => ?_) (fun cdv A outer s H vs Q E hr h => ?_)
 ·obtain ⟨p, dx, told, k, n0, n1, n2, n3, n4, n5, rfl, _⟩ := h
  rfl
 ·obtain ⟨p, dx, told, k, n0, n1, n2, n3, n4, n5, rfl, hp, ht, q⟩ := h
  have hne : told ≠ p := ne_of ht hp (by intro z; cases z)
  have hT : ∀ o, SqL K (upd H p o) told [.int n0, .int n1, .int n2, .int n3, .int n4, .int n5] := fun o => SqL.of (by rw [upd_ne hne]; exact ht)
  refine ⟨_, (pss_cons (ps_fld (pv 0) (pv 1) rfl)
   (pss_cons (ps_fld (pv 0) (pe_ix ix_list (pv 2) pe_int (fun _ _ => rfl)) rfl)
   (pss_cons (ps_fld (pv 0) (pe_ix ix_list (pv 2) pe_int (fun _ _ => rfl)) rfl)
   (pss_cons (ps_fld (pv 0) (pe_ix ix_list (pv 2) pe_int (fun _ _ => rfl)) rfl)
   (pss_cons (ps_fld (pv 0) (pe_ix ix_list (pv 2) pe_int (fun _ _ => rfl)) rfl)
   (pss_one (ps_fld (pv 0) (pe_ix ix_list (pv 2) pe_int (fun _ _ => rfl)) rfl))))))), ?_⟩
  refine ⟨_, rfl, _, rfl, p, _, dx, _, rfl, hp, T.cl_Pass, T.na_Pass_number, fl 0 rfl, ?_⟩
  refine ⟨_, rfl, told, _, _, _, rfl, rfl, hT _, rfl, _, rfl, p, _, dx, _, rfl, upd_same, T.cl_Pass, T.na_Pass_a, fl 1 rfl, ?_⟩
  rw [upd_upd]
  refine ⟨_, rfl, told, _, _, _, rfl, rfl, hT _, rfl, _, rfl, p, _, dx, _, rfl, upd_same, T.cl_Pass, T.na_Pass_b, fl 2 rfl, ?_⟩
  rw [upd_upd]
  refine ⟨_, rfl, told, _, _, _, rfl, rfl, hT _, rfl, _, rfl, p, _, dx, _, rfl, upd_same, T.cl_Pass, T.na_Pass_takes, fl 3 rfl, ?_⟩
  rw [upd_upd]
  refine ⟨_, rfl, told, _, _, _, rfl, rfl, hT _, rfl, _, rfl, p, _, dx, _, rfl, upd_same, T.cl_Pass, T.na_Pass_begins, fl 4 rfl, ?_⟩
  rw [upd_upd]
  refine ⟨_, rfl, told, _, _, _, rfl, rfl, hT _, rfl, _, rfl, p, _, dx, _, rfl, upd_same, T.cl_Pass, T.na_Pass_ends, fl 5 rfl, ?_⟩
  rw [upd_upd]
  exact q
def spPass_joins (t : Adr) : Sp := fun vs H Q _ => ∃ (p dx : Addr) (k a b tk be en n : Int), vs = [.ref p, .int n] ∧ H p = some (.ins t.c_Pass dx (fPass k a b tk be en)) ∧ Q (.bl (decide (n = a ∨ n = b))) H
theorem ok_Pass_joins (T : Tx K mg t) : FnOk P w K mg base CX0 1 t.f_Pass_joins t.d_Pass_joins ["self", "node"] (spPass_joins t) := by
 refine T.fn_Pass_joins.ok sc_Pass_joins (fun vs H Q E h => ?_) (fun cdv A outer s H vs Q E hr h => ?_)
 ·obtain ⟨p, dx, k, a, b, tk, be, en, n, rfl, _⟩ := h
  rfl
 ·obtain ⟨p, dx, k, a, b, tk, be, en, n, rfl, hp, q⟩ := h
  refine ⟨_, (pss_one (ps_ret (pe_or (pe_cmpR op_eq (pv 1) (pe_fld (pv 0) rfl) (nomark _)) (pe_one (pe_cmpR op_eq (pv 1) (pe_fld (pv 0) rfl) (nomark _)))))), ?_⟩
  refine ⟨_, rfl, _, rfl, p, _, dx, _, _, rfl, hp, T.cl_Pass, T.na_Pass_a, rfl, rfl, _, rfl, ?_⟩
  refine ite2 (fun e => ?_) (fun e => ?_)
  ·rw [dI, decide_eq_true_eq] at e
   rw [decide_eq_true (Or.inl e)] at q
   exact q
  ·rw [dI, decide_eq_true_eq] at e
   refine ⟨_, rfl, _, rfl, p, _, dx, _, _, rfl, hp, T.cl_Pass, T.na_Pass_b, rfl, rfl, ?_⟩
   rw [dI]
   by_cases e2 : n = b
   ·rw [decide_eq_true (Or.inr e2)] at q
    rw [decide_eq_true e2]
    exact q
   ·rw [decide_eq_false (fun z => z.elim e e2)] at q
    rw [decide_eq_false e2]
    exact q
def spPass_other (t : Adr) : Sp := fun vs H Q _ => ∃ (p dx : Addr) (k a b tk be en n : Int), vs = [.ref p, .int n] ∧ H p = some (.ins t.c_Pass dx (fPass k a b tk be en)) ∧ Q (.int (if n = a then b else a)) H
theorem ok_Pass_other_end (T : Tx K mg t) : FnOk P w K mg base CX0 1 t.f_Pass_other_end t.d_Pass_other_end ["self", "node"] (spPass_other t) := by
 refine T.fn_Pass_other_end.ok sc_Pass_other_end (fun vs H Q E h => ?_) (fun cdv A outer s H vs Q E hr h => ?_)
 ·obtain ⟨p, dx, k, a, b, tk, be, en, n, rfl, _⟩ := h
  rfl
 ·obtain ⟨p, dx, k, a, b, tk, be, en, n, rfl, hp, q⟩ := h
  refine ⟨_, (pss_cons (ps_if (pt_cmpR op_eq (pv 1) (pe_fld (pv 0) rfl) (nomark _)) (pss_one (ps_ret (pe_fld (pv 0) rfl))) pss_nil)
   (pss_one (ps_ret (pe_fld (pv 0) rfl)))), ?_⟩
  refine ⟨_, rfl, _, rfl, p, _, dx, _, _, rfl, hp, T.cl_Pass, T.na_Pass_a, rfl, rfl, _, rfl, ite2 (fun e => ?_) (fun e => ?_)⟩
  ·rw [dI, decide_eq_true_eq] at e
   rw [if_pos e] at q
   exact ⟨_, rfl, p, _, dx, _, _, rfl, hp, T.cl_Pass, T.na_Pass_b, rfl, q⟩
  ·rw [dI, decide_eq_true_eq] at e
   rw [if_neg e] at q
   exact ⟨_, rfl, p, _, dx, _, _, rfl, hp, T.cl_Pass, T.na_Pass_a, rfl, q⟩
def spPass_open (t : Adr) : Sp := fun vs H Q _ => ∃ (p dx : Addr) (k a b tk be en n : Int), vs = [.ref p, .int n] ∧ H p = some (.ins t.c_Pass dx (fPass k a b tk be en)) ∧ Q (.bl (decide (be ≤ n ∧ n < en))) H
theorem ok_Pass_is_open_at (T : Tx K mg t) : FnOk P w K mg base CX0 1 t.f_Pass_is_open_at t.d_Pass_is_open_at ["self", "time"] (spPass_open t) := by
 refine T.fn_Pass_is_open_at.ok sc_Pass_is_open_at (fun vs H Q E h => ?_) (fun cdv A outer s H vs Q E hr h => ?_)
 ·obtain ⟨p, dx, k, a, b, tk, be, en, n, rfl, _⟩ := h
  rfl
 ·obtain ⟨p, dx, k, a, b, tk, be, en, n, rfl, hp, q⟩ := h
  refine ⟨_, (pss_one (ps_ret (pe_and (pe_cmpR op_le (pe_fld (pv 0) rfl) (pv 1) (nomark _)) (pe_one (pe_cmpR op_lt (pv 1) (pe_fld (pv 0) rfl) (nomark _)))))), ?_⟩
  refine ⟨_, rfl, p, _, dx, _, _, rfl, hp, T.cl_Pass, T.na_Pass_begins, rfl, _, rfl, _, _, rfl, rfl, _, rfl, ite2 (fun e => ?_) (fun e => ?_)⟩
  ·rw [decide_eq_true_eq] at e
   refine ⟨_, rfl, _, rfl, p, _, dx, _, _, rfl, hp, T.cl_Pass, T.na_Pass_ends, rfl, _, _, rfl, rfl, ?_⟩
   show Q (.bl (decide (n < en))) H
   by_cases e2 : n < en
   ·rw [decide_eq_true (show be ≤ n ∧ n < en from ⟨e, e2⟩)] at q
    rw [decide_eq_true e2]
    exact q
   ·rw [decide_eq_false (fun z : be ≤ n ∧ n < en => e2 z.2)] at q
    rw [decide_eq_false e2]
    exact q
  ·rw [decide_eq_true_eq] at e
   rw [decide_eq_false (fun z : be ≤ n ∧ n < en => e z.1)] at q
   exact q
def spPass_soonest (t : Adr) : Sp := fun vs H Q _ => ∃ (p dx : Addr) (k a b tk be en n : Int), vs = [.ref p, .int n] ∧ H p = some (.ins t.c_Pass dx (fPass k a b tk be en)) ∧ Q (.int (if be > n then be else n)) H
theorem ok_Pass_soonest_sending (T : Tx K mg t) : FnOk P w K mg base CX0 1 t.f_Pass_soonest_sending t.d_Pass_soonest_sending ["self", "time"] (spPass_soonest t) := by
 refine T.fn_Pass_soonest_sending.ok sc_Pass_soonest_sending (fun vs H Q E h => ?_) (fun cdv A outer s H vs Q E hr h => ?_)
 ·obtain ⟨p, dx, k, a, b, tk, be, en, n, rfl, _⟩ := h
  rfl
 ·obtain ⟨p, dx, k, a, b, tk, be, en, n, rfl, hp, q⟩ := h
  refine ⟨_, (pss_one (ps_ret (pe_callB (call_max2 rfl) (by rfl) T.b_max bt_max (pa_cons (pv 1) (pa_cons (pe_fld (pv 0) rfl) pa_nil))))), ?_⟩
  exact ⟨_, rfl, _, rfl, p, _, dx, _, _, rfl, hp, T.cl_Pass, T.na_Pass_begins, rfl, _, _, rfl, q⟩
def spWay_init (t : Adr) : Sp := fun vs H Q _ => ∃ (p dx : Addr) (x y z : V), vs = [.ref p, x, y, z] ∧ H p = some (.ins t.c_Way dx []) ∧ Q .non (upd H p (.ins t.c_Way dx (fWay x y z)))
theorem ok_Way_init (T : Tx K mg t) : FnOk P w K mg base CX0 1 t.f_Way_init t.d_Way_init ["self", "at", "arrives", "first"] (spWay_init t) := by
 refine T.fn_Way_init.ok sc_Way_init (fun vs H Q E h => ?_) (fun cdv A outer s H vs Q E hr h => ?_)
 ·obtain ⟨p, dx, x, y, z, rfl, _⟩ := h
  rfl
 ·obtain ⟨p, dx, x, y, z, rfl, hp, q⟩ := h
  refine ⟨_, (pss_cons (ps_fld (pv 0) (pv 1) rfl)
   (pss_cons (ps_fld (pv 0) (pv 2) rfl)
   (pss_one (ps_fld (pv 0) (pv 3) rfl)))), ?_⟩
  refine ⟨_, rfl, _, rfl, p, _, dx, _, rfl, hp, T.cl_Way, T.na_Way_at, fl 0 rfl, ?_⟩
  refine ⟨_, rfl, _, rfl, p, _, dx, _, rfl, upd_same, T.cl_Way, T.na_Way_arrives, fl 1 rfl, ?_⟩
  rw [upd_upd]
  refine ⟨_, rfl, _, rfl, p, _, dx, _, rfl, upd_same, T.cl_Way, T.na_Way_first, fl 2 rfl, ?_⟩
  rw [upd_upd]
  exact q
def spParcel_init (t : Adr) : Sp := fun vs H Q _ => ∃ (p dx d : Addr) (s n to e lg : Int), vs = [.ref p, .int s, .int n, .int to, .int e, .ref d, .int lg] ∧ H p = some (.ins t.c_Parcel dx []) ∧ Q .non (upd H p (.ins t.c_Parcel dx (fParcel s n to e d lg 0)))
theorem ok_Parcel_init (T : Tx K mg t) : FnOk P w K mg base CX0 1 t.f_Parcel_init t.d_Parcel_init ["self", "source", "number", "to", "end", "data", "leg"] (spParcel_init t) := by
 refine T.fn_Parcel_init.ok sc_Parcel_init (fun vs H Q E h => ?_) (fun cdv A outer s H vs Q E hr h => ?_)
 ·obtain ⟨p, dx, d, s, n, to, e, lg, rfl, _⟩ := h
  rfl
 ·obtain ⟨p, dx, d, sr, n, to, e, lg, rfl, hp, q⟩ := h
  refine ⟨_, (pss_cons (ps_fld (pv 0) (pv 1) rfl)
   (pss_cons (ps_fld (pv 0) (pv 2) rfl)
   (pss_cons (ps_fld (pv 0) (pv 3) rfl)
   (pss_cons (ps_fld (pv 0) (pv 4) rfl)
   (pss_cons (ps_fld (pv 0) (pv 5) rfl)
   (pss_cons (ps_fld (pv 0) (pv 6) rfl)
   (pss_one (ps_fld (pv 0) pe_int rfl)))))))), ?_⟩
  refine ⟨_, rfl, _, rfl, p, _, dx, _, rfl, hp, T.cl_Parcel, T.na_Parcel_source, fl 0 rfl, ?_⟩
  refine ⟨_, rfl, _, rfl, p, _, dx, _, rfl, upd_same, T.cl_Parcel, T.na_Parcel_number, fl 1 rfl, ?_⟩
  rw [upd_upd]
  refine ⟨_, rfl, _, rfl, p, _, dx, _, rfl, upd_same, T.cl_Parcel, T.na_Parcel_to, fl 2 rfl, ?_⟩
  rw [upd_upd]
  refine ⟨_, rfl, _, rfl, p, _, dx, _, rfl, upd_same, T.cl_Parcel, T.na_Parcel_end, fl 3 rfl, ?_⟩
  rw [upd_upd]
  refine ⟨_, rfl, _, rfl, p, _, dx, _, rfl, upd_same, T.cl_Parcel, T.na_Parcel_data, fl 4 rfl, ?_⟩
  rw [upd_upd]
  refine ⟨_, rfl, _, rfl, p, _, dx, _, rfl, upd_same, T.cl_Parcel, T.na_Parcel_leg, fl 5 rfl, ?_⟩
  rw [upd_upd]
  refine ⟨_, rfl, p, _, dx, _, rfl, upd_same, T.cl_Parcel, T.na_Parcel_waits_till, fl 6 rfl, ?_⟩
  rw [upd_upd]
  exact q
def fKept (src num leg : Int) : List (Str × V) := [("source", .int src), ("number", .int num), ("leg", .int leg)]
def spKept_init (t : Adr) : Sp := fun vs H Q _ => ∃ (p dx : Addr) (s n lg : Int), vs = [.ref p, .int s, .int n, .int lg] ∧ H p = some (.ins t.c_Kept dx []) ∧ Q .non (upd H p (.ins t.c_Kept dx (fKept s n lg)))
theorem ok_Kept_init (T : Tx K mg t) : FnOk P w K mg base CX0 1 t.f_Kept_init t.d_Kept_init ["self", "source", "number", "leg"] (spKept_init t) := by
 refine T.fn_Kept_init.ok sc_Kept_init (fun vs H Q E h => ?_) (fun cdv A outer s H vs Q E hr h => ?_)
 ·obtain ⟨p, dx, s, n, lg, rfl, _⟩ := h
  rfl
 ·obtain ⟨p, dx, sr, n, lg, rfl, hp, q⟩ := h
  refine ⟨_, (pss_cons (ps_fld (pv 0) (pv 1) rfl)
   (pss_cons (ps_fld (pv 0) (pv 2) rfl)
   (pss_one (ps_fld (pv 0) (pv 3) rfl)))), ?_⟩
  refine ⟨_, rfl, _, rfl, p, _, dx, _, rfl, hp, T.cl_Kept, T.na_Kept_source, fl 0 rfl, ?_⟩
  refine ⟨_, rfl, _, rfl, p, _, dx, _, rfl, upd_same, T.cl_Kept, T.na_Kept_number, fl 1 rfl, ?_⟩
  rw [upd_upd]
  refine ⟨_, rfl, _, rfl, p, _, dx, _, rfl, upd_same, T.cl_Kept, T.na_Kept_leg, fl 2 rfl, ?_⟩
  rw [upd_upd]
  exact q
def spKey (K : PySem.W.Frag) : Sp := fun vs H Q _ => ∃ (p C dx : Addr) (fs : List (Str × V)) (s n : Int), vs = [.ref p] ∧ H p = some (.ins C dx fs) ∧ Cls K C ∧ NoAttr K C "source" ∧ NoAttr K C "number" ∧ fs.lookup ("source" : Str) = some (V.int s) ∧ fs.lookup ("number" : Str) = some (V.int n) ∧
 ∀ r, H r = none → Q (.ref r) (upd H r (.tup [.int s, .int n]))
theorem ok_key_of (T : Tx K mg t) : FnOk P w K mg base CX0 1 t.f_key_of t.d_key_of ["parcel"] (spKey K) := by
 refine T.fn_key_of.ok sc_key_of (fun vs H Q E h => ?_) (fun cdv A outer s H vs Q E hr h => ?_)
 ·obtain ⟨p, C, dx, fs, s, n, rfl, _⟩ := h
  rfl
 ·obtain ⟨p, C, dx, fs, sr, n, rfl, hp, cl, n1, n2, l1, l2, q⟩ := h
  refine ⟨_, (pss_one (ps_ret (pe_tup (pa_cons (pe_fld (pv 0) rfl) (pa_cons (pe_fld (pv 0) rfl) pa_nil))))), ?_⟩
  exact ⟨_, rfl, p, C, dx, _, _, rfl, hp, cl, n1, l1, _, rfl, p, C, dx, _, _, rfl, hp, cl, n2, l2, (by show 2 ≤ sizeLine; decide), fun r hr => q r hr⟩
def spParcel_waits (t : Adr) : Sp := fun vs H Q _ => ∃ (p dx d : Addr) (s n to e l wt now : Int), vs = [.ref p, .int now] ∧ H p = some (.ins t.c_Parcel dx (fParcel s n to e d l wt)) ∧ Q (.bl (decide (now < wt))) H
theorem ok_Parcel_waits_at (T : Tx K mg t) : FnOk P w K mg base CX0 1 t.f_Parcel_waits_at t.d_Parcel_waits_at ["self", "time"] (spParcel_waits t) := by
 refine T.fn_Parcel_waits_at.ok sc_Parcel_waits_at (fun vs H Q E h => ?_) (fun cdv A outer s H vs Q E hr h => ?_)
 ·obtain ⟨p, dx, d, s, n, to, e, l, wt, now, rfl, _⟩ := h
  rfl
 ·obtain ⟨p, dx, d, sr, n, to, e, l, wt, now, rfl, hp, q⟩ := h
  refine ⟨_, (pss_one (ps_ret (pe_cmpR op_lt (pv 1) (pe_fld (pv 0) rfl) (nomark _)))), ?_⟩
  exact ⟨_, rfl, _, rfl, p, _, dx, _, _, rfl, hp, T.cl_Parcel, T.na_Parcel_waits_till, rfl, _, _, rfl, rfl, q⟩
def spRank (t : Adr) : Sp := fun vs H Q _ => ∃ (p dx d : Addr) (s n to e l wt : Int), vs = [.ref p] ∧ H p = some (.ins t.c_Parcel dx (fParcel s n to e d l wt)) ∧ ∀ r, H r = none → Q (.ref r) (upd H r (.tup [.int e, .int s, .int n]))
theorem ok_rank (T : Tx K mg t) : FnOk P w K mg base CX0 1 t.f_rank t.d_rank ["parcel"] (spRank t) := by
 refine T.fn_rank.ok sc_rank (fun vs H Q E h => ?_) (fun cdv A outer s H vs Q E hr h => ?_)
 ·obtain ⟨p, dx, d, s, n, to, e, l, wt, rfl, _⟩ := h
  rfl
 ·obtain ⟨p, dx, d, sr, n, to, e, l, wt, rfl, hp, q⟩ := h
  refine ⟨_, (pss_one (ps_ret (pe_tup (pa_cons (pe_fld (pv 0) rfl) (pa_cons (pe_fld (pv 0) rfl) (pa_cons (pe_fld (pv 0) rfl) pa_nil)))))), ?_⟩
  exact ⟨_, rfl, p, _, dx, _, _, rfl, hp, T.cl_Parcel, T.na_Parcel_end, rfl, _, rfl, p, _, dx, _, _, rfl, hp, T.cl_Parcel, T.na_Parcel_source, rfl, _, rfl, p, _, dx, _, _, rfl, hp, T.cl_Parcel, T.na_Parcel_number, rfl,
   (by show 3 ≤ sizeLine; decide), fun r hr => q r hr⟩
def spHas (t : Adr) : Sp := fun vs H Q _ => ∃ (p dx lp lo : Addr) (n i : Int), vs = [.ref p, .int i] ∧ H p = some (.ins t.c_Plan dx (fPlan n lp lo)) ∧ Q (.bl (decide (i < n))) H
theorem ok_Plan_has_node (T : Tx K mg t) : FnOk P w K mg base CX0 1 t.f_Plan_has_node t.d_Plan_has_node ["self", "node"] (spHas t) := by
 refine T.fn_Plan_has_node.ok sc_Plan_has_node (fun vs H Q E h => ?_) (fun cdv A outer s H vs Q E hr h => ?_)
 ·obtain ⟨p, dx, lp, lo, n, i, rfl, _⟩ := h
  rfl
 ·obtain ⟨p, dx, lp, lo, n, i, rfl, hp, q⟩ := h
  refine ⟨_, (pss_one (ps_ret (pe_cmpR op_lt (pv 1) (pe_fld (pv 0) rfl) (nomark _)))), ?_⟩
  exact ⟨_, rfl, _, rfl, p, _, dx, _, _, rfl, hp, T.cl_Plan, T.na_Plan_node_count, rfl, _, _, rfl, rfl, q⟩
end
end Pp
end
section
namespace Pp
open PySem PySem.Spec PyProof.Rows L2
theorem lc_of {J : It} (n : Nat) {g : TG} {tt : TT} {te : TE} {vs : List Nat} {σ : L2.St} {H1 : Hp} {D : Addr} {Qd : Hp → Prop} (Pv : Nat → Hp → Prop) (h0 : Pv 0 (upd H1 D (.lst []))) (hgo : ∀ i H, i < n → Pv i H → J.go i H) (hst : ∀ H, Pv n H → J.stop n H)
  (hs : ∀ i x H H', i < n → Pv i H → J.yld i H x H' → g x (wipe σ vs) H' fun σ2 H2 => wipe σ2 vs = wipe σ vs ∧ tt σ2 H2 fun b H3 =>
   if b = true then te σ2 H3 fun y H4 => ∃ acc, H4 D = some (.lst acc) ∧ acc.length < sizeLine ∧ Pv (i + 1) (upd H4 D (.lst (acc ++ [y]))) else Pv (i + 1) H3) (hd : ∀ H, Pv n H → Qd H) :
  ∃ W : Nat → Nat → Hp → Prop, (∃ m, W 0 m (upd H1 D (.lst []))) ∧ ∀ i m H, W i m H →
   (J.stop i H ∧ Qd H) ∨ (J.go i H ∧ ∃ Nx : Hp → Prop, (∀ H', Nx H' → ∃ m', m' < m ∧ W (i + 1) m' H') ∧ ∀ x H', J.yld i H x H' → g x (wipe σ vs) H' fun σ2 H2 => wipe σ2 vs = wipe σ vs ∧ tt σ2 H2 fun b H3 =>
    if b = true then te σ2 H3 fun y H4 => ∃ acc, H4 D = some (.lst acc) ∧ acc.length < sizeLine ∧ Nx (upd H4 D (.lst (acc ++ [y]))) else Nx H3) := by
 refine ⟨fun i m H => Pv i H ∧ i ≤ n ∧ m = n - i, ⟨n, h0, Nat.zero_le _, rfl⟩, fun i m H ⟨hp, hi, hm⟩ => ?_⟩
 rcases Nat.lt_or_ge i n with h | h
 ·exact .inr ⟨hgo i H h hp, Pv (i + 1), fun H' h' => ⟨n - (i + 1), by omega, h', h, rfl⟩, fun x H' hy => hs i x H H' h hp hy⟩
 ·have e : i = n := Nat.le_antisymm hi h
  subst e
  exact .inl ⟨hst H hp, hd H hp⟩
section
variable {P : Program} {w : World} {K : PySem.W.Frag} {mg : Str → Option Value} {base : Heap} {t : Adr}
def six (x : Sr35.Pass) : List V := [.int x.a, .int x.b, .int x.takes, .int x.none_, .int x.begins, .int x.ends]
def flat6 (q : List Sr35.Pass) : List Int := q.flatMap fun x => [(x.a : Int), x.b, x.takes, x.none_, x.begins, x.ends]
theorem flat6_len (q : List Sr35.Pass) : (flat6 q).length = 6 * q.length := by
 induction q with
 | nil => rfl
 | cons x q ih =>
  show ([(x.a : Int), x.b, x.takes, x.none_, x.begins, x.ends] ++ flat6 q).length = _
  rw [List.length_append, ih]
  show 6 + 6 * q.length = 6 * (q.length + 1)
  omega
theorem flat6_cut : ∀ (q : List Sr35.Pass) (k : Nat) (x : Sr35.Pass), q[k]? = some x → ((flat6 q).drop (6 * k)).take 6 = [(x.a : Int), x.b, x.takes, x.none_, x.begins, x.ends]
 | [], k, x, h => by simp at h
 | y :: q, 0, x, h => by
  have e : y = x := Option.some.inj h
  subst e
  rfl
 | y :: q, k + 1, x, h => by
  have e : (flat6 (y :: q)).drop (6 * (k + 1)) = (flat6 q).drop (6 * k) := by
   show ([(y.a : Int), y.b, y.takes, y.none_, y.begins, y.ends] ++ flat6 q).drop (6 * (k + 1)) = _
   rw [show 6 * (k + 1) = 6 + 6 * k by omega, ← List.drop_drop]
   rfl
  rw [e]
  exact flat6_cut q k x h
theorem cut_six (q : List Sr35.Pass) (k : Nat) (x : Sr35.Pass) (h : q[k]? = some x) : cutV ((flat6 q).map V.int) (some ((6 * k : Nat) : Int)) (some ((6 * k + 6 : Nat) : Int)) = six x := by
 have hk : k < q.length := (List.getElem?_eq_some_iff.mp h).1
 unfold cutV
 rw [List.length_map, flat6_len, HT.sIx_nat, HT.sIx_nat, Nat.min_eq_left (by omega), Nat.min_eq_left (by omega), Nat.add_sub_cancel_left, ← List.map_drop, ← List.map_take, flat6_cut q k x h]
 rfl
def PassAt (t : Adr) (H : Hp) (a : Addr) (k : Nat) (x : Sr35.Pass) : Prop := ∃ dx, H a = some (.ins t.c_Pass dx (fPass k x.a x.b x.takes x.begins x.ends))
def jn (q : List Sr35.Pass) (i : Nat) (k : Nat) : Bool := match q[k]? with
 | none => false
 | some x => decide (i = x.a ∨ i = x.b)
def mineIx (q : List Sr35.Pass) (i : Nat) : List Nat := (List.range q.length).filter (jn q i)
def refsOf (as : List Addr) (ix : List Nat) : List V := ix.map fun k => V.ref (as.getD k 0)
structure PassesAt (t : Adr) (H : Hp) (as : List Addr) (q : List Sr35.Pass) : Prop where
 len : as.length = q.length
 at_ : ∀ (k : Nat) (a : Addr) (x : Sr35.Pass), as[k]? = some a → q[k]? = some x → PassAt t H a k x
theorem PassesAt.same {H H' : Hp} {as : List Addr} {q : List Sr35.Pass} (h : PassesAt t H as q) (s : Same H H') : PassesAt t H' as q := ⟨h.len, fun k a x e1 e2 => let ⟨dx, h1⟩ := h.at_ k a x e1 e2; ⟨dx, s _ _ h1⟩⟩
theorem PassesAt.get {H : Hp} {as : List Addr} {q : List Sr35.Pass} (h : PassesAt t H as q) {k : Nat} {x : Sr35.Pass} (e : q[k]? = some x) : ∃ a, as[k]? = some a ∧ as.getD k 0 = a ∧ PassAt t H a k x := by
 have hk : k < as.length := by rw [h.len]; exact (List.getElem?_eq_some_iff.mp e).1
 refine ⟨as[k], List.getElem?_eq_getElem hk, ?_, h.at_ k _ x (List.getElem?_eq_getElem hk) e⟩
 rw [List.getD_eq_getElem?_getD, List.getElem?_eq_getElem hk]
 rfl
structure PlanAt (t : Adr) (H : Hp) (p : Addr) (n : Nat) (q : List Sr35.Pass) (as ls : List Addr) : Prop where
 obj : ∃ dx lp lo, H p = some (.ins t.c_Plan dx (fPlan n lp lo)) ∧ H lo = some (.lst (ls.map V.ref))
 len : ls.length = n
 pas : PassesAt t H as q
 of : ∀ (i : Nat) (l : Addr), ls[i]? = some l → H l = some (.lst (refsOf as (mineIx q i)))
theorem PlanAt.same {H H' : Hp} {p : Addr} {n : Nat} {q : List Sr35.Pass} {as ls : List Addr} (h : PlanAt t H p n q as ls) (s : Same H H') : PlanAt t H' p n q as ls :=
 ⟨let ⟨dx, lp, lo, h1, h2⟩ := h.obj; ⟨dx, lp, lo, s _ _ h1, s _ _ h2⟩, h.len, h.pas.same s, fun i l e => s _ _ (h.of i l e)⟩
def hidL (H H' : Hp) : Hp := fun b => match H b with
 | some (.lst _) => none
 | _ => H' b
theorem hidL_of {H H' : Hp} {b : Addr} {o : HO} (h : H' b = some o) (n : ∀ xs, H b ≠ some (.lst xs)) : hidL H H' b = some o := by
 unfold hidL
 split
 ·rename_i xs e
  exact absurd e (n xs)
 ·exact h
theorem hidL_get {H H' : Hp} {b : Addr} {o : HO} (h : hidL H H' b = some o) : H' b = some o ∧ ∀ xs, H b ≠ some (.lst xs) := by
 unfold hidL at h
 split at h
 ·cases h
 ·rename_i e
  exact ⟨h, fun xs q => e xs q⟩
theorem hidL_le {H H' : Hp} : Same (hidL H H') H' := fun _ _ h => (hidL_get h).1
theorem hidL_back {H H1 H' : Hp} (s : ∀ b xs, H b = some (.lst xs) → H1 b = some (.lst xs)) : Same (hidL H1 H') (hidL H H') := fun b o h => let ⟨h1, h2⟩ := hidL_get h; hidL_of h1 fun xs q => h2 xs (s b xs q)
theorem small_len {n : Nat} (h : n ≤ 40000) : n < sizeLine := Nat.lt_of_le_of_lt h (by rw [sizeLine_eq]; decide)
theorem small_le {n : Nat} (h : n ≤ 40000) : n ≤ sizeLine := Nat.le_of_lt (small_len h)
def spPasses_at (t : Adr) : Sp := fun vs H Q _ => ∃ (lp : Addr) (as : List Addr) (q : List Sr35.Pass) (i : Nat), vs = [.ref lp, .int i] ∧ H lp = some (.lst (as.map V.ref)) ∧ PassesAt t H as q ∧ q.length ≤ 40000 ∧
 ∀ l, H l = none → Q (.ref l) (upd H l (.lst (refsOf as (mineIx q i))))
theorem mineIx_take (q : List Sr35.Pass) (i j : Nat) : (List.range (j + 1)).filter (jn q i) = (List.range j).filter (jn q i) ++ if jn q i j = true then [j] else [] := by
 rw [List.range_succ, List.filter_append, List.filter_cons, List.filter_nil]
theorem ok_passes_at (T : Tx K mg t) : FnOk P w K mg base CX0 2 t.f_passes_at t.d_passes_at ["passes", "node"] (spPasses_at t) := by
 have G_Pass_joins : FnOk P w K mg base CX0 1 t.f_Pass_joins t.d_Pass_joins ["self", "node"] (spPass_joins t) := ok_Pass_joins T
 refine T.fn_passes_at.ok sc_passes_at (fun vs H Q E h => ?_) (fun cdv A outer s H vs Q E hr h => ?_)
 ·obtain ⟨lp, as, q, i, rfl, _⟩ := h
  rfl
 ·obtain ⟨lp, as, q, i, rfl, hlp, hpa, hq, k⟩ := h
  refine ⟨_, (pss_one (ps_ret (pe_lc (own := [("each", 2)]) rfl sc_passes_at.nd (pi_list (pv 0)) (blkOk_by rfl) (fun _ _ _ _ _ => (pg_name (i := 2) sc_passes_at.nd rfl (by first | exact Or.inl rfl | exact Or.inr rfl))) (fun _ _ _ _ _ => (pts_one (pt_val (pe_meth (pv 2) T.cl_Pass T.me_Pass_joins G_Pass_joins (hr.mono (by decide)) T.bi_Pass_joins .nil pass0 (pa_cons (pv 1) pa_nil))))) (fun _ _ _ _ _ => (pv 2))))), ?_⟩
  refine ⟨_, rfl, lp, rfl, ⟨_, SqL.of hlp⟩, fun D hD => ?_⟩
  have hlD : lp ≠ D := ne_of_none hlp hD
  refine lc_list (K := K) (a := lp) (xs := as.map V.ref) (Qd := fun H' => Q (.ref D) H') (fun j H' => H' = upd H D (.lst (refsOf as ((List.range j).filter (jn q i))))) rfl (fun j H' _ e => ?_) (fun j x H' hx e => ?_) (fun H' e => ?_)
  ·subst e
   exact SqL.of (by rw [upd_ne hlD]; exact hlp)
  ·subst e
   rw [List.getElem?_map] at hx
   cases ea : as[j]? with
   | none => rw [ea] at hx; cases hx
   | some a =>
    rw [ea] at hx
    cases hx
    have hj : j < q.length := by rw [← hpa.len]; exact (List.getElem?_eq_some_iff.mp ea).1
    obtain ⟨x, hx⟩ : ∃ x, q[j]? = some x := ⟨_, List.getElem?_eq_getElem hj⟩
    obtain ⟨a', e1, e2, dx, ha⟩ := hpa.get hx
    rw [ea] at e1
    cases e1
    have haD : a ≠ D := ne_of_none ha hD
    have hjn : jn q i j = decide ((i : Int) = x.a ∨ (i : Int) = x.b) := by
     unfold jn
     rw [hx]
     show decide _ = decide _
     exact decide_eq_decide.mpr (by omega)
    refine ⟨rfl, _, rfl, a, dx, _, rfl, by rw [upd_ne haD]; exact ha, rfl, _, rfl, a, dx, _, _, _, _, _, _, _, rfl, by rw [upd_ne haD]; exact ha, _, rfl, ite2 (fun e => ?_) (fun e => ?_)⟩
    ·refine ⟨_, rfl, _, upd_same, ?_, ?_⟩
     ·rw [refsOf, List.length_map]
      exact small_len (Nat.le_trans (List.length_filter_le _ _) (by rw [List.length_range]; omega))
     ·rw [upd_upd, mineIx_take, if_pos (by rw [hjn]; exact e)]
      unfold refsOf
      rw [List.map_append, List.map_singleton, e2]
    ·rw [mineIx_take, if_neg (by rw [hjn]; exact e), List.append_nil]
  ·subst e
   have hl : (as.map V.ref).length = q.length := by rw [List.length_map, hpa.len]
   rw [hl]
   exact k D hD
def spPlan_init (t : Adr) : Sp := fun vs H Q _ => ∃ (p dx lp : Addr) (as : List Addr) (n : Nat) (q : List Sr35.Pass), vs = [.ref p, .int n, .ref lp] ∧ H p = some (.ins t.c_Plan dx []) ∧ H lp = some (.lst (as.map V.ref)) ∧ PassesAt t H as q ∧ q.length ≤ 40000 ∧ n ≤ 40000 ∧
 ∀ (H' : Hp) (ls : List Addr), PlanAt t (hidL H H') p n q as ls → (∀ b o, H b = some o → b ≠ p → H' b = some o) → Q .non H'
theorem ok_Plan_init (T : Tx K mg t) : FnOk P w K mg base CX0 3 t.f_Plan_init t.d_Plan_init ["self", "node_count", "passes"] (spPlan_init t) := by
 have G_passes_at : FnOk P w K mg base CX0 2 t.f_passes_at t.d_passes_at ["passes", "node"] (spPasses_at t) := ok_passes_at T
 refine T.fn_Plan_init.ok sc_Plan_init (fun vs H Q E h => ?_) (fun cdv A outer s H vs Q E hr h => ?_)
 ·obtain ⟨p, dx, lp, as, n, q, rfl, _⟩ := h
  rfl
 ·obtain ⟨p, dx, lp, as, n, q, rfl, hp, hlp, hpa, hq, hn, k⟩ := h
  have hlpp : lp ≠ p := ne_of hlp hp (by intro z; cases z)
  refine ⟨_, (pss_cons (ps_fld (pv 0) (pv 1) rfl)
   (pss_cons (ps_fld (pv 0) (pv 2) rfl)
   (pss_one (ps_fld (pv 0) (pe_lc (own := [("node", 3)]) rfl sc_Plan_init.nd (pi_range1 rfl T.b_range (pa_cons (pv 1) pa_nil)) (blkOk_by rfl) (fun _ _ _ _ _ => (pg_name (i := 3) sc_Plan_init.nd rfl (by first | exact Or.inl rfl | exact Or.inr rfl))) (fun _ _ _ _ _ => pts_nil) (fun _ _ _ _ _ => (pe_call G_passes_at (hr.mono (by decide)) (by rfl) T.g_passes_at T.kp_passes_at T.bi_passes_at .nil pass0 (pa_cons (pv 2) (pa_cons (pv 3) pa_nil))))) rfl)))), ?_⟩
  refine ⟨_, rfl, _, rfl, p, _, dx, _, rfl, hp, T.cl_Plan, T.na_Plan_node_count, fl 0 rfl, ?_⟩
  refine ⟨_, rfl, _, rfl, p, _, dx, _, rfl, upd_same, T.cl_Plan, T.na_Plan_passes, fl 1 rfl, ?_⟩
  rw [upd_upd]
  generalize hH1 : upd H p _ = H1
  have s1 : ∀ b o, H b = some o → b ≠ p → H1 b = some o := fun b o e ne => by rw [← hH1, upd_ne ne]; exact e
  have hp1 : H1 p = some (.ins t.c_Plan dx (putF "passes" (V.ref lp) (putF "node_count" (V.int n) []))) := by rw [← hH1]; exact upd_same
  have hpa1 : PassesAt t H1 as q := ⟨hpa.len, fun kk a x e1 e2 => by
   obtain ⟨da, h1⟩ := hpa.at_ kk a x e1 e2
   exact ⟨da, s1 _ _ h1 (ne_of h1 hp (by intro z; injection z with z1 z2 z3; cases z3))⟩⟩
  refine ⟨_, rfl, n, rfl, by omega, by omega, fun D hD => ?_⟩
  refine lc_range (lo := 0) (n := (n : Int).toNat) (Pv := fun j H' => ∃ ls : List Addr, Same H1 H' ∧ H' D = some (.lst (ls.map V.ref)) ∧ ls.length = j ∧ ∀ i l, ls[i]? = some l → l ≠ D ∧ H1 l = none ∧ H' l = some (.lst (refsOf as (mineIx q i))))
   ⟨[], same_fresh hD, upd_same, rfl, fun i l e => by simp at e⟩ (fun j H' hj hP => ?_) (fun H' hP => ?_)
  ·obtain ⟨ls, s2, hDl, hl, hls⟩ := hP
   refine ⟨rfl, _, rfl, _, rfl, lp, as, q, j, by simp, s2 _ _ (s1 _ _ hlp hlpp), hpa1.same s2, hq, fun l hl0 => ?_⟩
   have hDne : D ≠ l := ne_of_none hDl hl0
   refine ⟨_, by rw [upd_ne hDne]; exact hDl, ?_, ls ++ [l], ?_, ?_, by rw [List.length_append, hl]; rfl, fun i l' e => ?_⟩
   ·rw [List.length_map, hl]
    exact small_len (by omega)
   ·exact same_over (s2.trans (same_fresh hl0)) hD
   ·rw [upd_same, List.map_append]
    rfl
   ·by_cases hi : i < ls.length
    ·rw [List.getElem?_append_left hi] at e
     obtain ⟨n1, n2, h1⟩ := hls i l' e
     rw [upd_ne n1, upd_ne (ne_of_none h1 hl0)]
     exact ⟨n1, n2, h1⟩
    ·rw [List.getElem?_append_right (by omega)] at e
     have hi2 : i - ls.length = 0 := by
      rcases Nat.eq_zero_or_pos (i - ls.length) with z | z
      ·exact z
      ·rw [List.getElem?_eq_none (by simp; omega)] at e
       cases e
     rw [hi2] at e
     have e3 : l = l' := Option.some.inj e
     subst e3
     have hij : i = j := by omega
     subst hij
     rw [upd_ne (Ne.symm hDne), upd_same]
     exact ⟨Ne.symm hDne, s2.free hl0, rfl⟩
  ·obtain ⟨ls, s2, hDl, hl, hls⟩ := hP
   refine ⟨_, rfl, p, _, dx, _, rfl, s2 _ _ hp1, T.cl_Plan, T.na_Plan_passes_of, fl 2 rfl, ?_⟩
   have hpD : D ≠ p := fun z => by subst z; rw [hD] at hp1; cases hp1
   have ne1 : ∀ {b : Addr} {o : HO}, H' b = some o → (∀ C d f, o ≠ .ins C d f) → b ≠ p := fun h1 h2 z => by
    subst z
    rw [s2 _ _ hp1] at h1
    exact h2 _ _ _ (Option.some.inj h1).symm
   have nl : ∀ {b : Addr}, H1 b = none → ∀ xs, H b ≠ some (.lst xs) := fun {b} h1 xs e => by
    have hb : b ≠ p := fun z => by subst z; rw [hp] at e; cases e
    rw [s1 _ _ e hb] at h1
    cases h1
   refine k _ ls ⟨⟨dx, lp, D, hidL_of upd_same (fun xs z => by rw [hp] at z; cases z), hidL_of (by rw [upd_ne hpD]; exact hDl) (nl hD)⟩, by omega, ?_, fun i l e => ?_⟩ fun b o e ne => ?_
   ·refine ⟨hpa.len, fun kk a x e1 e2 => ?_⟩
    obtain ⟨da, h1⟩ := hpa.at_ kk a x e1 e2
    have nap : a ≠ p := ne_of h1 hp (by intro z; injection z with z1 z2 z3; cases z3)
    exact ⟨da, hidL_of (by rw [upd_ne nap]; exact s2 _ _ (s1 _ _ h1 nap)) (fun xs z => by rw [h1] at z; cases z)⟩
   ·obtain ⟨_, h0, h1⟩ := hls i l e
    exact hidL_of (by rw [upd_ne (ne1 h1 (fun _ _ _ z => by cases z))]; exact h1) (nl h0)
   ·rw [upd_ne ne]
    exact s2 _ _ (s1 _ _ e ne)
end
end Pp
end
section
namespace Pp
open PySem PySem.Spec PyProof.Rows L2
section
variable {P : Program} {w : World} {K : PySem.W.Frag} {mg : Str → Option Value} {base : Heap} {t : Adr}
theorem fitsL {z : Int} (a : -100 ≤ z) (b : z ≤ 1000000) : Builtin.Range.rangeFitsLong z = true := by
 unfold Builtin.Range.rangeFitsLong
 rw [decide_eq_true (show -2 ^ 63 ≤ z by omega), decide_eq_true (show z < 2 ^ 63 by omega)]
 rfl
theorem rg6 (m : Nat) (h : m ≤ 40000) : RgC 0 ((6 * m : Nat) : Int) 6 m := by
 have e : Builtin.Range.rangeSize 0 ((6 * m : Nat) : Int) 6 = m := by
  unfold Builtin.Range.rangeSize
  rw [if_pos (by decide)]
  split <;> omega
 refine ⟨by decide, by decide, ?_, e⟩
 unfold Builtin.Range.small
 rw [e, fitsL (by omega) (by omega), fitsL (by omega) (by omega), fitsL (by omega) (by omega), fitsL (by omega) (by omega), if_pos (by decide), fitsL (by omega) (by omega)]
 simp
theorem nil_get {α : Type} {i : Nat} {x : α} (e : ([] : List α)[i]? = some x) : False := by simp at e
structure SixAt (H : Hp) (as : List Addr) (q : List Sr35.Pass) : Prop where
 len : as.length = q.length
 at_ : ∀ (k : Nat) (a : Addr) (x : Sr35.Pass), as[k]? = some a → q[k]? = some x → H a = some (.lst (six x))
theorem SixAt.same {H H' : Hp} {as : List Addr} {q : List Sr35.Pass} (h : SixAt H as q) (s : Same H H') : SixAt H' as q := ⟨h.len, fun k a x e1 e2 => s _ _ (h.at_ k a x e1 e2)⟩
theorem getElem?_snoc {α : Type} {l : List α} {x y : α} {i : Nat} (e : (l ++ [x])[i]? = some y) : (l[i]? = some y ∧ i < l.length) ∨ (i = l.length ∧ x = y) := by
 by_cases hi : i < l.length
 ·rw [List.getElem?_append_left hi] at e
  exact .inl ⟨e, hi⟩
 ·rw [List.getElem?_append_right (by omega)] at e
  have hi2 : i - l.length = 0 := by
   rcases Nat.eq_zero_or_pos (i - l.length) with z | z
   ·exact z
   ·rw [List.getElem?_eq_none (by simp; omega)] at e
    cases e
  rw [hi2] at e
  exact .inr ⟨by omega, Option.some.inj e⟩
def spSplit : Sp := fun vs H Q _ => ∃ (a : Addr) (q : List Sr35.Pass), vs = [.ref a] ∧ H a = some (.lst ((flat6 q).map V.int)) ∧ q.length ≤ 1000 ∧
 ∀ (H' : Hp) (l : Addr) (as : List Addr), Same H H' → H' l = some (.lst (as.map V.ref)) → SixAt H' as q → Q (.ref l) H'
theorem ok_split_passes (T : Tx K mg t) : FnOk P w K mg base CX0 1 t.f_split_passes t.d_split_passes ["numbers"] spSplit := by
 refine T.fn_split_passes.ok sc_split_passes (fun vs H Q E h => ?_) (fun cdv A outer s H vs Q E hr h => ?_)
 ·obtain ⟨a, q, rfl, _⟩ := h
  rfl
 ·obtain ⟨a, q, rfl, ha, hq, k⟩ := h
  have hlen : ((flat6 q).map V.int).length = 6 * q.length := by rw [List.length_map, flat6_len]
  refine ⟨_, (pss_one (ps_ret (pe_lc (own := [("k", 1)]) rfl sc_split_passes.nd (pi_range3 rfl T.b_range (pa_cons pe_int (pa_cons (pe_callB call_len_seq (by rfl) T.b_len bt_len (pa_cons (pv 0) pa_nil)) (pa_cons (pk (by rfl) T.k_NUMBERS_OF_A_PASS) pa_nil)))) (blkOk_by rfl) (fun _ _ _ _ _ => (pg_name (i := 1) sc_split_passes.nd rfl (by first | exact Or.inl rfl | exact Or.inr rfl))) (fun _ _ _ _ _ => pts_nil) (fun _ _ _ _ _ => (pe_slice (slK (K := K) rfl) (pv 0) (po_some (pv 1)) (po_some (pe_op op_add (pv 1) (pk (by rfl) T.k_NUMBERS_OF_A_PASS)))))))), ?_⟩
  refine ⟨_, rfl, a, _, rfl, .inl (SqL.of ha), 0, _, 6, q.length, rfl, by rw [hlen]; exact rg6 _ (by omega), fun D hD => ?_⟩
  have haD : a ≠ D := ne_of_none ha hD
  refine lc_of q.length (Pv := fun j H' => ∃ as : List Addr, Same H H' ∧ H' D = some (.lst (as.map V.ref)) ∧ as.length = j ∧ ∀ i a x, as[i]? = some a → q[i]? = some x → a ≠ D ∧ H' a = some (.lst (six x)))
   ⟨[], same_fresh hD, upd_same, rfl, fun i l x e => (nil_get e).elim⟩ (fun i H' hi _ => hi) (fun H' _ => Nat.le_refl _) (fun j x H1 H2 hj hP hy => ?_) (fun H' hP => ?_)
  ·obtain ⟨as, s2, hDl, hl, hls⟩ := hP
   obtain ⟨rfl, rfl⟩ := hy
   obtain ⟨x, hx⟩ : ∃ x, q[j]? = some x := ⟨_, List.getElem?_eq_getElem hj⟩
   refine ⟨rfl, _, rfl, _, rfl, _, rfl, _, rfl, _, _, rfl, rfl, _, rfl, a, _, rfl, SqL.of (s2 _ _ ha), fun l hl0 => ?_⟩
   have hDne : D ≠ l := ne_of_none hDl hl0
   have ec : cutV ((flat6 q).map V.int) (some (0 + ((j : Nat) : Int) * 6)) (some (0 + ((j : Nat) : Int) * 6 + 6)) = six x := by
    rw [← cut_six q j x hx]
    congr 2 <;> omega
   rw [ec]
   refine ⟨_, by rw [upd_ne hDne]; exact hDl, ?_, as ++ [l], ?_, ?_, by rw [List.length_append, hl]; rfl, fun i l' x' e ex => ?_⟩
   ·rw [List.length_map, hl]
    exact small_len (by omega)
   ·exact same_over (s2.trans (same_fresh hl0)) hD
   ·rw [upd_same, List.map_append]
    rfl
   ·rcases getElem?_snoc e with ⟨e, _⟩ | ⟨hi, rfl⟩
    ·obtain ⟨n1, h1⟩ := hls i l' x' e ex
     rw [upd_ne n1, upd_ne (ne_of_none h1 hl0)]
     exact ⟨n1, h1⟩
    ·rw [hl] at hi
     subst hi
     rw [hx] at ex
     cases ex
     rw [upd_ne (Ne.symm hDne), upd_same]
     exact ⟨Ne.symm hDne, rfl⟩
  ·obtain ⟨as, s2, hDl, hl, hls⟩ := hP
   exact k H' D as s2 hDl ⟨hl, fun i a x e ex => (hls i a x e ex).2⟩
theorem okPass_iff (n : Nat) (x : Sr35.Pass) : Sr35.okPass n x = true ↔ x.a < n ∧ x.b < n ∧ x.a ≠ x.b ∧ x.none_ = 0 ∧ 1 ≤ x.takes ∧ x.takes ≤ 255 ∧ x.begins < x.ends ∧ x.ends ≤ 1000000 := by
 unfold Sr35.okPass
 rw [show Sr35.LAST = 1000000 from rfl]
 simp only [Bool.and_eq_true, decide_eq_true_eq, bne_iff_ne, beq_iff_eq]
 constructor
 ·rintro ⟨⟨⟨⟨⟨⟨⟨a, b⟩, c⟩, d⟩, e⟩, f⟩, g⟩, h⟩
  exact ⟨a, b, c, d, e, f, g, h⟩
 ·rintro ⟨a, b, c, d, e, f, g, h⟩
  exact ⟨⟨⟨⟨⟨⟨⟨a, b⟩, c⟩, d⟩, e⟩, f⟩, g⟩, h⟩
def spIs_pass : Sp := fun vs H Q _ => ∃ (a : Addr) (n : Nat) (x : Sr35.Pass), vs = [.int n, .ref a] ∧ H a = some (.lst (six x)) ∧ Q (.bl (Sr35.okPass n x)) H
theorem ok_is_pass (T : Tx K mg t) : FnOk P w K mg base CX0 1 t.f_is_pass t.d_is_pass ["node_count", "told"] spIs_pass := by
 refine T.fn_is_pass.ok sc_is_pass (fun vs H Q E h => ?_) (fun cdv A outer s H vs Q E hr h => ?_)
 ·obtain ⟨a, n, x, rfl, _⟩ := h
  rfl
 ·obtain ⟨a, n, x, rfl, ha, q⟩ := h
  have no : (¬ (x.a < n ∧ x.b < n ∧ x.a ≠ x.b ∧ x.none_ = 0 ∧ 1 ≤ x.takes ∧ x.takes ≤ 255 ∧ x.begins < x.ends ∧ x.ends ≤ 1000000)) → Q (.bl false) H := fun z => by
   rw [Bool.eq_false_iff.mpr (fun y => z ((okPass_iff n x).mp y))] at q
   exact q
  have hS : SqL K H a (six x) := SqL.of ha
  refine ⟨_, (pss_cons (ps_set (i := 2) sc_is_pass.nd rfl (by first | exact Or.inl rfl | exact Or.inr rfl) (pe_ix ix_list (pv 1) pe_int (fun _ _ => rfl)))
   (pss_cons (ps_set (i := 3) sc_is_pass.nd rfl (by first | exact Or.inl rfl | exact Or.inr rfl) (pe_ix ix_list (pv 1) pe_int (fun _ _ => rfl)))
   (pss_cons (ps_set (i := 4) sc_is_pass.nd rfl (by first | exact Or.inl rfl | exact Or.inr rfl) (pe_ix ix_list (pv 1) pe_int (fun _ _ => rfl)))
   (pss_cons (ps_set (i := 5) sc_is_pass.nd rfl (by first | exact Or.inl rfl | exact Or.inr rfl) (pe_ix ix_list (pv 1) pe_int (fun _ _ => rfl)))
   (pss_cons (ps_set (i := 6) sc_is_pass.nd rfl (by first | exact Or.inl rfl | exact Or.inr rfl) (pe_ix ix_list (pv 1) pe_int (fun _ _ => rfl)))
   (pss_cons (ps_set (i := 7) sc_is_pass.nd rfl (by first | exact Or.inl rfl | exact Or.inr rfl) (pe_ix ix_list (pv 1) pe_int (fun _ _ => rfl)))
   (pss_cons (ps_if (pw_or (pt_cmpR op_ge (pv 2) (pv 0) (nomark _)) (pw_or (pt_cmpR op_ge (pv 3) (pv 0) (nomark _)) (pw_or1 (pt_cmpR op_eq (pv 2) (pv 3) (nomark _))))).pt (pss_one (ps_ret pe_bl)) pss_nil)
   (pss_cons (ps_if (pw_or (pt_cmpR op_lt (pv 4) (pk (by rfl) T.k_LEAST_TAKES) (nomark _)) (pw_or (pt_cmpR op_gt (pv 4) (pk (by rfl) T.k_MOST_TAKES) (nomark _)) (pw_or1 (pt_cmpR op_ne (pv 5) pe_int (nomark _))))).pt (pss_one (ps_ret pe_bl)) pss_nil)
   (pss_one (ps_ret (pe_and (pe_cmpR op_lt (pv 6) (pv 7) (nomark _)) (pe_one (pe_cmpR op_le (pv 7) (pk (by rfl) T.k_LAST_TIME) (nomark _)))))))))))))), ?_⟩
  refine ⟨_, rfl, a, _, _, _, rfl, rfl, hS, rfl, ?_⟩
  refine ⟨_, rfl, a, _, _, _, rfl, rfl, hS, rfl, ?_⟩
  refine ⟨_, rfl, a, _, _, _, rfl, rfl, hS, rfl, ?_⟩
  refine ⟨_, rfl, a, _, _, _, rfl, rfl, hS, rfl, ?_⟩
  refine ⟨_, rfl, a, _, _, _, rfl, rfl, hS, rfl, ?_⟩
  refine ⟨_, rfl, a, _, _, _, rfl, rfl, hS, rfl, ?_⟩
  refine ⟨_, rfl, _, rfl, _, _, rfl, rfl, _, rfl, ite2 (fun e => ?_) (fun e1 => ?_)⟩
  ·have e := of_decide_eq_true e
   exact iteT (no (by omega))
  have e1 : ¬ ((n : Int) ≤ x.a) := fun z => e1 (decide_eq_true z)
  refine ⟨_, rfl, _, rfl, _, _, rfl, rfl, _, rfl, ite2 (fun e => ?_) (fun e2 => ?_)⟩
  ·have e := of_decide_eq_true e
   exact iteT (no (by omega))
  have e2 : ¬ ((n : Int) ≤ x.b) := fun z => e2 (decide_eq_true z)
  refine ⟨_, rfl, _, rfl, rfl, _, rfl, ite2 (fun e => ?_) (fun e3 => ?_)⟩
  ·rw [dI] at e
   have e := of_decide_eq_true e
   exact no (by omega)
  have e3 : ¬ ((x.a : Int) = x.b) := fun z => e3 (by rw [dI]; exact decide_eq_true z)
  refine ⟨_, rfl, _, _, rfl, rfl, _, rfl, ite2 (fun e => ?_) (fun e4 => ?_)⟩
  ·have e := of_decide_eq_true e
   exact iteT (no (by omega))
  have e4 : ¬ ((x.takes : Int) < 1) := fun z => e4 (decide_eq_true z)
  refine ⟨_, rfl, _, _, rfl, rfl, _, rfl, ite2 (fun e => ?_) (fun e5 => ?_)⟩
  ·have e := of_decide_eq_true e
   exact iteT (no (by omega))
  have e5 : ¬ ((255 : Int) < x.takes) := fun z => e5 (decide_eq_true z)
  refine ⟨_, rfl, rfl, _, rfl, ite2 (fun e => ?_) (fun e6 => ?_)⟩
  ·rw [dI, Bool.not_eq_true', decide_eq_false_iff_not] at e
   exact no (by omega)
  have e6 : (x.none_ : Int) = 0 := by
   rw [dI, Bool.not_eq_true', decide_eq_false_iff_not, Classical.not_not] at e6
   exact e6
  refine ⟨_, rfl, _, rfl, _, _, rfl, rfl, _, rfl, ite2 (fun e7 => ?_) (fun e => ?_)⟩
  ·have e7 : (x.begins : Int) < x.ends := of_decide_eq_true e7
   refine ⟨_, rfl, _, _, rfl, rfl, ?_⟩
   show Q (.bl (decide ((x.ends : Int) ≤ 1000000))) H
   by_cases e8 : (x.ends : Int) ≤ 1000000
   ·rw [decide_eq_true e8]
    rw [(okPass_iff n x).mpr (by omega)] at q
    exact q
   ·rw [decide_eq_false e8]
    exact no (by omega)
  ·have e : ¬ ((x.begins : Int) < x.ends) := fun z => e (decide_eq_true z)
   exact no (by omega)
def goodIt (n : Nat) (q : List Sr35.Pass) : Bool := decide (2 ≤ n) && (decide (n ≤ 32) && (decide (q.length ≤ 128) && q.all (Sr35.okPass n)))
def spIs_plan : Sp := fun vs H Q _ => ∃ (l : Addr) (as : List Addr) (n : Nat) (q : List Sr35.Pass), vs = [.int n, .ref l] ∧ H l = some (.lst (as.map V.ref)) ∧ SixAt H as q ∧ q.length ≤ 1000 ∧ ∀ H', Same H H' → Q (.bl (goodIt n q)) H'
theorem all_take (f : Sr35.Pass → Bool) (q : List Sr35.Pass) : ((q.map f).all id) = q.all f := by
 rw [List.all_map]
 rfl
theorem ok_is_plan (T : Tx K mg t) : FnOk P w K mg base CX0 2 t.f_is_plan t.d_is_plan ["node_count", "passes_told"] spIs_plan := by
 have G_is_pass : FnOk P w K mg base CX0 1 t.f_is_pass t.d_is_pass ["node_count", "told"] spIs_pass := ok_is_pass T
 refine T.fn_is_plan.ok sc_is_plan (fun vs H Q E h => ?_) (fun cdv A outer s H vs Q E hr h => ?_)
 ·obtain ⟨l, as, n, q, rfl, _⟩ := h
  rfl
 ·obtain ⟨l, as, n, q, rfl, hl, h6, hq, k⟩ := h
  have no : (¬ (2 ≤ n ∧ n ≤ 32 ∧ q.length ≤ 128)) → Q (.bl false) H := fun z => by
   have := k H (Same.refl H)
   rw [show goodIt n q = false by
    unfold goodIt
    rw [Bool.eq_false_iff]
    simp only [ne_eq, Bool.and_eq_true, decide_eq_true_eq]
    exact fun y => z ⟨y.1, y.2.1, y.2.2.1⟩] at this
   exact this
  refine ⟨_, (pss_cons (ps_if (pw_or (pt_cmpR op_lt (pv 0) (pk (by rfl) T.k_LEAST_NODES) (nomark _)) (pw_or1 (pt_cmpR op_gt (pv 0) (pk (by rfl) T.k_MOST_NODES) (nomark _)))).pt (pss_one (ps_ret pe_bl)) pss_nil)
   (pss_cons (ps_if (pt_cmpR op_gt (pe_callB call_len_seq (by rfl) T.b_len bt_len (pa_cons (pv 1) pa_nil)) (pk (by rfl) T.k_MOST_PASSES) (nomark _)) (pss_one (ps_ret pe_bl)) pss_nil)
   (pss_one (ps_ret (pe_callB (cr_all rfl) (by rfl) T.b_all bt_all (pa_cons (pe_lc (own := [("told", 2)]) rfl sc_is_plan.nd (pi_list (pv 1)) (blkOk_by rfl) (fun _ _ _ _ _ => (pg_name (i := 2) sc_is_plan.nd rfl (by first | exact Or.inl rfl | exact Or.inr rfl))) (fun _ _ _ _ _ => pts_nil) (fun _ _ _ _ _ => (pe_call G_is_pass (hr.mono (by decide)) (by rfl) T.g_is_pass T.kp_is_pass T.bi_is_pass .nil pass0 (pa_cons (pv 0) (pa_cons (pv 2) pa_nil))))) pa_nil)))))), ?_⟩
  refine ⟨_, rfl, _, _, rfl, rfl, _, rfl, ite2 (fun e => ?_) (fun e1 => ?_)⟩
  ·have e := of_decide_eq_true e
   exact iteT (no (by omega))
  have e1 : ¬ ((n : Int) < 2) := fun z => e1 (decide_eq_true z)
  refine ⟨_, rfl, _, _, rfl, rfl, _, rfl, ite2 (fun e => ?_) (fun e2 => ?_)⟩
  ·have e := of_decide_eq_true e
   exact no (by omega)
  have e2 : ¬ ((32 : Int) < n) := fun z => e2 (decide_eq_true z)
  refine ⟨_, rfl, l, _, rfl, .inl (SqL.of hl), _, _, rfl, rfl, _, rfl, ite2 (fun e => ?_) (fun e3 => ?_)⟩
  ·have e := of_decide_eq_true e
   rw [List.length_map, h6.len] at e
   exact no (by omega)
  have e3 : ¬ ((128 : Int) < q.length) := fun z => e3 (by rw [List.length_map, h6.len]; exact decide_eq_true z)
  refine ⟨_, rfl, l, rfl, ⟨_, SqL.of hl⟩, fun D hD => ?_⟩
  have hlD : l ≠ D := ne_of_none hl hD
  refine lc_list (K := K) (a := l) (xs := as.map V.ref) (Pv := fun j H' => H' = upd H D (.lst (((q.take j).map (Sr35.okPass n)).map V.bl))) rfl (fun j H' _ e => ?_) (fun j x H' hx e => ?_) (fun H' e => ?_)
  ·subst e
   exact SqL.of (by rw [upd_ne hlD]; exact hl)
  ·subst e
   rw [List.getElem?_map] at hx
   cases ea : as[j]? with
   | none => rw [ea] at hx; cases hx
   | some a =>
    rw [ea] at hx
    cases hx
    have hj : j < q.length := by rw [← h6.len]; exact (List.getElem?_eq_some_iff.mp ea).1
    obtain ⟨x, hx⟩ : ∃ x, q[j]? = some x := ⟨_, List.getElem?_eq_getElem hj⟩
    have ha := h6.at_ j a x ea hx
    refine ⟨rfl, _, rfl, _, rfl, a, n, x, rfl, by rw [upd_ne (ne_of_none ha hD)]; exact ha, _, upd_same, ?_, ?_⟩
    ·rw [List.length_map, List.length_map]
     exact small_len (by rw [List.length_take]; omega)
    ·rw [upd_upd, List.take_add_one, hx]
     simp
  ·subst e
   have hl2 : (as.map V.ref).length = q.length := by rw [List.length_map, h6.len]
   rw [hl2, List.take_length]
   refine ⟨D, _, rfl, SqL.of upd_same, ?_⟩
   rw [all_take]
   have := k (upd H D (.lst ((q.map (Sr35.okPass n)).map V.bl))) (same_fresh hD)
   rw [show goodIt n q = q.all (Sr35.okPass n) by
    unfold goodIt
    rw [decide_eq_true (show 2 ≤ n by omega), decide_eq_true (show n ≤ 32 by omega), decide_eq_true (show q.length ≤ 128 by omega)]
    rfl] at this
   exact this
def spPlan_of (t : Adr) : Sp := fun vs H Q _ => ∃ (a : Addr) (n : Nat) (q : List Sr35.Pass), vs = [.int n, .ref a] ∧ H a = some (.lst ((flat6 q).map V.int)) ∧ q.length ≤ 1000 ∧
 (goodIt n q = false → ∀ H', Same H H' → Q .non H') ∧ (goodIt n q = true → ∀ (H' : Hp) (p : Addr) (as ls : List Addr), Same H H' → PlanAt t (hidL H H') p n q as ls → Q (.ref p) H')
theorem ok_plan_of (T : Tx K mg t) : FnOk P w K mg base CX0 5 t.f_plan_of t.d_plan_of ["node_count", "numbers"] (spPlan_of t) := by
 have G_split_passes : FnOk P w K mg base CX0 1 t.f_split_passes t.d_split_passes ["numbers"] spSplit := ok_split_passes T
 have G_is_plan : FnOk P w K mg base CX0 2 t.f_is_plan t.d_is_plan ["node_count", "passes_told"] spIs_plan := ok_is_plan T
 have G_Plan_init : FnOk P w K mg base CX0 3 t.f_Plan_init t.d_Plan_init ["self", "node_count", "passes"] (spPlan_init t) := ok_Plan_init T
 have G_Pass_init : FnOk P w K mg base CX0 1 t.f_Pass_init t.d_Pass_init ["self", "number", "told"] (spPass_init t) := ok_Pass_init T
 refine T.fn_plan_of.ok sc_plan_of (fun vs H Q E h => ?_) (fun cdv A outer s H vs Q E hr h => ?_)
 ·obtain ⟨a, n, q, rfl, _⟩ := h
  rfl
 ·obtain ⟨a, n, q, rfl, ha, hq, kn, ky⟩ := h
  refine ⟨_, (pss_cons (ps_set (i := 2) sc_plan_of.nd rfl (by first | exact Or.inl rfl | exact Or.inr rfl) (pe_call G_split_passes (hr.mono (by decide)) (by rfl) T.g_split_passes T.kp_split_passes T.bi_split_passes .nil pass0 (pa_cons (pv 1) pa_nil)))
   (pss_cons (ps_if (pt_not (pt_val (pe_call G_is_plan (hr.mono (by decide)) (by rfl) T.g_is_plan T.kp_is_plan T.bi_is_plan .nil pass0 (pa_cons (pv 0) (pa_cons (pv 2) pa_nil))))) (pss_one (ps_ret pe_non)) pss_nil)
   (pss_one (ps_ret (pe_make T.mk_Plan G_Plan_init (hr.mono (by decide)) (by rfl) T.gC_Plan T.bi_Plan_init .nil pass0 (pa_cons (pv 0) (pa_cons (pe_lc (own := [("number", 3), ("told", 4)]) rfl sc_plan_of.nd (pi_enum rfl T.b_enumerate (pa_cons (pv 2) pa_nil)) (blkOk_by rfl) (fun _ _ _ _ _ => (pg_tupK (K := K) (n := 2) rfl rfl (pgs_cons (pg_name (i := 3) sc_plan_of.nd rfl (by first | exact Or.inl rfl | exact Or.inr rfl)) (pgs_cons (pg_name (i := 4) sc_plan_of.nd rfl (by first | exact Or.inl rfl | exact Or.inr rfl)) pgs_nil)))) (fun _ _ _ _ _ => pts_nil) (fun _ _ _ _ _ => (pe_make T.mk_Pass G_Pass_init (hr.mono (by decide)) (by rfl) T.gC_Pass T.bi_Pass_init .nil pass0 (pa_cons (pv 3) (pa_cons (pv 4) pa_nil))))) pa_nil))))))), ?_⟩
  refine ⟨_, rfl, a, q, rfl, ha, hq, fun H1 l as s1 hl h6 => ?_⟩
  refine ⟨_, rfl, _, rfl, l, as, n, q, rfl, hl, h6, hq, fun H2 s2 => ?_⟩
  refine ⟨_, rfl, ite2 (fun e => ?_) (fun e => ?_)⟩
  ·exact kn (by simpa using e) H2 (s1.trans s2)
  have hgood : goodIt n q = true := by simpa using e
  have hn : n ≤ 32 ∧ q.length ≤ 128 := by
   unfold goodIt at hgood
   simp only [Bool.and_eq_true, decide_eq_true_eq] at hgood
   exact ⟨hgood.2.1, hgood.2.2.1⟩
  refine ⟨_, rfl, _, rfl, l, _, rfl, SqL.of (s2 _ _ hl), fun D hD => ?_⟩
  have h62 := h6.same s2
  refine lc_of q.length (Pv := fun j H' => ∃ ps : List Addr, Same H2 H' ∧ H' D = some (.lst (ps.map V.ref)) ∧ ps.length = j ∧ ∀ i a x, ps[i]? = some a → q[i]? = some x → a ≠ D ∧ PassAt t H' a i x)
   ⟨[], same_fresh hD, upd_same, rfl, fun i l x e => (nil_get e).elim⟩ (fun i H' hi hP => ?_) (fun H' hP => ?_) (fun j x H3 H4 hj hP hy => ?_) (fun H' hP => ?_)
  ·obtain ⟨ps, s3, _⟩ := hP
   exact ⟨_, _, SqL.of (s3 _ _ (s2 _ _ hl)), List.getElem?_eq_getElem (by rw [List.length_map, h6.len]; exact hi)⟩
  ·obtain ⟨ps, s3, _⟩ := hP
   exact ⟨_, SqL.of (s3 _ _ (s2 _ _ hl)), by rw [List.length_map, h6.len]; exact Nat.le_refl _⟩
  ·obtain ⟨ps, s3, hDl, hpl, hps⟩ := hP
   obtain ⟨Tp, y, rfl, hTn, rfl, hy⟩ := hy
   obtain ⟨x, hx⟩ : ∃ x, q[j]? = some x := ⟨_, List.getElem?_eq_getElem hj⟩
   obtain ⟨aj, haj⟩ : ∃ a, as[j]? = some a := ⟨_, List.getElem?_eq_getElem (by rw [h6.len]; exact hj)⟩
   have ey := hy _ (SqL.of (s3 _ _ (s2 _ _ hl)))
   rw [List.getElem?_map, haj] at ey
   cases ey
   have ha6 := s3 _ _ (h62.at_ j aj x haj hx)
   have sT : Same H3 (upd H3 Tp (.tup [.int ((j : Nat) : Int), .ref aj])) := same_fresh hTn
   refine ⟨Tp, _, rfl, SqT.of upd_same, rfl, _, _, rfl, _, _, rfl, rfl, rfl, _, rfl, _, rfl, fun o do_ ho hd hne => ?_⟩
   have so : Same (upd H3 Tp (.tup [.int ((j : Nat) : Int), .ref aj])) (upd (upd (upd H3 Tp (.tup [.int ((j : Nat) : Int), .ref aj])) do_ (.own o)) o (.ins t.c_Pass do_ [])) := same_over (same_fresh hd) ho
   refine ⟨o, do_, aj, j, x.a, x.b, x.takes, x.none_, x.begins, x.ends, rfl, upd_same, so _ _ (sT _ _ ha6), rfl, ?_⟩
   rw [upd_upd]
   have sF : Same H3 (upd (upd (upd H3 Tp (.tup [.int ((j : Nat) : Int), .ref aj])) do_ (.own o)) o (.ins t.c_Pass do_ (fPass j x.a x.b x.takes x.begins x.ends))) := sT.trans (same_over (same_fresh hd) ho)
   have hDo : D ≠ o := ne_of_none (sT _ _ hDl) ho
   refine ⟨_, sF _ _ hDl, ?_, ps ++ [o], ?_, ?_, by rw [List.length_append, hpl]; rfl, fun i l' x' e ex => ?_⟩
   ·rw [List.length_map, hpl]
    exact small_len (by omega)
   ·exact same_over (s3.trans sF) hD
   ·rw [upd_same, List.map_append]
    rfl
   ·rcases getElem?_snoc e with ⟨e, _⟩ | ⟨hi, rfl⟩
    ·obtain ⟨n1, dd, h1⟩ := hps i l' x' e ex
     exact ⟨n1, dd, by rw [upd_ne n1]; exact sF _ _ h1⟩
    ·rw [hpl] at hi
     subst hi
     rw [hx] at ex
     cases ex
     exact ⟨Ne.symm hDo, do_, by rw [upd_ne (Ne.symm hDo), upd_same]⟩
  ·obtain ⟨ps, s3, hDl, hpl, hps⟩ := hP
   intro o do_ ho hd hne
   have so : Same H' (upd (upd H' do_ (.own o)) o (.ins t.c_Plan do_ [])) := same_over (same_fresh hd) ho
   refine ⟨o, do_, D, ps, n, q, rfl, upd_same, so _ _ hDl, ⟨hpl, fun i a x e ex => ?_⟩, by omega, by omega, fun H5 ls hP5 kp => ⟨rfl, ?_⟩⟩
   ·obtain ⟨_, dd, h1⟩ := hps i a x e ex
    exact ⟨dd, so _ _ h1⟩
   ·refine ky hgood H5 o ps ls (fun b ob e => ?_) (hP5.same (hidL_back fun b xs e => so _ _ (s3 _ _ ((s1.trans s2) _ _ e))))
    have e3 := s3 _ _ ((s1.trans s2) _ _ e)
    exact kp _ _ (so _ _ e3) (ne_of_none e3 ho)
end
end Pp
end
section
namespace Pp
open PySem PySem.Spec PyProof.Rows L2
theorem filter_ne_len : ∀ (l : List Nat) (n : Nat), l.Nodup → l.length ≤ (l.filter fun x => decide (x ≠ n)).length + 1
 | [], n, _ => Nat.zero_le _
 | a :: l, n, h => by
  obtain ⟨h1, h2⟩ := List.nodup_cons.mp h
  by_cases e : a = n
  ·subst e
   rw [List.filter_cons, if_neg (by simp)]
   have : l.filter (fun x => decide (x ≠ a)) = l := List.filter_eq_self.mpr fun x hx => decide_eq_true fun q => h1 (q ▸ hx)
   rw [this, List.length_cons]
   exact Nat.le_refl _
  ·rw [List.filter_cons, if_pos (by simp [e]), List.length_cons, List.length_cons]
   have := filter_ne_len l n h2
   omega
theorem nodup_lt_len : ∀ (n : Nat) (l : List Nat), l.Nodup → (∀ x ∈ l, x < n) → l.length ≤ n
 | 0, [], _, _ => Nat.le_refl _
 | 0, a :: l, _, h => absurd (h a List.mem_cons_self) (Nat.not_lt_zero _)
 | n + 1, l, hn, h => by
  have h1 := filter_ne_len l n hn
  have h2 := nodup_lt_len n (l.filter fun x => decide (x ≠ n)) (hn.filter _) fun x hx => by
   obtain ⟨a, b⟩ := List.mem_filter.mp hx
   have := h x a
   have := of_decide_eq_true b
   omega
  omega
def fV : Option Nat → V
 | none => .non
 | some f => .int f
def WayAt (t : Adr) (H : Hp) (w : Addr) (e : Wy.Ent) : Prop := ∃ dx, H w = some (.ins t.c_Way dx (fWay (.int e.1) (.int e.2.1) (fV e.2.2)))
def bestRel (t : Adr) (H : Hp) (kvs : List (Key × V)) (z : Nat) : Option (Nat × Option Nat) → Prop
 | none => valV kvs (Sum.inl (z : Int)) = none
 | some (a, f) => ∃ w, valV kvs (Sum.inl (z : Int)) = some (.ref w) ∧ WayAt t H w (z, a, f)
structure BestAt (t : Adr) (H : Hp) (b : Addr) (n : Nat) (B : Wy.BM) (kvs : List (Key × V)) : Prop where
 obj : H b = some (.dK kvs)
 nd : (kvs.map (·.1)).Nodup
 lt : ∀ k ∈ kvs.map (·.1), ∃ z : Nat, z < n ∧ k = Sum.inl (z : Int)
 rel : ∀ z : Nat, bestRel t H kvs z (B z)
def keyOf (z f : Nat) : List Key := [Sum.inl (z : Int), Sum.inl (f : Int)]
def entRel (t : Adr) (H : Hp) (kv : List Key × V) (e : Wy.Ent) : Prop := ∃ w f, e.2.2 = some f ∧ f < 128 ∧ e.1 < 32 ∧ kv = (keyOf e.1 f, .ref w) ∧ WayAt t H w e
def code (e : Wy.Ent) : Nat := e.1 * 128 + e.2.2.getD 0
structure LongAt (t : Adr) (H : Hp) (d : Addr) (L : List Wy.Ent) (kvs : List (List Key × V)) : Prop where
 obj : H d = some (.dT kvs)
 rel : Paired (entRel t H) kvs L
 nd : (L.map code).Nodup
theorem LongAt.bound {t : Adr} {H : Hp} {d : Addr} {L : List Wy.Ent} {kvs : List (List Key × V)} (h : LongAt t H d L kvs) : L.length ≤ 4096 ∧ kvs.length = L.length := by
 have h1 : kvs.length = L.length := Paired.length h.rel
 refine ⟨?_, h1⟩
 have h2 : ∀ {kvs : List (List Key × V)} {L : List Wy.Ent}, Paired (entRel t H) kvs L → ∀ x ∈ L.map code, x < 4096 := by
  intro kvs L r
  induction r with
  | nil => intro x hx; cases hx
  | cons q r ih =>
   intro x hx
   rw [List.map_cons] at hx
   rcases List.mem_cons.mp hx with rfl | hx
   ·obtain ⟨w, f, e1, e2, e3, _⟩ := q
    unfold code
    rw [e1]
    simp only [Option.getD_some]
    omega
   ·exact ih x hx
 have := nodup_lt_len 4096 _ h.nd (h2 h.rel)
 rwa [List.length_map] at this
theorem keyOf_inj {z f z' f' : Nat} : keyOf z f = keyOf z' f' ↔ z = z' ∧ f = f' := by
 unfold keyOf
 constructor
 ·intro h
  injection h with h1 h2
  injection h2 with h2 _
  injection h1 with h1
  injection h2 with h2
  exact ⟨by omega, by omega⟩
 ·rintro ⟨rfl, rfl⟩
  rfl
theorem paired_any {t : Adr} {H : Hp} {z f : Nat} : ∀ {kvs : List (List Key × V)} {L : List Wy.Ent}, Paired (entRel t H) kvs L → (kvs.any fun kv => decide (kv.1 = keyOf z f)) = L.any fun e => decide (e.1 = z ∧ e.2.2 = some f)
 | _, _, .nil => rfl
 | _, _, .cons (a := kv) (b := e) q r => by
  rw [List.any_cons, List.any_cons, paired_any r]
  obtain ⟨w, f', e1, _, _, e4, _⟩ := q
  have : decide (kv.1 = keyOf z f) = decide (e.1 = z ∧ e.2.2 = some f) := by
   rw [e4, e1]
   refine decide_eq_decide.mpr ?_
   show keyOf e.1 f' = keyOf z f ↔ _
   rw [keyOf_inj, Option.some.injEq]
  rw [this]
theorem Paired.imp2 {α β : Type} {F G : α → β → Prop} (f : ∀ a b, F a b → G a b) : ∀ {l : List α} {m : List β}, Paired F l m → Paired G l m
 | _, _, .nil => .nil
 | _, _, .cons h t => .cons (f _ _ h) (Paired.imp2 f t)
theorem paired_snoc {α β : Type} {F : α → β → Prop} {a : α} {b : β} (h : F a b) : ∀ {l : List α} {m : List β}, Paired F l m → Paired F (l ++ [a]) (m ++ [b])
 | _, _, .nil => .cons h .nil
 | _, _, .cons q r => .cons q (paired_snoc h r)
theorem paired_put {t : Adr} {H : Hp} {z a f : Nat} {w : Addr} (hf : f < 128) (hz : z < 32) (hw : WayAt t H w (z, a, some f)) : ∀ {kvs : List (List Key × V)} {L : List Wy.Ent}, Paired (entRel t H) kvs L →
  Paired (entRel t H) (kvs.map fun kv => if kv.1 = keyOf z f then (kv.1, .ref w) else kv) (L.map fun e => if e.1 = z ∧ e.2.2 = some f then (z, a, some f) else e)
 | _, _, .nil => .nil
 | _, _, .cons (a := kv) (b := e) q r => by
  rw [List.map_cons, List.map_cons]
  refine .cons ?_ (paired_put hf hz hw r)
  obtain ⟨w', f', e1, e2, e3, e4, e5⟩ := q
  by_cases c : e.1 = z ∧ e.2.2 = some f
  ·have hk : kv.1 = keyOf z f := by
    rw [e4]
    have : f' = f := Option.some.inj (e1.symm.trans c.2)
    show keyOf e.1 f' = keyOf z f
    rw [c.1, this]
   rw [if_pos c, if_pos hk]
   exact ⟨w, f, rfl, hf, hz, by rw [hk], hw⟩
  ·have hk : ¬ kv.1 = keyOf z f := by
    rw [e4]
    intro q
    have q : keyOf e.1 f' = keyOf z f := q
    rw [keyOf_inj] at q
    exact c ⟨q.1, by rw [e1, q.2]⟩
   rw [if_neg c, if_neg hk]
   exact ⟨w', f', e1, e2, e3, e4, e5⟩
theorem LongAt.put {t : Adr} {H H' : Hp} {d w : Addr} {L : List Wy.Ent} {kvs : List (List Key × V)} {z a f : Nat} (h : LongAt t H d L kvs) (hf : f < 128) (hz : z < 32) (hw : WayAt t H' w (z, a, some f)) (hd : H' d = some (.dT (putK kvs (keyOf z f) (.ref w))))
  (hs : ∀ w' e, WayAt t H w' e → WayAt t H' w' e) : LongAt t H' d (Wy.putL L z a (some f)) (putK kvs (keyOf z f) (.ref w)) := by
 have r := Paired.imp2 (G := entRel t H') (fun kv e ⟨w', f', e1, e2, e3, e4, e5⟩ => ⟨w', f', e1, e2, e3, e4, hs _ _ e5⟩) h.rel
 have ha := paired_any (z := z) (f := f) r
 refine ⟨hd, ?_, ?_⟩
 ·unfold putK Wy.putL
  rw [ha]
  split
  ·exact paired_put hf hz hw r
  ·exact paired_snoc ⟨w, f, rfl, hf, hz, rfl, hw⟩ r
 ·unfold Wy.putL
  split
  ·rename_i c
   have : (L.map fun e => if e.1 = z ∧ e.2.2 = some f then ((z, a, some f) : Wy.Ent) else e).map code = L.map code := by
    rw [List.map_map]
    refine List.map_congr_left fun e _ => ?_
    show code (if e.1 = z ∧ e.2.2 = some f then (z, a, some f) else e) = code e
    split
    ·rename_i q
     unfold code
     rw [q.1, q.2]
    ·rfl
   rw [this]
   exact h.nd
  ·rename_i c
   rw [List.map_append, List.map_singleton]
   refine nd_snoc h.nd fun hm => c ?_
   obtain ⟨e, he, hc⟩ := List.mem_map.mp hm
   obtain ⟨j, hj⟩ := List.getElem?_of_mem he
   have hkl : kvs.length = L.length := Paired.length h.rel
   obtain ⟨kv, hkv⟩ : ∃ kv, kvs[j]? = some kv := ⟨_, List.getElem?_eq_getElem (by have := (List.getElem?_eq_some_iff.mp hj).1; omega)⟩
   obtain ⟨e', he', w', f', e1, e2, e3, _⟩ := paired_get h.rel hkv
   rw [hj] at he'
   cases he'
   unfold code at hc
   rw [e1] at hc
   simp only [Option.getD_some] at hc
   refine List.any_eq_true.mpr ⟨e, he, decide_eq_true ⟨by omega, ?_⟩⟩
   rw [e1]
   congr 1
   omega
theorem LongAt.mono {t : Adr} {H H' : Hp} {d : Addr} {L : List Wy.Ent} {kvs : List (List Key × V)} (h : LongAt t H d L kvs) (hd : H' d = some (.dT kvs)) (hs : ∀ w' e, WayAt t H w' e → WayAt t H' w' e) : LongAt t H' d L kvs :=
 ⟨hd, Paired.imp2 (fun kv e ⟨w', f', e1, e2, e3, e4, e5⟩ => ⟨w', f', e1, e2, e3, e4, hs _ _ e5⟩) h.rel, h.nd⟩
theorem keys_putK {kvs : List (Key × V)} {k : Key} {v : V} : (putK kvs k v).map (·.1) = if (kvs.any fun kv => decide (kv.1 = k)) = true then kvs.map (·.1) else kvs.map (·.1) ++ [k] := by
 unfold putK
 split
 ·rw [List.map_map]
  refine List.map_congr_left fun kv _ => ?_
  show (if kv.1 = k then (kv.1, v) else kv).1 = kv.1
  split <;> rfl
 ·rw [List.map_append]
  rfl
theorem BestAt.put {t : Adr} {H H' : Hp} {b w : Addr} {n : Nat} {B : Wy.BM} {kvs : List (Key × V)} {z a : Nat} {f : Option Nat} (h : BestAt t H b n B kvs) (hz : z < n) (hw : WayAt t H' w (z, a, f)) (hb : H' b = some (.dK (putK kvs (Sum.inl (z : Int)) (.ref w))))
  (hs : ∀ w' e, WayAt t H w' e → WayAt t H' w' e) : BestAt t H' b n (Wy.setB B z a f) (putK kvs (Sum.inl (z : Int)) (.ref w)) := by
 refine ⟨hb, ?_, ?_, fun y => ?_⟩
 ·rw [keys_putK]
  split
  ·exact h.nd
  ·rename_i c
   exact nd_snoc h.nd fun hm => c (by
    obtain ⟨kv, hkv, e⟩ := List.mem_map.mp hm
    exact List.any_eq_true.mpr ⟨kv, hkv, decide_eq_true e⟩)
 ·intro k hk
  rw [keys_putK] at hk
  split at hk
  ·exact h.lt k hk
  ·rcases List.mem_append.mp hk with hk | hk
   ·exact h.lt k hk
   ·exact ⟨z, hz, List.mem_singleton.mp hk⟩
 ·unfold Wy.setB
  split
  ·rename_i e
   subst e
   exact ⟨w, by rw [valV_put, if_pos rfl], hw⟩
  ·rename_i e
   have hne : ¬ (Sum.inl (y : Int) : Key) = Sum.inl (z : Int) := fun q => e (by injection q with q; omega)
   have := h.rel y
   unfold bestRel at this ⊢
   split at this
   ·rename_i hB
    rw [valV_put, if_neg hne]
    exact this
   ·rename_i a' f' hB
    obtain ⟨w', h1, h2⟩ := this
    exact ⟨w', by rw [valV_put, if_neg hne]; exact h1, hs _ _ h2⟩
theorem BestAt.mono {t : Adr} {H H' : Hp} {b : Addr} {n : Nat} {B : Wy.BM} {kvs : List (Key × V)} (h : BestAt t H b n B kvs) (hb : H' b = some (.dK kvs)) (hs : ∀ w' e, WayAt t H w' e → WayAt t H' w' e) : BestAt t H' b n B kvs :=
 ⟨hb, h.nd, h.lt, fun z => by
  have := h.rel z
  unfold bestRel at this ⊢
  split at this
  ·rename_i hB
   exact this
  ·rename_i a f hB
   obtain ⟨w, h1, h2⟩ := this
   exact ⟨w, h1, hs _ _ h2⟩⟩
theorem BestAt.bound {t : Adr} {H : Hp} {b : Addr} {n : Nat} {B : Wy.BM} {kvs : List (Key × V)} (h : BestAt t H b n B kvs) : kvs.length ≤ n := by
 have hinj : ((kvs.map (·.1)).map fun k : Key => match k with | .inl i => i.toNat | .inr _ => 0).Nodup := by
  unfold List.Nodup
  rw [List.pairwise_map]
  refine List.Pairwise.imp_of_mem ?_ h.nd
  intro k k' hk hk' hne
  obtain ⟨z, _, rfl⟩ := h.lt k hk
  obtain ⟨z', _, rfl⟩ := h.lt k' hk'
  intro q
  exact hne (by
   have : z = z' := by simpa using q
   rw [this])
 have := nodup_lt_len n _ hinj fun x hx => by
  obtain ⟨k, hk, rfl⟩ := List.mem_map.mp hx
  obtain ⟨z, hz, rfl⟩ := h.lt k hk
  show (z : Int).toNat < n
  omega
 rwa [List.length_map, List.length_map] at this
end Pp
end
section
namespace Pp
open PySem PySem.Spec PyProof.Rows L2
def cands (q : List Sr35.Pass) (w : Wy.Ent) : List Wy.Cand := (mineIx q w.1).map fun k => ⟨w.1, w.2.1, w.2.2, k⟩
def doneAt (q : List Sr35.Pass) (W : List Wy.Ent) (i j : Nat) : List Wy.Cand := (W.take i).flatMap (cands q) ++ match W[i]? with
 | none => []
 | some w => (cands q w).take j
theorem mineIx_sorted (q : List Sr35.Pass) (i : Nat) : (mineIx q i).Pairwise (· < ·) := (List.pairwise_lt_range).filter _
def OkW (W : List Wy.Ent) : Prop := W.length ≤ 1 ∨ ∀ w ∈ W, ∃ f, w.2.2 = some f
theorem done_ord {q : List Sr35.Pass} {W : List Wy.Ent} (ok : OkW W) (ho : W.Pairwise fun a b => Wy.hle a.2.2 b.2.2) {i j k : Nat} {w : Wy.Ent} (hw : W[i]? = some w) (hk : (mineIx q w.1)[j]? = some k) :
  ∀ d ∈ doneAt q W i j, Wy.ext d.f d.q ≤ Wy.ext w.2.2 k := by
 intro d hd
 unfold doneAt at hd
 rw [hw] at hd
 have hi : i < W.length := (List.getElem?_eq_some_iff.mp hw).1
 rcases List.mem_append.mp hd with hd | hd
 ·obtain ⟨w', hw', hd⟩ := List.mem_flatMap.mp hd
  obtain ⟨i', hi'⟩ := List.getElem?_of_mem hw'
  rw [List.getElem?_take] at hi'
  split at hi'
  ·rename_i hlt
   obtain ⟨k', hk', rfl⟩ := List.mem_map.mp hd
   rcases ok with ok | ok
   ·omega
   ·obtain ⟨f, hf⟩ := ok w (List.mem_of_getElem? hw)
    obtain ⟨f', hf'⟩ := ok w' (List.mem_of_getElem? hi')
    have h1 := List.pairwise_iff_getElem.mp ho i' i (by omega) hi hlt
    rw [(List.getElem?_eq_some_iff.mp hw).2, (List.getElem?_eq_some_iff.mp hi').2, hf, hf'] at h1
    rw [hf, hf']
    exact h1
  ·cases hi'
 ·obtain ⟨j', hj'⟩ := List.getElem?_of_mem hd
  rw [List.getElem?_take] at hj'
  split at hj'
  ·rename_i hlt
   unfold cands at hj'
   rw [List.getElem?_map] at hj'
   cases hm : (mineIx q w.1)[j']? with
   | none => rw [hm] at hj'; cases hj'
   | some k' =>
    rw [hm] at hj'
    cases hj'
    have h1 := List.pairwise_iff_getElem.mp (mineIx_sorted q w.1) j' j (List.getElem?_eq_some_iff.mp hm).1 (List.getElem?_eq_some_iff.mp hk).1 hlt
    rw [(List.getElem?_eq_some_iff.mp hm).2, (List.getElem?_eq_some_iff.mp hk).2] at h1
    show w.2.2.getD k' ≤ w.2.2.getD k
    cases w.2.2 with
    | none => exact Nat.le_of_lt h1
    | some f => exact Nat.le_refl _
  ·cases hj'
theorem done_step {q : List Sr35.Pass} {W : List Wy.Ent} {i j k : Nat} {w : Wy.Ent} (hw : W[i]? = some w) (hk : (mineIx q w.1)[j]? = some k) : doneAt q W i (j + 1) = doneAt q W i j ++ [⟨w.1, w.2.1, w.2.2, k⟩] := by
 unfold doneAt
 rw [hw]
 show _ ++ (cands q w).take (j + 1) = _ ++ (cands q w).take j ++ _
 rw [List.take_add_one, List.append_assoc]
 unfold cands
 rw [List.getElem?_map, hk]
 rfl
theorem done_next {q : List Sr35.Pass} {W : List Wy.Ent} {i : Nat} {w : Wy.Ent} (hw : W[i]? = some w) : doneAt q W (i + 1) 0 = doneAt q W i (mineIx q w.1).length := by
 unfold doneAt
 rw [hw, List.take_add_one, hw]
 have e : (cands q w).take (mineIx q w.1).length = cands q w := by
  unfold cands
  exact List.take_of_length_le (by rw [List.length_map]; exact Nat.le_refl _)
 rw [show (match some w with | none => ([] : List Wy.Cand) | some w => (cands q w).take (mineIx q w.1).length) = cands q w from e]
 rw [List.flatMap_append]
 cases W[i + 1]? <;> simp
theorem done_all {q : List Sr35.Pass} {W : List Wy.Ent} : ∀ y u f k, ((y, u, f) : Wy.Ent) ∈ W → (∃ w v, Wy.go q y u [k] = some (w, v)) → (⟨y, u, f, k⟩ : Wy.Cand) ∈ doneAt q W W.length 0 := by
 intro y u f k hm ⟨w, v, hg⟩
 obtain ⟨x, hx, hw, _, _⟩ := Wy.go_one.mp hg
 unfold doneAt
 refine List.mem_append_left _ ?_
 rw [List.take_length]
 refine List.mem_flatMap.mpr ⟨_, hm, List.mem_map.mpr ⟨k, List.mem_filter.mpr ⟨List.mem_range.mpr (List.getElem?_eq_some_iff.mp hx).1, ?_⟩, rfl⟩⟩
 unfold jn
 rw [hx]
 refine decide_eq_true ?_
 unfold Sr35.other at hw
 split at hw
 ·rename_i e; exact .inl e.symm
 ·split at hw
  ·rename_i e; exact .inr e.symm
  ·cases hw
section
variable {P : Program} {w : World} {K : PySem.W.Frag} {mg : Str → Option Value} {base : Heap} {t : Adr}
def Keeps (b : Addr) (H H' : Hp) : Prop := ∀ x o, H x = some o → x ≠ b → H' x = some o
theorem Keeps.refl (b : Addr) (H : Hp) : Keeps b H H := fun _ _ e _ => e
theorem Keeps.trans {b : Addr} {H H1 H2 : Hp} (h : Keeps b H H1) (h' : Keeps b H1 H2) : Keeps b H H2 := fun x o e n => h' x o (h x o e n) n
def WaysAt (t : Adr) (H : Hp) (ws : List Addr) (W : List Wy.Ent) : Prop := Paired (fun w e => WayAt t H w e) ws W
theorem wayAt_keeps {H H' : Hp} {b : Addr} {kvs : List (Key × V)} (hb : H b = some (.dK kvs)) (k : Keeps b H H') {x : Addr} {e : Wy.Ent} (h : WayAt t H x e) : WayAt t H' x e := by
 obtain ⟨dx, h1⟩ := h
 exact ⟨dx, k _ _ h1 (ne_of h1 hb (by intro z; cases z))⟩
def spSooner (t : Adr) : Sp := fun vs H Q _ => ∃ (p lw b : Addr) (ws as ls : List Addr) (n : Nat) (q : List Sr35.Pass) (i0 t0 R : Nat) (W : List Wy.Ent) (hist : List Wy.Lab) (B : Wy.BM) (kvs : List (Key × V)),
 vs = [.ref p, .ref lw, .ref b] ∧ PlanAt t H p n q as ls ∧ H lw = some (.lst (ws.map V.ref)) ∧ WaysAt t H ws W ∧ BestAt t H b n B kvs ∧ Wy.Rnd q i0 t0 R W hist B ∧ OkW W ∧ (∀ w ∈ W, w.1 < n) ∧ (∀ x ∈ q, Sr35.okPass n x = true) ∧ n ≤ 32 ∧ q.length ≤ 128 ∧
 ∀ (H' : Hp) (l : Addr) (ws' : List Addr) (L : List Wy.Ent) (hist' : List Wy.Lab) (B' : Wy.BM) (kvs' : List (Key × V)), Keeps b H H' → H' l = some (.lst (ws'.map V.ref)) → WaysAt t H' ws' L → BestAt t H' b n B' kvs' → Wy.Rnd q i0 t0 (R + 1) L hist' B' → OkW L → (∀ w ∈ L, w.1 < n) →
  Wy.total n B' ≤ Wy.total n B → (L ≠ [] → Wy.total n B' < Wy.total n B) → Q (.ref l) H'
theorem paired_lst {t : Adr} {H : Hp} : ∀ {kvs : List (List Key × V)} {L : List Wy.Ent}, Paired (entRel t H) kvs L → ∃ ws : List Addr, kvs.map (·.2) = ws.map V.ref ∧ WaysAt t H ws L
 | _, _, .nil => ⟨[], rfl, .nil⟩
 | _, _, .cons q r => by
  obtain ⟨ws, h1, h2⟩ := paired_lst r
  obtain ⟨x, f, _, _, _, e4, e5⟩ := q
  exact ⟨x :: ws, by rw [List.map_cons, List.map_cons, h1, e4], .cons e5 h2⟩
theorem ok_sooner (T : Tx K mg t) : FnOk P w K mg base CX0 3 t.f_sooner_by_one_more t.d_sooner_by_one_more ["plan", "ways", "best"] (spSooner t) := by
 have G_Pass_soonest_sending : FnOk P w K mg base CX0 1 t.f_Pass_soonest_sending t.d_Pass_soonest_sending ["self", "time"] (spPass_soonest t) := ok_Pass_soonest_sending T
 have G_Pass_is_open_at : FnOk P w K mg base CX0 1 t.f_Pass_is_open_at t.d_Pass_is_open_at ["self", "time"] (spPass_open t) := ok_Pass_is_open_at T
 have G_Pass_other_end : FnOk P w K mg base CX0 1 t.f_Pass_other_end t.d_Pass_other_end ["self", "node"] (spPass_other t) := ok_Pass_other_end T
 have G_Way_init : FnOk P w K mg base CX0 1 t.f_Way_init t.d_Way_init ["self", "at", "arrives", "first"] (spWay_init t) := ok_Way_init T
 refine T.fn_sooner_by_one_more.ok sc_sooner_by_one_more (fun vs H Q E h => ?_) (fun cdv A outer s H vs Q E hr h => ?_)
 ·obtain ⟨p, lw, b, ws, as, ls, n, q, i0, t0, R, W, hist, B, kvs, rfl, _⟩ := h
  rfl
 ·obtain ⟨p, lw, b, ws, as, ls, n, q, i0, t0, R, W, hist0, B0, kvs0, rfl, hP, hlw, hws, hB0, hR, hokW, hWn, hok, hn, hq, k⟩ := h
  have hu := hu_of hr
  refine ⟨_, (pss_cons (ps_set (i := 3) sc_sooner_by_one_more.nd rfl (by first | exact Or.inl rfl | exact Or.inr rfl) pe_dnewT)
   (pss_cons (ps_for PassesOwn.never rfl (pi_list (pv 1)) (pg_name (i := 4) sc_sooner_by_one_more.nd rfl (by first | exact Or.inl rfl | exact Or.inr rfl)) (pss_one (ps_for PassesOwn.never rfl (pi_list (pe_ix ix_list (pe_fld (pv 0) rfl) (pe_fld (pv 4) rfl) (fun _ _ => rfl))) (pg_name (i := 5) sc_sooner_by_one_more.nd rfl (by first | exact Or.inl rfl | exact Or.inr rfl)) (pss_cons (ps_set (i := 6) sc_sooner_by_one_more.nd rfl (by first | exact Or.inl rfl | exact Or.inr rfl) (pe_meth (pv 5) T.cl_Pass T.me_Pass_soonest_sending G_Pass_soonest_sending (hr.mono (by decide)) T.bi_Pass_soonest_sending .nil pass0 (pa_cons (pe_fld (pv 4) rfl) pa_nil)))
   (pss_cons (ps_if (pt_not (pt_val (pe_meth (pv 5) T.cl_Pass T.me_Pass_is_open_at G_Pass_is_open_at (hr.mono (by decide)) T.bi_Pass_is_open_at .nil pass0 (pa_cons (pv 6) pa_nil)))) (pss_one ps_continue) pss_nil)
   (pss_cons (ps_set (i := 7) sc_sooner_by_one_more.nd rfl (by first | exact Or.inl rfl | exact Or.inr rfl) (pe_meth (pv 5) T.cl_Pass T.me_Pass_other_end G_Pass_other_end (hr.mono (by decide)) T.bi_Pass_other_end .nil pass0 (pa_cons (pe_fld (pv 4) rfl) pa_nil)))
   (pss_cons (ps_set (i := 8) sc_sooner_by_one_more.nd rfl (by first | exact Or.inl rfl | exact Or.inr rfl) (pe_op op_add (pv 6) (pe_fld (pv 5) rfl)))
   (pss_cons (ps_if (pw_and (pt_cmp (pc_din hu (pv 7) (pv 2))) (pw_and1 (pt_cmpR op_le (pe_fld (pe_dget hu (pv 2) (pv 7) (fun _ _ => rfl)) rfl) (pv 8) (nomark _)))).pt (pss_one ps_continue) pss_nil)
   (pss_cons (ps_set (i := 9) sc_sooner_by_one_more.nd rfl (by first | exact Or.inl rfl | exact Or.inr rfl) (pe_ifExp (pt_cmp (pc_isN (pe_fld (pv 4) rfl))) (pe_fld (pv 5) rfl) (pe_fld (pv 4) rfl)))
   (pss_cons (ps_dput hu (pv 2) (pv 7) (pe_make T.mk_Way G_Way_init (hr.mono (by decide)) (by rfl) T.gC_Way T.bi_Way_init .nil pass0 (pa_cons (pv 7) (pa_cons (pv 8) (pa_cons (pv 9) pa_nil)))) rfl)
   (pss_one (ps_dput hu (pv 3) (pe_tup (pa_cons (pv 7) (pa_cons (pv 9) pa_nil))) (pe_dget hu (pv 2) (pv 7) (fun _ _ => rfl)) rfl))))))))))))
   (pss_one (ps_ret (pe_callTy (call_listVals rfl) (by rfl) T.b_list bt_list (pa_cons (pe_valuesT (pv 3)) pa_nil)))))), ?_⟩
  intro d hd
  have hbd : b ≠ d := ne_of_none hB0.obj hd
  have hlwd : lw ≠ d := ne_of_none hlw hd
  have hlwb : lw ≠ b := ne_of hlw hB0.obj (by intro z; cases z)
  have hwl : ws.length = W.length := Paired.length hws
  let Mid : Nat → Nat → Hp → Prop := fun i j H' => ∃ (hist : List Wy.Lab) (B : Wy.BM) (L : List Wy.Ent) (kvs : List (Key × V)) (lkvs : List (List Key × V)), Keeps b H H' ∧ BestAt t H' b n B kvs ∧ LongAt t H' d L lkvs ∧ Wy.Mid q i0 t0 R W (doneAt q W i j) hist B L ∧
   (∀ w ∈ L, w.1 < n) ∧ Wy.total n B ≤ Wy.total n B0 ∧ (L ≠ [] → Wy.total n B < Wy.total n B0)
  have mid0 : Mid 0 0 (upd H d (.dT [])) := by
   refine ⟨hist0, B0, [], kvs0, [], fun x o e _ => same_fresh hd _ _ e, ?_, ⟨upd_same, .nil, List.nodup_nil⟩, ?_, (fun w hw => by cases hw), Nat.le_refl _, fun z => absurd rfl z⟩
   ·exact hB0.mono (by rw [upd_ne hbd]; exact hB0.obj) fun w' e ⟨dx, h1⟩ => ⟨dx, same_fresh hd _ _ h1⟩
   ·have e : doneAt q W 0 0 = [] := by
     unfold doneAt
     cases W[0]? <;> simp
    rw [e]
    exact hR.enter
  refine ⟨_, rfl, lw, rfl, ⟨_, SqL.of (by rw [upd_ne hlwd]; exact hlw)⟩, for_list (K := K) (a := lw) (xs := ws.map V.ref)
   (fun i σ H' => (∃ v4 v5 v6 v7 v8 v9 : Option V, σ = [some (.ref p), some (.ref lw), some (.ref b), some (.ref d), v4, v5, v6, v7, v8, v9]) ∧ Mid i 0 H')
   ⟨⟨none, none, none, none, none, none, rfl⟩, mid0⟩ (fun i σ H' _ hI => ?_) ?_ ?_⟩
  ·obtain ⟨_, hist, B, L, kvs, lkvs, kp, _⟩ := hI
   exact SqL.of (kp _ _ hlw hlwb)
  ·rintro i y σ H' hi ⟨⟨v4, v5, v6, v7, v8, v9, rfl⟩, hM⟩
   rw [List.getElem?_map] at hi
   cases hwa : ws[i]? with
   | none => rw [hwa] at hi; cases hi
   | some wa =>
   rw [hwa] at hi
   cases hi
   obtain ⟨e, he, dw, hway0⟩ := paired_get hws hwa
   have hwb : wa ≠ b := ne_of hway0 hB0.obj (by intro z; cases z)
   have hen : e.1 < n := hWn e (List.mem_of_getElem? he)
   obtain ⟨dpl, lp, lo, hpl, hlo⟩ := hP.obj
   obtain ⟨li, hli⟩ : ∃ li, ls[e.1]? = some li := ⟨_, List.getElem?_eq_getElem (by rw [hP.len]; exact hen)⟩
   have hl0 := hP.of e.1 li hli
   have hlib : li ≠ b := ne_of hl0 hB0.obj (by intro z; cases z)
   have kp0 : Keeps b H H' := by
    obtain ⟨hist, B, L, kvs, lkvs, kp, _⟩ := hM
    exact kp
   refine ⟨_, rfl, p, _, dpl, _, _, rfl, kp0 _ _ hpl (ne_of hpl hB0.obj (by intro z; cases z)), T.cl_Plan, T.na_Plan_passes_of, rfl, _, rfl, wa, _, dw, _, _, rfl, kp0 _ _ hway0 hwb, T.cl_Way, T.na_Way_at, rfl,
    lo, _, _, _, rfl, rfl, SqL.of (kp0 _ _ hlo (ne_of hlo hB0.obj (by intro z; cases z))), atI_nat (j := e.1) (by rw [List.getElem?_map, hli]; rfl), li, rfl, ⟨_, SqL.of (kp0 _ _ hl0 hlib)⟩, ?_⟩
   refine for_list (K := K) (a := li) (xs := refsOf as (mineIx q e.1))
    (fun j σ H' => (∃ v5 v6 v7 v8 v9 : Option V, σ = [some (.ref p), some (.ref lw), some (.ref b), some (.ref d), some (.ref wa), v5, v6, v7, v8, v9]) ∧ Mid i j H')
    ⟨⟨v5, v6, v7, v8, v9, rfl⟩, hM⟩ (fun j σ H2 _ hI => ?_) ?_ ?_
   ·obtain ⟨_, hist, B, L, kvs, lkvs, kp, _⟩ := hI
    exact SqL.of (kp _ _ hl0 hlib)
   ·rintro j y σ H2 hj ⟨⟨v5, v6, v7, v8, v9, rfl⟩, hM⟩
    obtain ⟨hist, B, L, kvs, lkvs, kp, hB, hL, hMid, hLn, ht1, ht2⟩ := hM
    unfold refsOf at hj
    rw [List.getElem?_map] at hj
    cases hk0 : (mineIx q e.1)[j]? with
    | none => rw [hk0] at hj; cases hj
    | some k0 =>
    rw [hk0] at hj
    have hj := Option.some.inj hj
    have hmem := List.mem_of_getElem? hk0
    obtain ⟨hk1, hjn⟩ := List.mem_filter.mp hmem
    obtain ⟨x, hx⟩ : ∃ x, q[k0]? = some x := ⟨_, List.getElem?_eq_getElem (List.mem_range.mp hk1)⟩
    have hjoin : e.1 = x.a ∨ e.1 = x.b := by
     unfold jn at hjn
     rw [hx] at hjn
     exact of_decide_eq_true hjn
    obtain ⟨pa, hpa1, hpa2, dp, hpass0⟩ := hP.pas.get hx
    have hy : y = V.ref pa := hj.symm.trans (congrArg V.ref hpa2)
    subst hy
    have hpass : H2 pa = some (.ins t.c_Pass dp (fPass k0 x.a x.b x.takes x.begins x.ends)) := kp _ _ hpass0 (ne_of hpass0 hB0.obj (by intro z; cases z))
    have hway : H2 wa = some (.ins t.c_Way dw (fWay (.int e.1) (.int e.2.1) (fV e.2.2))) := kp _ _ hway0 hwb
    have okx := Wy.okP (hok x (List.mem_of_getElem? hx))
    have hs : (if (x.begins : Int) > (e.2.1 : Int) then (x.begins : Int) else (e.2.1 : Int)) = ((max e.2.1 x.begins : Nat) : Int) := by split <;> omega
    obtain ⟨z, hz, hzi⟩ : ∃ z, Sr35.other x e.1 = some z ∧ (if (e.1 : Int) = (x.a : Int) then (x.b : Int) else (x.a : Int)) = (z : Int) := by
     unfold Sr35.other
     by_cases c : x.a = e.1
     ·exact ⟨x.b, if_pos c, if_pos (by omega)⟩
     ·refine ⟨x.a, ?_, if_neg (by omega)⟩
      rw [if_neg c, if_pos (by omega)]
    have hzn : z < n := Wy.other_lt (hok x (List.mem_of_getElem? hx)) hz
    have hord := done_ord hokW hR.ord he hk0
    refine ⟨_, rfl, pa, dp, _, rfl, hpass, rfl, _, rfl, wa, _, dw, _, _, rfl, hway, T.cl_Way, T.na_Way_arrives, rfl, pa, dp, _, _, _, _, _, _, _, rfl, hpass, ?_⟩
    rw [hs]
    refine ⟨_, rfl, pa, dp, _, rfl, hpass, rfl, _, rfl, pa, dp, _, _, _, _, _, _, _, rfl, hpass, _, rfl, ite2 (fun c => ?_) (fun c => ?_)⟩
    ·refine ⟨⟨_, _, _, _, _, rfl⟩, hist, B, L, kvs, lkvs, kp, hB, hL, ?_, hLn, ht1, ht2⟩
     rw [done_step he hk0]
     refine hMid.closed ⟨e.1, e.2.1, e.2.2, k0⟩ fun w' v' hg => ?_
     obtain ⟨x', hx', _, ho, _⟩ := Wy.go_one.mp hg
     rw [hx] at hx'
     cases hx'
     have ho : max e.2.1 x.begins < x.ends := ho
     simp only [Bool.not_eq_true', decide_eq_false_iff_not] at c
     exact c ⟨by omega, by omega⟩
    have hopen : max e.2.1 x.begins < x.ends := by
     simp only [Bool.not_eq_true', decide_eq_false_iff_not, Classical.not_not] at c
     omega
    have hgo : Wy.go q e.1 e.2.1 [k0] = some (z, max e.2.1 x.begins + x.takes) := Wy.go_one.mpr ⟨x, hx, hz, hopen, rfl⟩
    refine ⟨_, rfl, pa, dp, _, rfl, hpass, rfl, _, rfl, wa, _, dw, _, _, rfl, hway, T.cl_Way, T.na_Way_at, rfl, pa, dp, _, _, _, _, _, _, _, rfl, hpass, ?_⟩
    rw [hzi]
    refine ⟨_, rfl, _, rfl, pa, _, dp, _, _, rfl, hpass, T.cl_Pass, T.na_Pass_takes, rfl, _, _, rfl, rfl, ?_⟩
    have hv : ((max e.2.1 x.begins : Nat) : Int) + (x.takes : Int) = ((max e.2.1 x.begins + x.takes : Nat) : Int) := by omega
    rw [show (fun i j => V.int (i + j)) ((max e.2.1 x.begins : Nat) : Int) (x.takes : Int) = V.int ((max e.2.1 x.begins + x.takes : Nat) : Int) from congrArg V.int hv]
    generalize hvv : max e.2.1 x.begins + x.takes = v at hgo ⊢
    have hvb : v < Wy.BIG := by
     have h1 := okx.en
     have h2 := okx.t2
     have h3 : Sr35.LAST = 1000000 := rfl
     have h4 : Wy.BIG = 2000000 := rfl
     omega
    have hrel := hB.rel z
    have rest : ∀ (Bz : ∀ a f, B z = some (a, f) → v < a), (tSeq (tAsg (tIf (tB (tIsN (tFld K (tVar 4) "first"))) (tFld K (tVar 5) "number") (tFld K (tVar 4) "first")) (gName 9)) (tSeq (sDPut (tVar 2) (tVar 7) (tMake t.c_Way (spWay_init t) [] E0 (tCons (tVar 7) (tCons (tVar 8) (tCons (tVar 9) tNil))))) (sDPut (tVar 3) (tTup (tCons (tVar 7) (tCons (tVar 9) tNil))) (tDGet (tVar 2) (tVar 7)))))
      { nx := fun σ H' => (∃ v5 v6 v7 v8 v9 : Option V, σ = [some (.ref p), some (.ref lw), some (.ref b), some (.ref d), some (.ref wa), v5, v6, v7, v8, v9]) ∧ Mid i (j + 1) H', rt := Q }
      [some (.ref p), some (.ref lw), some (.ref b), some (.ref d), some (.ref wa), some (.ref pa), some (.int ((max e.2.1 x.begins : Nat) : Int)), some (.int z), some (.int v), v9] H2 := by
     intro hless
     have hfx : Wy.ext e.2.2 k0 < 128 := by
      obtain ⟨r, g1, _, g3⟩ := hR.h.sound _ (hR.ent e (List.mem_of_getElem? he))
      cases he2 : e.2.2 with
      | none =>
       have := List.mem_range.mp hk1
       show k0 < 128
       omega
      | some f =>
       have g3 : r.head? = e.2.2 := g3
       rw [he2] at g3
       cases r with
       | nil => cases g3
       | cons f' r =>
        cases g3
        obtain ⟨x', _, hx', _⟩ := Wy.go_cons.mp g1
        have := (List.getElem?_eq_some_iff.mp hx').1
        show f < 128
        omega
     generalize hfe : Wy.ext e.2.2 k0 = fx at hfx
     have fin : (tSeq (sDPut (tVar 2) (tVar 7) (tMake t.c_Way (spWay_init t) [] E0 (tCons (tVar 7) (tCons (tVar 8) (tCons (tVar 9) tNil))))) (sDPut (tVar 3) (tTup (tCons (tVar 7) (tCons (tVar 9) tNil))) (tDGet (tVar 2) (tVar 7))))
       { nx := fun σ H' => (∃ v5 v6 v7 v8 v9 : Option V, σ = [some (.ref p), some (.ref lw), some (.ref b), some (.ref d), some (.ref wa), v5, v6, v7, v8, v9]) ∧ Mid i (j + 1) H', rt := Q }
       [some (.ref p), some (.ref lw), some (.ref b), some (.ref d), some (.ref wa), some (.ref pa), some (.int ((max e.2.1 x.begins : Nat) : Int)), some (.int z), some (.int v), some (.int fx)] H2 := by
      refine ⟨_, rfl, _, rfl, _, rfl, fun o do_ ho hdo hne => ⟨o, do_, _, _, _, rfl, upd_same, ?_⟩⟩
      rw [upd_upd]
      have sA : Same H2 (upd (upd H2 do_ (.own o)) o (.ins t.c_Way do_ (fWay (.int z) (.int v) (.int fx)))) := same_over (same_fresh hdo) ho
      generalize hHa : upd (upd H2 do_ (.own o)) o (.ins t.c_Way do_ (fWay (.int z) (.int v) (.int fx))) = Ha at sA
      have hao : Ha o = some (.ins t.c_Way do_ (fWay (.int z) (.int v) (.int fx))) := by rw [← hHa]; exact upd_same
      have hob : o ≠ b := fun q => by rw [q, hB.obj] at ho; cases ho
      have hod : o ≠ d := fun q => by rw [q, hL.obj] at ho; cases ho
      refine ⟨rfl, _, rfl, _, rfl, b, _, rfl, DPut.k (k := Sum.inl (z : Int)) (sA _ _ hB.obj) (small_len (Nat.le_trans hB.bound (by omega))), ?_⟩
      refine ⟨_, rfl, _, rfl, b, .ref o, rfl, .inl ⟨_, Sum.inl (z : Int), .inl upd_same, rfl, by rw [valV_put, if_pos rfl]⟩, _, rfl, _, rfl, _, rfl, (by show 2 ≤ sizeLine; decide), fun tp htp => ?_⟩
      generalize hHb : upd Ha b (.dK (putK kvs (Sum.inl (z : Int)) (.ref o))) = Hb at htp
      have hbb : Hb b = some (.dK (putK kvs (Sum.inl (z : Int)) (.ref o))) := by rw [← hHb]; exact upd_same
      have kB : ∀ y u, Ha y = some u → y ≠ b → Hb y = some u := fun y u e ne => by rw [← hHb, upd_ne ne]; exact e
      have hbd2 : Hb d = some (.dT lkvs) := kB _ _ (sA _ _ hL.obj) (Ne.symm hbd)
      have hdt : d ≠ tp := ne_of_none hbd2 htp
      refine ⟨d, _, rfl, DPut.t (k := keyOf z fx) (by rw [upd_ne hdt]; exact hbd2) upd_same (small_len (by have := hL.bound; omega)), ⟨_, _, _, _, _, rfl⟩, ?_⟩
      generalize hHd : upd (upd Hb tp (.tup [.int z, .int fx])) d (.dT (putK lkvs (keyOf z fx) (.ref o))) = Hd
      have hdd : Hd d = some (.dT (putK lkvs (keyOf z fx) (.ref o))) := by rw [← hHd]; exact upd_same
      have kD : ∀ y u, Hb y = some u → y ≠ d → Hd y = some u := fun y u e ne => by rw [← hHd, upd_ne ne, upd_ne (ne_of_none e htp)]; exact e
      have kAll : ∀ y u, H2 y = some u → y ≠ b → y ≠ d → Hd y = some u := fun y u e n1 n2 => kD _ _ (kB _ _ (sA _ _ e) n1) n2
      have kW : ∀ w' e', WayAt t H2 w' e' → WayAt t Hd w' e' := fun w' e' ⟨dx, h1⟩ => ⟨dx, kAll _ _ h1 (ne_of h1 hB.obj (by intro q; cases q)) (ne_of h1 hL.obj (by intro q; cases q))⟩
      have hwo : WayAt t Hd o (z, v, some fx) := ⟨do_, kD _ _ (kB _ _ hao hob) hod⟩
      have hlt : Wy.total n (Wy.setB B z v (some fx)) < Wy.total n B := by
       refine Wy.total_lt hzn ?_
       unfold Wy.worth
       split
       ·exact hvb
       ·rename_i a f hBz
        exact hless a f hBz
      refine ⟨hist ++ [⟨z, v, R + 1, some fx⟩], Wy.setB B z v (some fx), Wy.putL L z v (some fx), _, _, fun y u e ne => ?_, hB.put hzn hwo (kD _ _ hbb hbd) kW, hL.put hfx (by omega) hwo hdd kW, ?_, fun w' hw' => ?_, by omega, fun _ => by omega⟩
      ·exact kAll _ _ (kp y u e ne) ne (fun q => by rw [q, hd] at e; cases e)
      ·rw [done_step he hk0]
       have := hMid.put ⟨e.1, e.2.1, e.2.2, k0⟩ (List.mem_of_getElem? he) hord hgo hless
       rw [show Wy.ext (⟨e.1, e.2.1, e.2.2, k0⟩ : Wy.Cand).f (⟨e.1, e.2.1, e.2.2, k0⟩ : Wy.Cand).q = fx from hfe] at this
       exact this
      ·rcases Wy.mem_putL hw' with rfl | hw'
       ·exact hzn
       ·exact hLn w' hw'
     refine ⟨_, rfl, wa, _, dw, _, _, rfl, hway, T.cl_Way, T.na_Way_first, rfl, _, rfl, ?_⟩
     cases he2 : e.2.2 with
     | none =>
      have hfk : k0 = fx := by rw [← hfe, he2]; rfl
      refine iteT ⟨_, rfl, pa, _, dp, _, _, rfl, hpass, T.cl_Pass, T.na_Pass_number, rfl, ?_⟩
      rw [hfk]
      exact fin
     | some f =>
      have hfk : f = fx := by rw [← hfe, he2]; rfl
      refine iteF ⟨_, rfl, wa, _, dw, _, _, rfl, hway, T.cl_Way, T.na_Way_first, rfl, ?_⟩
      rw [he2, hfk]
      exact fin
    refine ⟨_, rfl, _, rfl, b, _, rfl, DGet.k (k := Sum.inl (z : Int)) hB.obj, _, rfl, ite2 (fun c => ?_) (fun c => ?_)⟩
    ·cases hBz : B z with
     | none =>
      rw [hBz] at hrel
      have hrel : valV kvs (Sum.inl (z : Int)) = none := hrel
      rw [hrel] at c
      cases c
     | some af =>
      obtain ⟨a, f⟩ := af
      rw [hBz] at hrel
      obtain ⟨wz, hwz, dz, hwzo⟩ := hrel
      refine ⟨_, rfl, _, rfl, b, .ref wz, rfl, .inl ⟨_, Sum.inl (z : Int), .inl hB.obj, rfl, hwz.symm⟩, wz, _, dz, _, _, rfl, hwzo, T.cl_Way, T.na_Way_arrives, rfl, _, rfl, _, _, rfl, rfl, _, rfl, ite2 (fun c => ?_) (fun c => ?_)⟩
      ·have c : (a : Int) ≤ (v : Int) := of_decide_eq_true c
       refine ⟨⟨_, _, _, _, _, rfl⟩, hist, B, L, kvs, lkvs, kp, hB, hL, ?_, hLn, ht1, ht2⟩
       rw [done_step he hk0]
       exact hMid.skip ⟨e.1, e.2.1, e.2.2, k0⟩ hord hgo hBz (by omega)
      ·refine rest fun a' f' e' => ?_
       rw [hBz] at e'
       cases e'
       have c : ¬ ((a : Int) ≤ (v : Int)) := fun q => c (decide_eq_true q)
       omega
    ·refine rest fun a' f' e' => ?_
     rw [e'] at hrel
     obtain ⟨wz, hwz, _⟩ := hrel
     rw [hwz] at c
     exact absurd rfl c
   ·rintro σ H2 ⟨⟨v5, v6, v7, v8, v9, rfl⟩, hM⟩
    refine ⟨⟨_, _, _, _, _, _, rfl⟩, ?_⟩
    have hlen : (refsOf as (mineIx q e.1)).length = (mineIx q e.1).length := by unfold refsOf; rw [List.length_map]
    rw [hlen] at hM
    show Mid (i + 1) 0 H2
    obtain ⟨hist, B, L, kvs, lkvs, kp, hB, hL, hMid, hLn, ht1, ht2⟩ := hM
    exact ⟨hist, B, L, kvs, lkvs, kp, hB, hL, by rw [done_next he]; exact hMid, hLn, ht1, ht2⟩
  ·rintro σ H' ⟨⟨v4, v5, v6, v7, v8, v9, rfl⟩, hM⟩
   rw [List.length_map, hwl] at hM
   obtain ⟨hist, B, L, kvs, lkvs, kp, hB, hL, hMid, hLn, ht1, ht2⟩ := hM
   refine ⟨_, rfl, d, lkvs, rfl, hL.obj, fun r hr0 => ?_⟩
   have hdr : d ≠ r := ne_of_none hL.obj hr0
   refine ⟨r, d, lkvs, rfl, upd_same, by rw [upd_ne hdr]; exact hL.obj, fun l hl => ?_⟩
   have hs1 : Same H' (upd (upd H' r (.ext fun h => h.IsValuesView r d)) l (.lst (lkvs.map (·.2)))) := (same_fresh hr0).trans (same_fresh hl)
   obtain ⟨ws', e1, e2⟩ := paired_lst hL.rel
   refine k _ l ws' L hist B kvs (fun x o e ne => hs1 _ _ (kp x o e ne)) (by rw [upd_same, e1]) (Paired.imp2 (fun w e ⟨dx, h1⟩ => ⟨dx, hs1 _ _ h1⟩) e2) (hB.mono (hs1 _ _ hB.obj) fun w' e ⟨dx, h1⟩ => ⟨dx, hs1 _ _ h1⟩) (hMid.leave done_all) (.inr fun w hw => ?_) hLn ht1 ht2
   obtain ⟨_, c, _, e⟩ := hMid.new _ (hMid.entL w hw) rfl
   exact ⟨_, e⟩
end
end Pp
end
section
namespace Pp
open PySem PySem.Spec PyProof.Rows L2
section
variable {P : Program} {w : World} {K : PySem.W.Frag} {mg : Str → Option Value} {base : Heap} {t : Adr}
def spWays (t : Adr) : Sp := fun vs H Q _ => ∃ (p : Addr) (as ls : List Addr) (n : Nat) (q : List Sr35.Pass) (i0 t0 : Nat), vs = [.ref p, .int i0, .int t0] ∧ PlanAt t H p n q as ls ∧ i0 < n ∧ (∀ x ∈ q, Sr35.okPass n x = true) ∧ n ≤ 32 ∧ q.length ≤ 128 ∧
 ∀ (H' : Hp) (b : Addr) (R : Nat) (hist : List Wy.Lab) (B : Wy.BM) (kvs : List (Key × V)), Same H H' → BestAt t H' b n B kvs → Wy.Rnd q i0 t0 R [] hist B → Q (.ref b) H'
theorem ok_ways_from (T : Tx K mg t) : FnOk P w K mg base CX0 4 t.f_ways_from t.d_ways_from ["plan", "node", "time"] (spWays t) := by
 have G_Way_init : FnOk P w K mg base CX0 1 t.f_Way_init t.d_Way_init ["self", "at", "arrives", "first"] (spWay_init t) := ok_Way_init T
 have G_sooner_by_one_more : FnOk P w K mg base CX0 3 t.f_sooner_by_one_more t.d_sooner_by_one_more ["plan", "ways", "best"] (spSooner t) := ok_sooner T
 refine T.fn_ways_from.ok sc_ways_from (fun vs H Q E h => ?_) (fun cdv A outer s H vs Q E hr h => ?_)
 ·obtain ⟨p, as, ls, n, q, i0, t0, rfl, _⟩ := h
  rfl
 ·obtain ⟨p, as, ls, n, q, i0, t0, rfl, hP, hi0, hok, hn, hq, k⟩ := h
  refine ⟨_, (pss_cons (ps_set (i := 3) sc_ways_from.nd rfl (by first | exact Or.inl rfl | exact Or.inr rfl) (pe_make T.mk_Way G_Way_init (hr.mono (by decide)) (by rfl) T.gC_Way T.bi_Way_init .nil pass0 (pa_cons (pv 1) (pa_cons (pv 2) (pa_cons pe_non pa_nil)))))
   (pss_cons (ps_set (i := 4) sc_ways_from.nd rfl (by first | exact Or.inl rfl | exact Or.inr rfl) (pe_disp (pps_cons (pv 1) (pv 3) pps_nil) rfl rfl (by simp) (by decide)))
   (pss_cons (ps_set (i := 5) sc_ways_from.nd rfl (by first | exact Or.inl rfl | exact Or.inr rfl) (pe_lst (pa_cons (pv 3) pa_nil)))
   (pss_cons (ps_while PassesOwn.never (pt_truth (pv 5) (fun _ => rfl)) (pss_one (ps_set (i := 5) sc_ways_from.nd rfl (by first | exact Or.inl rfl | exact Or.inr rfl) (pe_call G_sooner_by_one_more (hr.mono (by decide)) (by rfl) T.g_sooner_by_one_more T.kp_sooner_by_one_more T.bi_sooner_by_one_more .nil pass0 (pa_cons (pv 0) (pa_cons (pv 5) (pa_cons (pv 4) pa_nil)))))))
   (pss_one (ps_ret (pv 4))))))), ?_⟩
  refine ⟨_, rfl, _, rfl, fun o do_ ho hdo hne => ⟨o, do_, _, _, _, rfl, upd_same, ?_⟩⟩
  rw [upd_upd]
  refine ⟨rfl, fun b hb => ⟨_, rfl, _, rfl, upd_same, [(Sum.inl (i0 : Int), .ref o)], rfl, (by show 1 ≤ 15; decide), ?_⟩⟩
  rw [upd_upd]
  have sA : Same H (upd (upd H do_ (.own o)) o (.ins t.c_Way do_ (fWay (.int i0) (.int t0) .non))) := same_over (same_fresh hdo) ho
  generalize hHa : upd (upd H do_ (.own o)) o (.ins t.c_Way do_ (fWay (.int i0) (.int t0) .non)) = Ha at sA hb
  have hao : Ha o = some (.ins t.c_Way do_ (fWay (.int i0) (.int t0) .non)) := by rw [← hHa]; exact upd_same
  refine ⟨_, rfl, (by show 1 ≤ sizeLine; decide), fun lw hlw => ?_⟩
  have sB : Same Ha (upd (upd Ha b (.dK (mergeK [] [(Sum.inl (i0 : Int), .ref o)]))) lw (.lst [.ref o])) := (same_fresh hb).trans (same_fresh hlw)
  have hbl : b ≠ lw := ne_of_none (H := upd Ha b (.dK (mergeK [] [(Sum.inl (i0 : Int), .ref o)]))) upd_same hlw
  generalize hHb : upd (upd Ha b (.dK (mergeK [] [(Sum.inl (i0 : Int), .ref o)]))) lw (.lst [.ref o]) = Hb at sB
  have hbb : Hb b = some (.dK [(Sum.inl (i0 : Int), .ref o)]) := by rw [← hHb, upd_ne hbl, upd_same]; rfl
  have hlb : Hb lw = some (.lst ([o].map V.ref)) := by rw [← hHb, upd_same]; rfl
  have hbo : BestAt t Hb b n (Wy.setB (fun _ => none) i0 t0 none) [(Sum.inl (i0 : Int), .ref o)] := by
   refine ⟨hbb, by simp, fun kk hk => ⟨i0, hi0, List.mem_singleton.mp hk⟩, fun z => ?_⟩
   unfold Wy.setB
   split
   ·rename_i e
    subst e
    exact ⟨o, valV_pos rfl, do_, sB _ _ hao⟩
   ·rename_i e
    show valV _ _ = none
    rw [valV_neg (fun q => e (by have q : (Sum.inl (i0 : Int) : Key) = Sum.inl (z : Int) := q; injection q with q; omega))]
    rfl
  refine ⟨fun m σ H' => ∃ (lw : Addr) (ws : List Addr) (R : Nat) (W : List Wy.Ent) (hist : List Wy.Lab) (B : Wy.BM) (kvs : List (Key × V)), σ = [some (.ref p), some (.int i0), some (.int t0), some (.ref o), some (.ref b), some (.ref lw)] ∧ Same H H' ∧ H' lw = some (.lst (ws.map V.ref)) ∧
   WaysAt t H' ws W ∧ BestAt t H' b n B kvs ∧ Wy.Rnd q i0 t0 R W hist B ∧ OkW W ∧ (∀ w ∈ W, w.1 < n) ∧ m = 2 * Wy.total n B + (if W = [] then 0 else 1), ?_, fun m σ H' hI => ?_⟩
  ·refine ⟨_, lw, [o], 0, [(i0, t0, none)], _, _, _, rfl, sA.trans sB, hlb, .cons ⟨do_, sB _ _ hao⟩ .nil, hbo, Wy.Rnd.first q i0 t0, .inl (Nat.le_refl _), fun w hw => ?_, rfl⟩
   rcases List.mem_singleton.mp hw with rfl
   exact hi0
  ·obtain ⟨lw', ws, R, W, hist, B, kvs, rfl, sH, hlw', hws, hB, hR, hokW, hWn, rfl⟩ := hI
   refine ⟨_, rfl, _, .inl ⟨_, SqL.of hlw', rfl⟩, ite2 (fun c => ?_) (fun c => ?_)⟩
   ·have hWne : W ≠ [] := by
     rintro rfl
     cases hws
     cases c
    refine ⟨_, fun σ' H2 h2 => h2, ?_⟩
    refine ⟨_, rfl, _, rfl, _, rfl, p, lw', b, ws, as, ls, n, q, i0, t0, R, W, hist, B, kvs, rfl, hP.same sH, hlw', hws, hB, hR, hokW, hWn, hok, hn, hq, fun H2 l ws' L hist' B' kvs' kp hl hws' hB' hR' hok' hLn ht1 ht2 => ?_⟩
    refine ⟨2 * Wy.total n B' + (if L = [] then 0 else 1), ?_, l, ws', R + 1, L, hist', B', kvs', rfl, ?_, hl, hws', hB', hR', hok', hLn, rfl⟩
    ·rw [if_neg hWne]
     by_cases hL : L = []
     ·rw [if_pos hL]
      omega
     ·rw [if_neg hL]
      have := ht2 hL
      omega
    ·intro y u e
     refine kp y u (sH _ _ e) fun z => ?_
     subst z
     have := sA _ _ e
     rw [this] at hb
     cases hb
   ·have hW : W = [] := by
     cases hws with
     | nil => rfl
     | cons a r => exact absurd rfl c
    subst hW
    exact ⟨_, rfl, k H' b R hist B kvs sH hB hR⟩
end
end Pp
end
section
namespace Pp
open PySem PySem.Spec PyProof.Rows L2
def nsV (l : List Nat) : List V := l.map fun (b : Nat) => V.int (b : Int)
theorem and255 (x : Nat) : Builtin.bitAnd (x : Int) 255 = ((x % 256 : Nat) : Int) := by
 have h := Bits.bitAnd_mask (x := (x : Int)) 8 (by omega)
 rw [show ((2 : Int) ^ 8 - 1) = 255 from rfl, show ((2 : Int) ^ 8) = 256 from rfl] at h
 rw [h]
 omega
section
variable {P : Program} {w : World} {K : PySem.W.Frag} {mg : Str → Option Value} {base : Heap} {t : Adr}
def spFour : Sp := fun vs H Q _ => ∃ n : Nat, vs = [.int n] ∧ ∀ (H' : Hp) (l : Addr), Same H H' → H' l = some (.lst (nsV (Sr36.le 4 n))) → Q (.ref l) H'
def sh4 : List Nat := [0, 8, 16, 24]
theorem le4 (n : Nat) : Sr36.le 4 n = sh4.map fun j => n / 2 ^ j % 256 := by
 show [n % 256, n / 256 % 256, n / 256 / 256 % 256, n / 256 / 256 / 256 % 256] = [n / 2 ^ 0 % 256, n / 2 ^ 8 % 256, n / 2 ^ 16 % 256, n / 2 ^ 24 % 256]
 rw [show (2 : Nat) ^ 0 = 1 from rfl, show (2 : Nat) ^ 8 = 256 from rfl, show (2 : Nat) ^ 16 = 65536 from rfl, show (2 : Nat) ^ 24 = 16777216 from rfl, Nat.div_div_eq_div_mul, Nat.div_div_eq_div_mul, Nat.div_one]
theorem ok_four_bytes (T : Tx K mg t) : FnOk P w K mg base CX0 1 t.f_four_bytes t.d_four_bytes ["number"] spFour := by
 refine T.fn_four_bytes.ok sc_four_bytes (fun vs H Q E h => ?_) (fun cdv A outer s H vs Q E hr h => ?_)
 ·obtain ⟨n, rfl, _⟩ := h
  rfl
 ·obtain ⟨n, rfl, k⟩ := h
  refine ⟨_, (pss_one (ps_ret (pe_lc (own := [("shift", 1)]) rfl sc_four_bytes.nd (pi_tup (pe_tup (pa_cons pe_int (pa_cons pe_int (pa_cons pe_int (pa_cons pe_int pa_nil)))))) (blkOk_by rfl) (fun _ _ _ _ _ => (pg_name (i := 1) sc_four_bytes.nd rfl (by first | exact Or.inl rfl | exact Or.inr rfl))) (fun _ _ _ _ _ => pts_nil) (fun _ _ _ _ _ => (pe_op op_and (pe_op op_shr (pv 0) (pv 1)) pe_int))))), ?_⟩
  refine ⟨(by show 4 ≤ sizeLine; decide), fun tp htp => ⟨tp, rfl, ⟨_, SqT.of upd_same⟩, fun D hD => ?_⟩⟩
  have htD : tp ≠ D := ne_of_none (H := upd H tp (.tup [.int 0, .int 8, .int 16, .int 24])) upd_same hD
  refine lc_tup (K := K) (a := tp) (xs := nsV sh4) (Pv := fun j H' => H' = upd (upd H tp (.tup (nsV sh4))) D (.lst (nsV ((sh4.take j).map fun j => n / 2 ^ j % 256)))) rfl (fun j H' _ e => ?_) (fun j x H' hx e => ?_) (fun H' e => ?_)
  ·subst e
   exact SqT.of (by rw [upd_ne htD, upd_same])
  ·subst e
   unfold nsV at hx
   rw [List.getElem?_map] at hx
   cases hj : sh4[j]? with
   | none => rw [hj] at hx; cases hx
   | some sj =>
    rw [hj] at hx
    cases hx
    refine ⟨rfl, _, rfl, _, rfl, _, _, rfl, rfl, (by show (0 : Int) ≤ (sj : Int); omega), _, _, rfl, rfl, _, upd_same, ?_, ?_⟩
    ·show ((nsV _).length < sizeLine)
     unfold nsV
     rw [List.length_map, List.length_map, List.length_take]
     exact small_len (by have : sh4.length = 4 := rfl; omega)
    ·rw [upd_upd, List.take_add_one, hj]
     have e1 : (n : Int) / 2 ^ ((sj : Int).toNat) = ((n / 2 ^ sj : Nat) : Int) := by
      rw [Int.toNat_natCast, Int.natCast_ediv, Int.natCast_pow]
      rfl
     show upd _ D (.lst (nsV _ ++ [V.int (Builtin.bitAnd ((n : Int) / 2 ^ ((sj : Int).toNat)) 255)])) = _
     rw [e1, and255]
     unfold nsV
     simp
  ·subst e
   refine k _ D ((same_fresh htp).trans (same_fresh hD)) ?_
   rw [upd_same, le4]
   rfl
def ParcelAt (t : Adr) (H : Hp) (p : Addr) (h : Sr36.Held) : Prop := ∃ dx d, H p = some (.ins t.c_Parcel dx (fParcel h.parcel.source h.parcel.number h.parcel.to_ h.parcel.end_ d h.leg h.waits)) ∧ H d = some (.lst (nsV h.parcel.data))
theorem ParcelAt.same {H H' : Hp} {p : Addr} {h : Sr36.Held} (x : ParcelAt t H p h) (s : Same H H') : ParcelAt t H' p h := let ⟨dx, d, h1, h2⟩ := x; ⟨dx, d, s _ _ h1, s _ _ h2⟩
def spMsg (t : Adr) : Sp := fun vs H Q _ => ∃ (p : Addr) (h : Sr36.Held) (leg : Nat), vs = [.ref p, .int leg] ∧ ParcelAt t H p h ∧ h.parcel.data.length ≤ 1000 ∧
 ∀ (H' : Hp) (l : Addr), Same H H' → H' l = some (.lst (nsV (Sr36.bytesOf (.parcel h.parcel leg)))) → Q (.ref l) H'
theorem le_len : ∀ (w v : Nat), (Sr36.le w v).length = w
 | 0, _ => rfl
 | w + 1, v => by
  show (Sr36.le w (v / 256)).length + 1 = _
  rw [le_len w]
theorem nsV_len (l : List Nat) : (nsV l).length = l.length := by unfold nsV; rw [List.length_map]
theorem ok_parcel_message (T : Tx K mg t) : FnOk P w K mg base CX0 2 t.f_parcel_message t.d_parcel_message ["parcel", "leg"] (spMsg t) := by
 have G_four_bytes : FnOk P w K mg base CX0 1 t.f_four_bytes t.d_four_bytes ["number"] spFour := ok_four_bytes T
 refine T.fn_parcel_message.ok sc_parcel_message (fun vs H Q E h => ?_) (fun cdv A outer s H vs Q E hr h => ?_)
 ·obtain ⟨p, h, leg, rfl, _⟩ := h
  rfl
 ·obtain ⟨p, h, leg, rfl, ⟨dx, d, hp, hd⟩, hlen, k⟩ := h
  have cl := T.cl_Parcel
  refine ⟨_, (pss_cons (ps_set (i := 2) sc_parcel_message.nd rfl (by first | exact Or.inl rfl | exact Or.inr rfl) (pe_lst (pa_cons (pk (by rfl) T.k_KIND_PARCEL) (pa_cons (pe_fld (pv 0) rfl) (pa_cons (pe_fld (pv 0) rfl) (pa_cons (pe_callB call_len_seq (by rfl) T.b_len bt_len (pa_cons (pe_fld (pv 0) rfl) pa_nil)) pa_nil))))))
   (pss_one (ps_ret (pe_op op_cat (pe_op op_cat (pe_op op_cat (pe_op op_cat (pv 2) (pe_call G_four_bytes (hr.mono (by decide)) (by rfl) T.g_four_bytes T.kp_four_bytes T.bi_four_bytes .nil pass0 (pa_cons (pe_fld (pv 0) rfl) pa_nil))) (pe_call G_four_bytes (hr.mono (by decide)) (by rfl) T.g_four_bytes T.kp_four_bytes T.bi_four_bytes .nil pass0 (pa_cons (pe_fld (pv 0) rfl) pa_nil))) (pe_call G_four_bytes (hr.mono (by decide)) (by rfl) T.g_four_bytes T.kp_four_bytes T.bi_four_bytes .nil pass0 (pa_cons (pv 1) pa_nil))) (pe_fld (pv 0) rfl))))), ?_⟩
  refine ⟨_, rfl, p, _, dx, _, _, rfl, hp, cl, T.na_Parcel_source, rfl, _, rfl, p, _, dx, _, _, rfl, hp, cl, T.na_Parcel_to, rfl, _, rfl, p, _, dx, _, _, rfl, hp, cl, T.na_Parcel_data, rfl, d, _, rfl, .inl (SqL.of hd), (by show 4 ≤ sizeLine; decide), fun l0 hl0 => ?_⟩
  have s0 := same_fresh (o := .lst [.int 1, .int h.parcel.source, .int h.parcel.to_, .int ((nsV h.parcel.data).length : Nat)]) hl0
  generalize hH0 : upd H l0 _ = H0 at s0
  have h0 : H0 l0 = some (.lst [.int 1, .int h.parcel.source, .int h.parcel.to_, .int ((nsV h.parcel.data).length : Nat)]) := by rw [← hH0]; exact upd_same
  refine ⟨_, rfl, _, rfl, p, _, dx, _, _, rfl, s0 _ _ hp, cl, T.na_Parcel_number, rfl, _, rfl, fun H1 l1 s1 h1 => ?_⟩
  refine ⟨l0, l1, _, _, rfl, rfl, s1 _ _ h0, h1, ?_, fun l2 hl2 => ?_⟩
  ·simp only [List.length_append, nsV_len, le_len, List.length_cons, List.length_nil]
   exact small_le (by omega)
  have s2 := same_fresh (o := .lst ([.int 1, .int h.parcel.source, .int h.parcel.to_, .int ((nsV h.parcel.data).length : Nat)] ++ nsV (Sr36.le 4 h.parcel.number))) hl2
  generalize hH2 : upd H1 l2 _ = H2 at s2
  have h2 : H2 l2 = some (.lst ([.int 1, .int h.parcel.source, .int h.parcel.to_, .int ((nsV h.parcel.data).length : Nat)] ++ nsV (Sr36.le 4 h.parcel.number))) := by rw [← hH2]; exact upd_same
  refine ⟨_, rfl, p, _, dx, _, _, rfl, s2 _ _ (s1 _ _ (s0 _ _ hp)), cl, T.na_Parcel_end, rfl, _, rfl, fun H3 l3 s3 h3 => ?_⟩
  refine ⟨l2, l3, _, _, rfl, rfl, s3 _ _ h2, h3, ?_, fun l4 hl4 => ?_⟩
  ·simp only [List.length_append, nsV_len, le_len, List.length_cons, List.length_nil]
   exact small_le (by omega)
  have s4 := same_fresh (o := .lst (([.int 1, .int h.parcel.source, .int h.parcel.to_, .int ((nsV h.parcel.data).length : Nat)] ++ nsV (Sr36.le 4 h.parcel.number)) ++ nsV (Sr36.le 4 h.parcel.end_))) hl4
  generalize hH4 : upd H3 l4 _ = H4 at s4
  have h4 : H4 l4 = some (.lst (([.int 1, .int h.parcel.source, .int h.parcel.to_, .int ((nsV h.parcel.data).length : Nat)] ++ nsV (Sr36.le 4 h.parcel.number)) ++ nsV (Sr36.le 4 h.parcel.end_))) := by rw [← hH4]; exact upd_same
  refine ⟨_, rfl, _, rfl, fun H5 l5 s5 h5 => ?_⟩
  refine ⟨l4, l5, _, _, rfl, rfl, s5 _ _ h4, h5, ?_, fun l6 hl6 => ?_⟩
  ·simp only [List.length_append, nsV_len, le_len, List.length_cons, List.length_nil]
   exact small_le (by omega)
  have s6 := same_fresh (o := .lst ((([.int 1, .int h.parcel.source, .int h.parcel.to_, .int ((nsV h.parcel.data).length : Nat)] ++ nsV (Sr36.le 4 h.parcel.number)) ++ nsV (Sr36.le 4 h.parcel.end_)) ++ nsV (Sr36.le 4 leg))) hl6
  generalize hH6 : upd H5 l6 _ = H6 at s6
  have h6 : H6 l6 = some (.lst ((([.int 1, .int h.parcel.source, .int h.parcel.to_, .int ((nsV h.parcel.data).length : Nat)] ++ nsV (Sr36.le 4 h.parcel.number)) ++ nsV (Sr36.le 4 h.parcel.end_)) ++ nsV (Sr36.le 4 leg))) := by rw [← hH6]; exact upd_same
  have sAll : Same H H6 := ((((s0.trans s1).trans s2).trans s3).trans s4).trans (s5.trans s6)
  refine ⟨_, rfl, p, _, dx, _, _, rfl, sAll _ _ hp, cl, T.na_Parcel_data, rfl, l6, d, _, _, rfl, rfl, h6, sAll _ _ hd, ?_, fun l7 hl7 => ?_⟩
  ·simp only [List.length_append, nsV_len, le_len, List.length_cons, List.length_nil]
   exact small_le (by omega)
  refine k _ l7 (sAll.trans (same_fresh hl7)) ?_
  rw [upd_same]
  unfold Sr36.bytesOf nsV
  simp
end
end Pp
end
section
namespace Pp
open PySem PySem.Spec PyProof.Rows L2
theorem perm_map_lift {α β : Type} (g : α → β) {l m : List β} (h : l.Perm m) : ∀ Z : List α, m = Z.map g → ∃ Z' : List α, Z'.Perm Z ∧ Z'.map g = l := by
 induction h with
 | nil =>
  intro Z e
  have : Z = [] := by cases Z with | nil => rfl | cons a b => cases e
  subst this
  exact ⟨[], .nil, rfl⟩
 | cons x _ ih =>
  intro Z e
  cases Z with
  | nil => cases e
  | cons a Z =>
   rw [List.map_cons] at e
   injection e with e1 e2
   obtain ⟨Z', h1, h2⟩ := ih Z e2
   exact ⟨a :: Z', h1.cons a, by rw [List.map_cons, h2, e1]⟩
 | swap x y l =>
  intro Z e
  match Z, e with
  | a :: b :: Z, e =>
   rw [List.map_cons, List.map_cons] at e
   injection e with e1 e2
   injection e2 with e2 e3
   exact ⟨b :: a :: Z, .swap a b Z, by rw [List.map_cons, List.map_cons, e1, e2, e3]⟩
 | trans _ _ ih1 ih2 =>
  intro Z e
  obtain ⟨Z2, h1, h2⟩ := ih2 Z e
  obtain ⟨Z1, h3, h4⟩ := ih1 Z2 h2.symm
  exact ⟨Z1, h3.trans h1, h4⟩
def rankOf (h : Sr36.Held) : List Int := [(h.parcel.end_ : Int), h.parcel.source, h.parcel.number]
theorem before_of_rank {g h : Sr36.Held} (l : leI (rankOf g) (rankOf h)) : Sr36.before h.parcel g.parcel = false := by
 unfold rankOf leI leI leI at l
 unfold Sr36.before
 rw [Bool.eq_false_iff]
 intro q
 simp only [Bool.or_eq_true, Bool.and_eq_true, decide_eq_true_eq, beq_iff_eq] at q
 omega
def ParcelsAt (t : Adr) (H : Hp) (Z : List (Addr × Sr36.Held)) : Prop := ∀ z ∈ Z, ParcelAt t H z.1 z.2
theorem ParcelsAt.same {t : Adr} {H H' : Hp} {Z : List (Addr × Sr36.Held)} (h : ParcelsAt t H Z) (s : Same H H') : ParcelsAt t H' Z := fun z hz => (h z hz).same s
def refs (Z : List (Addr × Sr36.Held)) : List V := Z.map fun z => V.ref z.1
section
variable {P : Program} {w : World} {K : PySem.W.Frag} {mg : Str → Option Value} {base : Heap} {t : Adr}
def spIn_order (t : Adr) : Sp := fun vs H Q _ => ∃ (l : Addr) (Z : List (Addr × Sr36.Held)), vs = [.ref l] ∧ H l = some (.lst (refs Z)) ∧ ParcelsAt t H Z ∧
 ∀ (H' : Hp) (l' : Addr) (Z' : List (Addr × Sr36.Held)), Same H H' → Z'.Perm Z → H' l' = some (.lst (refs Z')) → (Z'.Pairwise fun x y => Sr36.before y.2.parcel x.2.parcel = false) → Q (.ref l') H'
theorem ok_in_order (T : Tx K mg t) : FnOk P w K mg base CX0 4 t.f_in_order t.d_in_order ["parcels"] (spIn_order t) := by
 have G_rank : FnOk P w K mg base CX0 1 t.f_rank t.d_rank ["parcel"] (spRank t) := ok_rank T
 refine T.fn_in_order.ok sc_in_order (fun vs H Q E h => ?_) (fun cdv A outer s H vs Q E hr h => ?_)
 ·obtain ⟨l, Z, rfl, _⟩ := h
  rfl
 ·obtain ⟨l, Z, rfl, hl, hZ, k⟩ := h
  refine ⟨_, (pss_one (ps_ret (pe_sortedBy rfl G_rank (hr.mono (by decide)) T.bi_rank rfl T.b_sorted rfl T.g_rank (pv 0)))), ?_⟩
  refine ⟨_, rfl, l, refs Z, Z.map fun z => rankOf z.2, rfl, SqL.of hl, by unfold refs; rw [List.length_map, List.length_map], fun kk hk => ?_, fun j x kk hx hk H1 s1 => ?_, fun H' l' ys s1 hn hl' hs => ?_⟩
  ·obtain ⟨z, _, rfl⟩ := List.mem_map.mp hk
   intro q
   cases q
  ·unfold refs at hx
   rw [List.getElem?_map] at hx hk
   cases hz : Z[j]? with
   | none => rw [hz] at hx; cases hx
   | some z =>
    rw [hz] at hx hk
    cases hx
    cases hk
    obtain ⟨dx, d, h1, h2⟩ := hZ z (List.mem_of_getElem? hz)
    exact ⟨z.1, dx, d, _, _, _, _, _, _, rfl, s1 _ _ h1, fun r hr => ⟨r, rfl, upd_same, same_fresh hr⟩⟩
  ·obtain ⟨pr, p1, p2, p3⟩ := hs
   have ez : (Z.map fun z => rankOf z.2).zip (refs Z) = Z.map fun z => (rankOf z.2, V.ref z.1) := by
    unfold refs
    rw [List.zip_map']
   rw [ez] at p1
   obtain ⟨Z', q1, q2⟩ := perm_map_lift (fun z : Addr × Sr36.Held => (rankOf z.2, V.ref z.1)) p1 Z rfl
   refine k H' l' Z' s1 q1 ?_ ?_
   ·rw [hl', p2, ← q2, List.map_map]
    rfl
   ·rw [← q2, List.pairwise_map] at p3
    exact p3.imp fun h => before_of_rank h
def fitB (B : Wy.BM) (k : Nat) (x : Sr36.Parcel) : Bool := match B x.to_ with
 | some (e, some f) => decide (f = k ∧ e ≤ x.end_)
 | _ => false
def outOf : Option (Addr × Sr36.Held) → V
 | none => .non
 | some z => .ref z.1
def spFirst (t : Adr) : Sp := fun vs H Q _ => ∃ (pa l b : Addr) (k n : Nat) (x : Sr35.Pass) (Z : List (Addr × Sr36.Held)) (B : Wy.BM) (kvs : List (Key × V)), vs = [.ref pa, .ref l, .ref b] ∧ PassAt t H pa k x ∧ H l = some (.lst (refs Z)) ∧ ParcelsAt t H Z ∧ BestAt t H b n B kvs ∧
 Q (outOf (Z.find? fun z => fitB B k z.2.parcel)) H
theorem ok_first_to_go_by (T : Tx K mg t) : FnOk P w K mg base CX0 1 t.f_first_to_go_by t.d_first_to_go_by ["by", "ready", "ways"] (spFirst t) := by
 refine T.fn_first_to_go_by.ok sc_first_to_go_by (fun vs H Q E h => ?_) (fun cdv A outer s H vs Q E hr h => ?_)
 ·obtain ⟨pa, l, b, k, n, x, Z, B, kvs, rfl, _⟩ := h
  rfl
 ·obtain ⟨pa, l, b, k, n, x, Z, B, kvs, rfl, ⟨dp, hpa⟩, hl, hZ, hB, q⟩ := h
  have hu := hu_of hr
  refine ⟨_, (pss_cons (ps_for PassesOwn.never rfl (pi_list (pv 1)) (pg_name (i := 3) sc_first_to_go_by.nd rfl (by first | exact Or.inl rfl | exact Or.inr rfl)) (pss_cons (ps_set (i := 4) sc_first_to_go_by.nd rfl (by first | exact Or.inl rfl | exact Or.inr rfl) (pe_dget1 hu (pv 2) (pe_fld (pv 3) rfl) ⟨rfl, rfl, rfl, rfl⟩))
   (pss_one (ps_if (pw_and (pt_cmp (pc_notN (pv 4))) (pw_and (pt_cmpR op_eq (pe_fld (pv 4) rfl) (pe_fld (pv 0) rfl) (nomark _)) (pw_and1 (pt_cmpR op_le (pe_fld (pv 4) rfl) (pe_fld (pv 3) rfl) (nomark _))))).pt (pss_one (ps_ret (pv 3))) pss_nil))))
   (pss_one (ps_ret pe_non))), ?_⟩
  refine ⟨_, rfl, l, rfl, ⟨_, SqL.of hl⟩, for_list (K := K) (a := l) (xs := refs Z) (fun j σ H' => (∃ v3 v4 : Option V, σ = [some (.ref pa), some (.ref l), some (.ref b), v3, v4]) ∧ H' = H ∧ ∀ i z, i < j → Z[i]? = some z → fitB B k z.2.parcel = false)
   ⟨⟨none, none, rfl⟩, rfl, fun i z h => by omega⟩ (fun j σ H' _ hI => by rw [hI.2.1]; exact SqL.of hl) ?_ ?_⟩
  ·rintro j y σ H' hj ⟨⟨v3, v4, rfl⟩, rfl, hno⟩
   unfold refs at hj
   rw [List.getElem?_map] at hj
   cases hz : Z[j]? with
   | none => rw [hz] at hj; cases hj
   | some z =>
   rw [hz] at hj
   cases hj
   obtain ⟨dx, d, h1, h2⟩ := hZ z (List.mem_of_getElem? hz)
   have hfind : fitB B k z.2.parcel = true → Q (.ref z.1) H' := fun hf => by
    have e : Z.find? (fun z => fitB B k z.2.parcel) = some z := by
     have hlt := (List.getElem?_eq_some_iff.mp hz).1
     rw [List.find?_eq_some_iff_getElem]
     refine ⟨hf, j, hlt, (List.getElem?_eq_some_iff.mp hz).2, fun i hi => ?_⟩
     rw [hno i Z[i] hi (List.getElem?_eq_getElem (Nat.lt_trans hi hlt))]
     rfl
    rw [e] at q
    exact q
   have hnext : fitB B k z.2.parcel = false → ∀ i z', i < j + 1 → Z[i]? = some z' → fitB B k z'.2.parcel = false := fun hf i z' hi hz' => by
    rcases Nat.lt_or_ge i j with h | h
    ·exact hno i z' h hz'
    ·have : i = j := by omega
     subst this
     rw [hz] at hz'
     cases hz'
     exact hf
   have hrel := hB.rel z.2.parcel.to_
   refine ⟨_, rfl, b, rfl, .inl ⟨_, .inl hB.obj⟩, _, rfl, z.1, _, dx, _, _, rfl, h1, T.cl_Parcel, T.na_Parcel_to, rfl, _, DGet.k (k := Sum.inl (z.2.parcel.to_ : Int)) hB.obj, ?_⟩
   cases hBz : B z.2.parcel.to_ with
   | none =>
    rw [hBz] at hrel
    have hrel : valV kvs (Sum.inl (z.2.parcel.to_ : Int)) = none := hrel
    rw [hrel]
    refine ⟨_, rfl, _, rfl, iteF ?_⟩
    exact ⟨⟨_, _, rfl⟩, rfl, hnext (by unfold fitB; rw [hBz])⟩
   | some ef =>
    obtain ⟨e, f⟩ := ef
    rw [hBz] at hrel
    obtain ⟨wz, hwz, dz, hwo⟩ := hrel
    rw [hwz]
    refine ⟨_, rfl, _, rfl, iteT ?_⟩
    refine ⟨_, rfl, wz, _, dz, _, _, rfl, hwo, T.cl_Way, T.na_Way_first, rfl, _, rfl, pa, _, dp, _, _, rfl, hpa, T.cl_Pass, T.na_Pass_number, rfl, ?_, _, rfl, ite2 (fun c => ?_) (fun c => ?_)⟩
    ·cases f <;> rfl
    ·have hf : f = some k := by
      cases f with
      | none => simp [fV] at c
      | some f =>
       have c : decide (V.int (f : Int) = V.int (k : Int)) = true := c
       rw [dI, decide_eq_true_eq] at c
       congr 1
       omega
     subst hf
     refine ⟨_, rfl, wz, _, dz, _, _, rfl, hwo, T.cl_Way, T.na_Way_arrives, rfl, _, rfl, z.1, _, dx, _, _, rfl, h1, T.cl_Parcel, T.na_Parcel_end, rfl, _, _, rfl, rfl, _, rfl, ite2 (fun c2 => ?_) (fun c2 => ?_)⟩
     ·have c2 : (e : Int) ≤ (z.2.parcel.end_ : Int) := of_decide_eq_true c2
      exact ⟨_, rfl, hfind (by unfold fitB; rw [hBz]; exact decide_eq_true ⟨rfl, by omega⟩)⟩
     ·have c2 : ¬ ((e : Int) ≤ (z.2.parcel.end_ : Int)) := fun q => c2 (decide_eq_true q)
      exact ⟨⟨_, _, rfl⟩, rfl, hnext (by unfold fitB; rw [hBz]; exact decide_eq_false fun q => c2 (by omega))⟩
    ·refine iteF ?_
     refine ⟨⟨_, _, rfl⟩, rfl, hnext ?_⟩
     unfold fitB
     rw [hBz]
     cases f with
     | none => rfl
     | some f =>
      have c : ¬ decide (V.int (f : Int) = V.int (k : Int)) = true := c
      rw [dI, decide_eq_true_eq] at c
      exact decide_eq_false fun q => c (by omega)
  ·rintro σ H' ⟨⟨v3, v4, rfl⟩, rfl, hno⟩
   have e : Z.find? (fun z => fitB B k z.2.parcel) = none := by
    rw [List.find?_eq_none]
    intro z hz
    obtain ⟨i, hi⟩ := List.getElem?_of_mem hz
    have hlt := (List.getElem?_eq_some_iff.mp hi).1
    rw [hno i z (by unfold refs; rw [List.length_map]; exact hlt) hi]
    simp
   rw [e] at q
   exact q
end
end Pp
end
section
namespace Pp
open PySem PySem.Spec PyProof.Rows L2
def fNode (pl : Addr) (me time own : Int) (hd ar kn : Addr) : List (Str × V) := [("plan", .ref pl), ("me", .int me), ("time", .int time), ("own_count", .int own), ("held", .ref hd), ("arrived", .ref ar), ("known", .ref kn)]
structure NA where
 pl : Addr
 hd : Addr
 ar : Addr
 kn : Addr
 as : List Addr
 ls : List Addr
 tl : Addr
def hid (N : NA) (H : Hp) : Hp := fun b => if b = N.ar ∨ b = N.tl then none else H b
theorem hid_of {N : NA} {H : Hp} {b : Addr} {o : HO} (h : H b = some o) (h1 : b ≠ N.ar) (h2 : b ≠ N.tl) : hid N H b = some o := by
 unfold hid
 rw [if_neg (fun q => q.elim h1 h2)]
 exact h
theorem hid_get {N : NA} {H : Hp} {b : Addr} {o : HO} (h : hid N H b = some o) : H b = some o ∧ b ≠ N.ar ∧ b ≠ N.tl := by
 unfold hid at h
 split at h
 ·cases h
 ·rename_i c
  exact ⟨h, fun q => c (.inl q), fun q => c (.inr q)⟩
theorem hid_le {N : NA} {H : Hp} : Same (hid N H) H := fun _ _ h => (hid_get h).1
theorem hid_same {N : NA} {H H' : Hp} (s : Same H H') : Same (hid N H) (hid N H') := fun b o h => let ⟨h1, h2, h3⟩ := hid_get h; hid_of (s b o h1) h2 h3
abbrev PZ := List (Addr × Sr36.Held)
def kvsOf (Z : PZ) : List (List Key × V) := Z.map fun z => (keyOf z.2.parcel.source z.2.parcel.number, V.ref z.1)
def knsOf (L : List (Nat × Nat × Nat)) : List (List Key × V) := L.map fun k => (keyOf k.1 k.2.1, V.int (k.2.2 : Int))
structure NodeAt (t : Adr) (H : Hp) (nd : Addr) (N : NA) (Z Za : PZ) (a : Sr36.Abs) : Prop where
 obj : ∃ dx, H nd = some (.ins t.c_Node dx (fNode N.pl a.me a.now a.own N.hd N.ar N.kn))
 gplan : PlanAt t (hid N H) N.pl a.plan.n a.plan.list N.as N.ls
 held : H N.hd = some (.dT (kvsOf Z))
 ghz : ParcelsAt t (hid N H) Z
 he : Z.map (·.2) = a.held
 arr : H N.ar = some (.lst (refs Za))
 gaz : ParcelsAt t (hid N H) Za
 ae : (Za.map fun z => z.2.parcel) = a.arrived
 kn : H N.kn = some (.dT (knsOf a.knows))
 hk : N.hd ≠ N.kn
 tl : ∃ xs, H N.tl = some (.lst xs)
 ta : N.ar ≠ N.tl
theorem NodeAt.plan {t : Adr} {H : Hp} {nd : Addr} {N : NA} {Z Za : PZ} {a : Sr36.Abs} (h : NodeAt t H nd N Z Za a) : PlanAt t H N.pl a.plan.n a.plan.list N.as N.ls := h.gplan.same hid_le
theorem NodeAt.hz {t : Adr} {H : Hp} {nd : Addr} {N : NA} {Z Za : PZ} {a : Sr36.Abs} (h : NodeAt t H nd N Z Za a) : ParcelsAt t H Z := h.ghz.same hid_le
theorem NodeAt.az {t : Adr} {H : Hp} {nd : Addr} {N : NA} {Z Za : PZ} {a : Sr36.Abs} (h : NodeAt t H nd N Z Za a) : ParcelsAt t H Za := h.gaz.same hid_le
def foot (nd : Addr) (N : NA) : List Addr := [nd, N.hd, N.ar, N.kn]
def NPar (t : Adr) (o : HO) : Prop := ∀ (dx : Addr) (s n to e : Int) (d : Addr) (l w : Int), o ≠ .ins t.c_Parcel dx (fParcel s n to e d l w)
def NKeep (t : Adr) (F : List Addr) (H H' : Hp) : Prop := ∀ b o, H b = some o → b ∉ F → NPar t o → H' b = some o
theorem np_lst {t : Adr} {xs : List V} : NPar t (.lst xs) := fun _ _ _ _ _ _ _ _ q => by cases q
theorem np_frz {t : Adr} {o : Obj} {u : HO} : NPar t (.frz o u) := fun _ _ _ _ _ _ _ _ q => by cases q
theorem np_dT {t : Adr} {kvs : List (List Key × V)} : NPar t (.dT kvs) := fun _ _ _ _ _ _ _ _ q => by cases q
theorem np_dK {t : Adr} {kvs : List (Key × V)} : NPar t (.dK kvs) := fun _ _ _ _ _ _ _ _ q => by cases q
theorem np_head {t : Adr} {C dx : Addr} {k : Str} {v : V} {fs : List (Str × V)} (h : k ≠ "source") : NPar t (.ins C dx ((k, v) :: fs)) := fun _ _ _ _ _ _ _ _ q => by
 injection q with _ _ q
 injection q with q _
 injection q with q _
 exact h q
theorem NKeep.of_same {t : Adr} {F : List Addr} {H H' : Hp} (s : Same H H') : NKeep t F H H' := fun b o e _ _ => s b o e
theorem NKeep.trans {t : Adr} {F : List Addr} {H H1 H2 : Hp} (a : NKeep t F H H1) (b : NKeep t F H1 H2) : NKeep t F H H2 := fun x o e n q => b x o (a x o e n q) n q
structure AInv (a : Sr36.Abs) : Prop where
 good : Sr35.good a.plan = true
 me : a.me < a.plan.n
 m : a.plan.m = a.plan.list.length
 now : a.now ≤ 1000000
 keys : (a.held.map fun h => (h.parcel.source, h.parcel.number)).Nodup
 kkeys : (a.knows.map fun k => (k.1, k.2.1)).Nodup
 hb : a.held.length ≤ 64
 ab : a.arrived.length ≤ 64
 kb : a.knows.length ≤ 256
 hp : ∀ h ∈ a.held, h.parcel.to_ < a.plan.n ∧ h.parcel.to_ ≠ a.me ∧ h.parcel.data.length ≤ 48 ∧ (h.parcel.source = a.me → h.parcel.number ≤ a.own)
 ap : ∀ x ∈ a.arrived, x.to_ = a.me ∧ x.data.length ≤ 48
theorem AInv.n {a : Sr36.Abs} (h : AInv a) : a.plan.n ≤ 32 ∧ a.plan.list.length ≤ 128 ∧ ∀ x ∈ a.plan.list, Sr35.okPass a.plan.n x = true := by
 have g := h.good
 unfold Sr35.good at g
 simp only [Bool.and_eq_true, decide_eq_true_eq] at g
 have e1 : Sr35.NODES = 32 := rfl
 have e2 : Sr35.PASSES = 128 := rfl
 refine ⟨by omega, ?_, List.all_eq_true.mp g.2⟩
 rw [← h.m]
 omega
theorem AInv.fresh {p : Sr35.Plan} {me : Nat} (hg : Sr35.good p = true) (hme : me < p.n) (hm : p.m = p.list.length) : AInv (Sr36.fresh p me) :=
 ⟨hg, hme, hm, Nat.zero_le _, List.nodup_nil, List.nodup_nil, Nat.zero_le _, Nat.zero_le _, Nat.zero_le _, (fun h hh => by cases hh), fun x hx => by cases hx⟩
theorem nodup_keys {Z : PZ} (h : ((Z.map (·.2)).map fun h : Sr36.Held => (h.parcel.source, h.parcel.number)).Nodup) : ((kvsOf Z).map (·.1)).Nodup := by
 unfold kvsOf
 rw [List.map_map]
 rw [List.map_map] at h
 unfold List.Nodup at h ⊢
 rw [List.pairwise_map] at h ⊢
 refine h.imp fun {x y} q e => q ?_
 have e : keyOf x.2.parcel.source x.2.parcel.number = keyOf y.2.parcel.source y.2.parcel.number := e
 rw [keyOf_inj] at e
 show (x.2.parcel.source, x.2.parcel.number) = (y.2.parcel.source, y.2.parcel.number)
 rw [e.1, e.2]
theorem valV_kvs_none {Z : PZ} {s n : Nat} (h : ∀ z ∈ Z, ¬ (z.2.parcel.source = s ∧ z.2.parcel.number = n)) : valV (kvsOf Z) (keyOf s n) = none := by
 unfold valV
 rw [List.find?_eq_none.mpr]
 ·rfl
 ·intro kv hkv q
  obtain ⟨z, hz, rfl⟩ := List.mem_map.mp hkv
  have q := of_decide_eq_true q
  have q : keyOf z.2.parcel.source z.2.parcel.number = keyOf s n := q
  exact h z hz (keyOf_inj.mp q)
section
variable {P : Program} {w : World} {K : PySem.W.Frag} {mg : Str → Option Value} {base : Heap} {t : Adr}
def spNode_init (t : Adr) : Sp := fun vs H Q _ => ∃ (p dx pl : Addr) (me : Nat), vs = [.ref p, .ref pl, .int me] ∧ H p = some (.ins t.c_Node dx []) ∧
 ∀ (H' : Hp) (hd ar kn : Addr), H' p = some (.ins t.c_Node dx (fNode pl me 0 0 hd ar kn)) → H' hd = some (.dT []) → H' ar = some (.lst []) → H' kn = some (.dT []) → (∀ b o, H b = some o → b ≠ p → H' b = some o) → H hd = none → H ar = none → H kn = none → hd ≠ kn → Q .non H'
theorem ok_Node_init (T : Tx K mg t) : FnOk P w K mg base CX0 1 t.f_Node_init t.d_Node_init ["self", "plan", "me"] (spNode_init t) := by
 refine T.fn_Node_init.ok sc_Node_init (fun vs H Q E h => ?_) (fun cdv A outer s H vs Q E hr h => ?_)
 ·obtain ⟨p, dx, pl, me, rfl, _⟩ := h
  rfl
 ·obtain ⟨p, dx, pl, me, rfl, hp, k⟩ := h
  have cl := T.cl_Node
  refine ⟨_, (pss_cons (ps_fld (pv 0) (pv 1) rfl)
   (pss_cons (ps_fld (pv 0) (pv 2) rfl)
   (pss_cons (ps_fld (pv 0) pe_int rfl)
   (pss_cons (ps_fld (pv 0) pe_int rfl)
   (pss_cons (ps_fld (pv 0) pe_dnewT rfl)
   (pss_cons (ps_fld (pv 0) (pe_lst pa_nil) rfl)
   (pss_one (ps_fld (pv 0) pe_dnewT rfl)))))))), ?_⟩
  refine ⟨_, rfl, _, rfl, p, _, dx, _, rfl, hp, cl, T.na_Node_plan, fl 0 rfl, ?_⟩
  refine ⟨_, rfl, _, rfl, p, _, dx, _, rfl, upd_same, cl, T.na_Node_me, fl 1 rfl, ?_⟩
  rw [upd_upd]
  refine ⟨_, rfl, p, _, dx, _, rfl, upd_same, cl, T.na_Node_time, fl 2 rfl, ?_⟩
  rw [upd_upd]
  refine ⟨_, rfl, p, _, dx, _, rfl, upd_same, cl, T.na_Node_own_count, fl 3 rfl, ?_⟩
  rw [upd_upd]
  intro hd hhd
  have n1 : hd ≠ p := fun q => by rw [q, upd_same] at hhd; cases hhd
  refine ⟨_, rfl, p, _, dx, _, rfl, by rw [upd_ne (Ne.symm n1)]; exact upd_same, cl, T.na_Node_held, fl 4 rfl, ?_⟩
  refine ⟨Nat.zero_le _, fun ar har => ?_⟩
  have n2 : ar ≠ p := fun q => by rw [q, upd_same] at har; cases har
  have n3 : ar ≠ hd := fun q => by rw [q, upd_ne n1, upd_same] at har; cases har
  refine ⟨_, rfl, p, _, dx, _, rfl, by rw [upd_ne (Ne.symm n2)]; exact upd_same, cl, T.na_Node_arrived, fl 5 rfl, ?_⟩
  intro kn hkn
  have n4 : kn ≠ p := fun q => by rw [q, upd_same] at hkn; cases hkn
  have n5 : kn ≠ ar := fun q => by rw [q, upd_ne n2, upd_same] at hkn; cases hkn
  have n6 : kn ≠ hd := fun q => by rw [q, upd_ne n1, upd_ne (Ne.symm n3), upd_ne n1, upd_same] at hkn; cases hkn
  refine ⟨_, rfl, p, _, dx, _, rfl, by rw [upd_ne (Ne.symm n4)]; exact upd_same, cl, T.na_Node_known, fl 6 rfl, ?_⟩
  have h0 : ∀ {x : Addr}, x ≠ p → x ≠ hd → x ≠ ar → x ≠ kn → ∀ {o1 o2 o3 o4 o5 o6 o7}, upd (upd (upd (upd (upd (upd (upd H p o1) hd o2) p o3) ar o4) p o5) kn o6) p o7 x = H x := fun a b c d _ _ _ _ _ _ _ => by
   rw [upd_ne a, upd_ne d, upd_ne a, upd_ne c, upd_ne a, upd_ne b, upd_ne a]
  have f1 : H hd = none := by rw [upd_ne n1] at hhd; exact hhd
  have f2 : H ar = none := by rw [upd_ne n2, upd_ne n3, upd_ne n2] at har; exact har
  have f3 : H kn = none := by rw [upd_ne n4, upd_ne n5, upd_ne n4, upd_ne n6, upd_ne n4] at hkn; exact hkn
  refine k _ hd ar kn upd_same ?_ ?_ ?_ (fun b o e ne => ?_) f1 f2 f3 (Ne.symm n6)
  ·rw [upd_ne n1, upd_ne (Ne.symm n6), upd_ne n1, upd_ne (Ne.symm n3), upd_ne n1, upd_same]
  ·rw [upd_ne n2, upd_ne (Ne.symm n5), upd_ne n2, upd_same]
  ·rw [upd_ne n4, upd_same]
  ·rw [h0 ne (ne_of_none e f1) (ne_of_none e f2) (ne_of_none e f3)]
   exact e
def mayGo (a : Sr36.Abs) (to e len : Nat) : Bool := decide (to < a.plan.n ∧ to ≠ a.me ∧ a.now < e ∧ e ≤ 1000000 ∧ len ≤ 48)
def spMay (t : Adr) : Sp := fun vs H Q _ => ∃ (nd d : Addr) (N : NA) (Z Za : PZ) (a : Sr36.Abs) (to e : Nat) (ys : List V), vs = [.ref nd, .int to, .int e, .ref d] ∧ NodeAt t H nd N Z Za a ∧ H d = some (.lst ys) ∧ Q (.bl (mayGo a to e ys.length)) H
theorem ok_Node_may_go (T : Tx K mg t) : FnOk P w K mg base CX0 2 t.f_Node_may_go t.d_Node_may_go ["self", "to", "end", "data"] (spMay t) := by
 have G_Plan_has_node : FnOk P w K mg base CX0 1 t.f_Plan_has_node t.d_Plan_has_node ["self", "node"] (spHas t) := ok_Plan_has_node T
 refine T.fn_Node_may_go.ok sc_Node_may_go (fun vs H Q E h => ?_) (fun cdv A outer s H vs Q E hr h => ?_)
 ·obtain ⟨nd, d, N, Z, Za, a, to, e, ys, rfl, _⟩ := h
  rfl
 ·obtain ⟨nd, d, N, Z, Za, a, to, e, ys, rfl, hN, hd, q⟩ := h
  have cl := T.cl_Node
  obtain ⟨dx, hn⟩ := hN.obj
  obtain ⟨dpl, lp, lo, hpl, _⟩ := hN.plan.obj
  have no : (¬ (to < a.plan.n ∧ to ≠ a.me ∧ a.now < e ∧ e ≤ 1000000 ∧ ys.length ≤ 48)) → Q (.bl false) H := fun z => by
   rw [show mayGo a to e ys.length = false from decide_eq_false z] at q
   exact q
  refine ⟨_, (pss_cons (ps_if (pw_or (pt_not (pt_val (pe_meth (pe_fld (pv 0) rfl) T.cl_Plan T.me_Plan_has_node G_Plan_has_node (hr.mono (by decide)) T.bi_Plan_has_node .nil pass0 (pa_cons (pv 1) pa_nil)))) (pw_or1 (pt_cmpR op_eq (pv 1) (pe_fld (pv 0) rfl) (nomark _)))).pt (pss_one (ps_ret pe_bl)) pss_nil)
   (pss_one (ps_ret (pe_and (pe_cmpR op_lt (pe_fld (pv 0) rfl) (pv 2) (nomark _)) (pe_and (pe_cmpR op_le (pv 2) (pk (by rfl) T.k_LAST_TIME) (nomark _)) (pe_one (pe_cmpR op_le (pe_callB call_len_seq (by rfl) T.b_len bt_len (pa_cons (pv 3) pa_nil)) (pk (by rfl) T.k_MOST_BYTES) (nomark _)))))))), ?_⟩
  refine ⟨_, rfl, nd, _, dx, _, _, rfl, hn, cl, T.na_Node_plan, rfl, N.pl, dpl, _, rfl, hpl, rfl, _, rfl, N.pl, dpl, lp, lo, a.plan.n, to, rfl, hpl, _, rfl, ite2 (fun c => ?_) (fun c1 => ?_)⟩
  ·rw [Bool.not_eq_true', decide_eq_false_iff_not] at c
   exact iteT (no (by omega))
  have c1 : (to : Int) < (a.plan.n : Int) := by
   rw [Bool.not_eq_true', decide_eq_false_iff_not, Classical.not_not] at c1
   exact c1
  refine ⟨_, rfl, _, rfl, nd, _, dx, _, _, rfl, hn, cl, T.na_Node_me, rfl, rfl, _, rfl, ite2 (fun c => ?_) (fun c2 => ?_)⟩
  ·rw [dI, decide_eq_true_eq] at c
   exact no (by omega)
  rw [dI, decide_eq_true_eq] at c2
  refine ⟨_, rfl, nd, _, dx, _, _, rfl, hn, cl, T.na_Node_time, rfl, _, rfl, _, _, rfl, rfl, _, rfl, ite2 (fun c3 => ?_) (fun c => ?_)⟩
  ·have c3 : (a.now : Int) < (e : Int) := of_decide_eq_true c3
   refine ⟨_, rfl, _, _, rfl, rfl, _, rfl, ite2 (fun c4 => ?_) (fun c => ?_)⟩
   ·have c4 : (e : Int) ≤ 1000000 := of_decide_eq_true c4
    refine ⟨_, rfl, d, _, rfl, .inl (SqL.of hd), _, _, rfl, rfl, ?_⟩
    show Q (.bl (decide ((ys.length : Int) ≤ 48))) H
    have e1 : mayGo a to e ys.length = decide ((ys.length : Int) ≤ 48) := by
     unfold mayGo
     exact decide_eq_decide.mpr ⟨fun h => by omega, fun h => ⟨by omega, by omega, by omega, by omega, by omega⟩⟩
    rw [e1] at q
    exact q
   ·have c : ¬ ((e : Int) ≤ 1000000) := fun z => c (decide_eq_true z)
    exact no (by omega)
  ·have c : ¬ ((a.now : Int) < (e : Int)) := fun z => c (decide_eq_true z)
   exact no (by omega)
end
end Pp
end
section
namespace Pp
open PySem PySem.Spec PyProof.Rows L2
section
variable {P : Program} {w : World} {K : PySem.W.Frag} {mg : Str → Option Value} {base : Heap} {t : Adr}
theorem NodeAt.same {H H' : Hp} {nd : Addr} {N : NA} {Z Za : PZ} {a : Sr36.Abs} (h : NodeAt t H nd N Z Za a) (s : Same H H') : NodeAt t H' nd N Z Za a :=
 ⟨let ⟨dx, h1⟩ := h.obj; ⟨dx, s _ _ h1⟩, h.gplan.same (hid_same s), s _ _ h.held, h.ghz.same (hid_same s), h.he, s _ _ h.arr, h.gaz.same (hid_same s), h.ae, s _ _ h.kn, h.hk, let ⟨xs, h1⟩ := h.tl; ⟨xs, s _ _ h1⟩, h.ta⟩
theorem fNode_ne {x : Addr} {s n to e : Int} {d : Addr} {l w : Int} {pl : Addr} {me ti ow : Int} {hd ar kn : Addr} {C C' d1 d2 : Addr} : HO.ins C d1 (fNode pl me ti ow hd ar kn) ≠ HO.ins C' d2 (fParcel s n to e d l w) := fun q => by
 injection q with _ _ q
 injection q with q _
 injection q with q _
 exact absurd q (by decide)
theorem ne_node_parcel {H : Hp} {x y d1 d2 C C' : Addr} {s n to e : Int} {d : Addr} {l w : Int} {pl : Addr} {me ti ow : Int} {hd ar kn : Addr} (h : H x = some (.ins C d1 (fNode pl me ti ow hd ar kn))) (h' : H y = some (.ins C' d2 (fParcel s n to e d l w))) : x ≠ y := ne_of h h' (fNode_ne (x := x))
theorem ne_node_plan {H : Hp} {x y d1 d2 C C' : Addr} {n : Int} {lp lo : Addr} {pl : Addr} {me ti ow : Int} {hd ar kn : Addr} (h : H x = some (.ins C d1 (fNode pl me ti ow hd ar kn))) (h' : H y = some (.ins C' d2 (fPlan n lp lo))) : x ≠ y := ne_of h h' fun q => by
 injection q with _ _ q
 injection q with q _
 injection q with q _
 exact absurd q (by decide)
theorem ne_node_pass {H : Hp} {x y d1 d2 C C' : Addr} {k a b tk be en : Int} {pl : Addr} {me ti ow : Int} {hd ar kn : Addr} (h : H x = some (.ins C d1 (fNode pl me ti ow hd ar kn))) (h' : H y = some (.ins C' d2 (fPass k a b tk be en))) : x ≠ y := ne_of h h' fun q => by
 injection q with _ _ q
 injection q with q _
 injection q with q _
 exact absurd q (by decide)
theorem PlanAt.keep {H H' : Hp} {p : Addr} {n : Nat} {q : List Sr35.Pass} {as ls : List Addr} (h : PlanAt t H p n q as ls) (k1 : ∀ b d n lp lo, H b = some (.ins t.c_Plan d (fPlan n lp lo)) → H' b = some (.ins t.c_Plan d (fPlan n lp lo)))
  (k2 : ∀ b d k a c tk be en, H b = some (.ins t.c_Pass d (fPass k a c tk be en)) → H' b = some (.ins t.c_Pass d (fPass k a c tk be en))) (k3 : ∀ b xs, H b = some (.lst xs) → H' b = some (.lst xs)) : PlanAt t H' p n q as ls := by
 obtain ⟨dx, lp, lo, h1, h2⟩ := h.obj
 refine ⟨⟨dx, lp, lo, k1 _ _ _ _ _ h1, k3 _ _ h2⟩, h.len, ⟨h.pas.len, fun kk a x e1 e2 => ?_⟩, fun i l e => k3 _ _ (h.of i l e)⟩
 obtain ⟨da, h3⟩ := h.pas.at_ kk a x e1 e2
 exact ⟨da, k2 _ _ _ _ _ _ _ _ h3⟩
theorem NodeAt.rewrite {H H' : Hp} {nd dx : Addr} {N N' : NA} {Z Za : PZ} {a a' : Sr36.Abs} (h : NodeAt t H nd N Z Za a) (hk : ∀ b o, H b = some o → b ≠ nd → H' b = some o) (hn : H' nd = some (.ins t.c_Node dx (fNode N'.pl a'.me a'.now a'.own N'.hd N'.ar N'.kn)))
  (e1 : N' = N) (e2 : a'.plan = a.plan) (e3 : a'.held = a.held) (e4 : a'.arrived = a.arrived) (e5 : a'.knows = a.knows) : NodeAt t H' nd N' Z Za a' := by
 subst e1
 obtain ⟨d0, h0⟩ := h.obj
 have hg : ∀ b o, hid N' H b = some o → b ≠ nd → hid N' H' b = some o := fun b o e ne => let ⟨h1, h2, h3⟩ := hid_get e; hid_of (hk b o h1 ne) h2 h3
 have kz : ∀ {Y : PZ}, ParcelsAt t (hid N' H) Y → ParcelsAt t (hid N' H') Y := fun hY z hz => by
  obtain ⟨dp, d, p1, p2⟩ := hY z hz
  exact ⟨dp, d, hg _ _ p1 (Ne.symm (ne_node_parcel h0 (hid_le _ _ p1))), hg _ _ p2 (ne_of (hid_le _ _ p2) h0 (by intro q; cases q))⟩
 refine ⟨⟨dx, hn⟩, ?_, hk _ _ h.held (ne_of h.held h0 (by intro q; cases q)), kz h.ghz, by rw [e3]; exact h.he, hk _ _ h.arr (ne_of h.arr h0 (by intro q; cases q)), kz h.gaz, by rw [e4]; exact h.ae, by rw [e5]; exact hk _ _ h.kn (ne_of h.kn h0 (by intro q; cases q)), h.hk, ?_, h.ta⟩
 ·rw [e2]
  exact h.gplan.keep (fun b d n lp lo e => hg _ _ e (Ne.symm (ne_node_plan h0 (hid_le _ _ e)))) (fun b d k a c tk be en e => hg _ _ e (Ne.symm (ne_node_pass h0 (hid_le _ _ e)))) fun b xs e => hg _ _ e (ne_of (hid_le _ _ e) h0 (by intro q; cases q))
 ·obtain ⟨xs, h1⟩ := h.tl
  exact ⟨xs, hk _ _ h1 (ne_of h1 h0 (by intro q; cases q))⟩
def dataOpt (ys : List Nat) : Option (List Nat) := if ys.length ≤ Sr36.MOST then some ys else none
theorem put_mayGo (a : Sr36.Abs) (to e : Nat) (ys : List Nat) (h : mayGo a to e ys.length = false) : a.put to e (dataOpt ys) = (a, .num (-22)) := by
 unfold dataOpt Sr36.Abs.put
 by_cases c : ys.length ≤ Sr36.MOST
 ·rw [if_pos c]
  have c' : ys.length ≤ 48 := c
  unfold mayGo at h
  have h := of_decide_eq_false h
  dsimp only
  have e3 : Sr35.LAST = 1000000 := rfl
  rw [if_pos (by
   refine Classical.byContradiction fun z => h ⟨?_, ?_, ?_, ?_, c'⟩ <;> omega)]
 ·rw [if_neg c]
theorem put_full (a : Sr36.Abs) (to e : Nat) (ys : List Nat) (h : mayGo a to e ys.length = true) (hf : 64 ≤ a.held.length) : a.put to e (dataOpt ys) = (a, .num (-28)) := by
 unfold mayGo at h
 have h := of_decide_eq_true h
 unfold dataOpt Sr36.Abs.put
 have e3 : Sr35.LAST = 1000000 := rfl
 have e4 : Sr36.HELD = 64 := rfl
 rw [if_pos (show ys.length ≤ Sr36.MOST from h.2.2.2.2)]
 dsimp only
 rw [if_neg (by omega), if_pos (by omega)]
theorem put_ok (a : Sr36.Abs) (to e : Nat) (ys : List Nat) (h : mayGo a to e ys.length = true) (hf : ¬ 64 ≤ a.held.length) :
  a.put to e (dataOpt ys) = ({ a with own := a.own + 1, held := a.held ++ [⟨⟨a.me, a.own + 1, to, e, ys⟩, 0, 0⟩] }, .num (a.own + 1 : Nat)) := by
 unfold mayGo at h
 have h := of_decide_eq_true h
 unfold dataOpt Sr36.Abs.put
 have e3 : Sr35.LAST = 1000000 := rfl
 have e4 : Sr36.HELD = 64 := rfl
 rw [if_pos (show ys.length ≤ Sr36.MOST from h.2.2.2.2)]
 dsimp only
 rw [if_neg (by omega), if_neg (by omega)]
def Fresh (t : Adr) (nd : Addr) (N N' : NA) (H : Hp) : Prop := ∀ f ∈ foot nd N', f ∈ foot nd N ∨ ∀ o, H f = some o → ¬ NPar t o
def nodeEnd (t : Adr) (nd : Addr) (N : NA) (H : Hp) (a' : Sr36.Abs) (ans : List Int) (Q : VK) : Prop := ∀ (H' : Hp) (l : Addr) (N' : NA) (Z Za : PZ), NodeAt t H' nd N' Z Za a' → H' l = some (.lst (ans.map V.int)) → l ≠ N.tl → NKeep t (foot nd N) H H' → Fresh t nd N N' H → N'.tl = N.tl → Q (.ref l) H'
def numOf : Sr36.Ans → List Int
 | .num v => [v]
 | _ => []
def spPut (t : Adr) : Sp := fun vs H Q _ => ∃ (nd d : Addr) (N : NA) (Z Za : PZ) (a : Sr36.Abs) (to e : Nat) (ys : List Nat), vs = [.ref nd, .int to, .int e, .ref d] ∧ NodeAt t H nd N Z Za a ∧ AInv a ∧ H d = some (.lst (nsV ys)) ∧ ys.length ≤ 1000 ∧
 nodeEnd t nd N H (a.put to e (dataOpt ys)).1 (numOf (a.put to e (dataOpt ys)).2) Q
theorem NodeAt.tl_ne {H : Hp} {nd l : Addr} {N : NA} {Z Za : PZ} {a : Sr36.Abs} (hN : NodeAt t H nd N Z Za a) (hl : H l = none) : l ≠ N.tl := let ⟨_, h⟩ := hN.tl; Ne.symm (ne_of_none h hl)
theorem nodeEnd.stay {H H' : Hp} {nd l : Addr} {N : NA} {Z Za : PZ} {a : Sr36.Abs} {ans : List Int} {Q : VK} (k : nodeEnd t nd N H a ans Q) (hN : NodeAt t H nd N Z Za a) (s : Same H H') (hl : H' l = some (.lst (ans.map V.int))) (hne : l ≠ N.tl) : Q (.ref l) H' :=
 k H' l N Z Za (hN.same s) hl hne (NKeep.of_same s) (fun f hf => .inl hf) rfl
theorem ok_Node_put (T : Tx K mg t) : FnOk P w K mg base CX0 3 t.f_Node_put t.d_Node_put ["self", "to", "end", "data"] (spPut t) := by
 have G_Node_may_go : FnOk P w K mg base CX0 2 t.f_Node_may_go t.d_Node_may_go ["self", "to", "end", "data"] (spMay t) := ok_Node_may_go T
 have G_Parcel_init : FnOk P w K mg base CX0 1 t.f_Parcel_init t.d_Parcel_init ["self", "source", "number", "to", "end", "data", "leg"] (spParcel_init t) := ok_Parcel_init T
 refine T.fn_Node_put.ok sc_Node_put (fun vs H Q E h => ?_) (fun cdv A outer s H vs Q E hr h => ?_)
 ·obtain ⟨nd, d, N, Z, Za, a, to, e, ys, rfl, _⟩ := h
  rfl
 ·obtain ⟨nd, d, N, Z, Za, a, to, e, ys, rfl, hN, hA, hd, hys, k⟩ := h
  have hu := hu_of hr
  have cl := T.cl_Node
  obtain ⟨dx, hn⟩ := hN.obj
  have hyl : (nsV ys).length = ys.length := nsV_len ys
  refine ⟨_, (pss_cons (ps_if (pt_not (pt_val (pe_meth (pv 0) T.cl_Node T.me_Node_may_go G_Node_may_go (hr.mono (by decide)) T.bi_Node_may_go .nil pass0 (pa_cons (pv 1) (pa_cons (pv 2) (pa_cons (pv 3) pa_nil)))))) (pss_one (ps_ret (pe_lst (pa_cons (pk (by rfl) T.k_NOT_AS_TOLD) pa_nil)))) pss_nil)
   (pss_cons (ps_if (pt_cmpR op_ge (pe_callB call_lenT (by rfl) T.b_len bt_len (pa_cons (pe_fld (pv 0) rfl) pa_nil)) (pk (by rfl) T.k_MOST_HELD) (nomark _)) (pss_one (ps_ret (pe_lst (pa_cons (pk (by rfl) T.k_FULL) pa_nil)))) pss_nil)
   (pss_cons (ps_fld (pv 0) (pe_op op_add (pe_fld (pv 0) rfl) pe_int) rfl)
   (pss_cons (ps_dput hu (pe_fld (pv 0) rfl) (pe_tup (pa_cons (pe_fld (pv 0) rfl) (pa_cons (pe_fld (pv 0) rfl) pa_nil))) (pe_make (dvs := [.int 0]) T.mk_Parcel G_Parcel_init (hr.mono (by decide)) (by rfl) T.gC_Parcel T.bd_Parcel_init.choose_spec (.cons ⟨_, rfl⟩ .nil) pass0 (pa_cons (pe_fld (pv 0) rfl) (pa_cons (pe_fld (pv 0) rfl) (pa_cons (pv 1) (pa_cons (pv 2) (pa_cons (pe_callTy call_list_of (by rfl) T.b_list bt_list (pa_cons (pv 3) pa_nil)) pa_nil)))))) rfl)
   (pss_one (ps_ret (pe_lst (pa_cons (pe_fld (pv 0) rfl) pa_nil)))))))), ?_⟩
  refine ⟨_, rfl, nd, dx, _, rfl, hn, rfl, _, rfl, _, rfl, _, rfl, nd, d, N, Z, Za, a, to, e, nsV ys, rfl, hN, hd, _, rfl, ite2 (fun c => ?_) (fun c1 => ?_)⟩
  ·rw [hyl, Bool.not_eq_true'] at c
   rw [put_mayGo a to e ys c] at k
   exact ⟨(by show 1 ≤ sizeLine; decide), fun l hl => k.stay hN (same_fresh hl) upd_same (hN.tl_ne hl)⟩
  have c1 : mayGo a to e ys.length = true := by
   rw [hyl, Bool.not_eq_true', Bool.not_eq_false] at c1
   exact c1
  have hzl : Z.length = a.held.length := by rw [← hN.he, List.length_map]
  have hkl : (kvsOf Z).length = a.held.length := by unfold kvsOf; rw [List.length_map, hzl]
  refine ⟨_, rfl, nd, _, dx, _, _, rfl, hn, cl, T.na_Node_held, rfl, N.hd, _, rfl, hN.held, _, _, rfl, rfl, _, rfl, ite2 (fun c => ?_) (fun c2 => ?_)⟩
  ·have c : (64 : Int) ≤ ((kvsOf Z).length : Int) := of_decide_eq_true c
   rw [hkl] at c
   rw [put_full a to e ys c1 (by omega)] at k
   exact ⟨(by show 1 ≤ sizeLine; decide), fun l hl => k.stay hN (same_fresh hl) upd_same (hN.tl_ne hl)⟩
  have c2 : ¬ 64 ≤ a.held.length := fun z => c2 (decide_eq_true (by rw [hkl]; show (64 : Int) ≤ _; omega))
  rw [put_ok a to e ys c1 c2] at k
  refine ⟨_, rfl, nd, _, dx, _, _, rfl, hn, cl, T.na_Node_own_count, rfl, _, _, rfl, rfl, _, rfl, nd, _, dx, _, rfl, hn, cl, T.na_Node_own_count, fl 7 rfl, ?_⟩
  have eo : (a.own : Int) + 1 = ((a.own + 1 : Nat) : Int) := by omega
  have hn1 : ∀ {H1 : Hp}, H1 = upd H nd (.ins t.c_Node dx (putF "own_count" (V.int ((a.own : Int) + 1)) (fNode N.pl a.me a.now a.own N.hd N.ar N.kn))) → H1 nd = some (.ins t.c_Node dx (fNode N.pl a.me a.now ((a.own + 1 : Nat) : Int) N.hd N.ar N.kn)) := fun e1 => by
   rw [e1, upd_same, ← eo]
   rfl
  generalize hH1 : upd H nd _ = H1
  have hn1 := hn1 (H1 := H1) hH1.symm
  have k1 : ∀ b o, H b = some o → b ≠ nd → H1 b = some o := fun b o e1 ne => by rw [← hH1, upd_ne ne]; exact e1
  have hd1 := k1 _ _ hd (ne_of hd hn (by intro q; cases q))
  have hhd1 := k1 _ _ hN.held (ne_of hN.held hn (by intro q; cases q))
  refine ⟨_, rfl, nd, _, dx, _, _, rfl, hn1, cl, T.na_Node_me, rfl, _, rfl, nd, _, dx, _, _, rfl, hn1, cl, T.na_Node_own_count, rfl, _, rfl, _, rfl, _, rfl, d, _, rfl, .inl (SqL.of hd1), fun ld hld => ?_⟩
  intro o do_ ho hdo hne
  refine ⟨o, do_, ld, _, _, _, _, _, rfl, upd_same, ?_⟩
  rw [upd_upd]
  have s2 : Same H1 (upd (upd (upd H1 ld (.lst (nsV ys))) do_ (.own o)) o (.ins t.c_Parcel do_ (fParcel a.me ((a.own + 1 : Nat) : Int) to e ld 0 0))) := (same_fresh hld).trans (same_over (same_fresh hdo) ho)
  have hlo : ld ≠ o := fun q => by rw [← q, upd_same] at ho; cases ho
  have hldo : ld ≠ do_ := fun q => by rw [← q, upd_same] at hdo; cases hdo
  generalize hH2 : upd (upd (upd H1 ld (.lst (nsV ys))) do_ (.own o)) o (.ins t.c_Parcel do_ (fParcel a.me ((a.own + 1 : Nat) : Int) to e ld 0 0)) = H2 at s2
  have ho2 : H2 o = some (.ins t.c_Parcel do_ (fParcel a.me ((a.own + 1 : Nat) : Int) to e ld 0 0)) := by rw [← hH2, upd_same]
  have hl2 : H2 ld = some (.lst (nsV ys)) := by rw [← hH2, upd_ne hlo, upd_ne hldo, upd_same]
  refine ⟨rfl, _, rfl, nd, _, dx, _, _, rfl, s2 _ _ hn1, cl, T.na_Node_held, rfl, _, rfl, nd, _, dx, _, _, rfl, s2 _ _ hn1, cl, T.na_Node_me, rfl, _, rfl, nd, _, dx, _, _, rfl, s2 _ _ hn1, cl, T.na_Node_own_count, rfl, (by show 2 ≤ sizeLine; decide), fun tp htp => ?_⟩
  have hhd2 : H2 N.hd = some (.dT (kvsOf Z)) := s2 _ _ hhd1
  have hht : N.hd ≠ tp := ne_of_none hhd2 htp
  refine ⟨N.hd, _, rfl, DPut.t (k := keyOf a.me (a.own + 1)) (by rw [upd_ne hht]; exact hhd2) upd_same (small_len (by omega)), ?_⟩
  have hnew : putK (kvsOf Z) (keyOf a.me (a.own + 1)) (V.ref o) = kvsOf (Z ++ [(o, ⟨⟨a.me, a.own + 1, to, e, ys⟩, 0, 0⟩)]) := by
   rw [putK_new]
   ·unfold kvsOf
    rw [List.map_append]
    rfl
   ·refine valV_kvs_none fun z hz q => ?_
    have hm : z.2 ∈ a.held := by rw [← hN.he]; exact List.mem_map.mpr ⟨z, hz, rfl⟩
    have := (hA.hp _ hm).2.2.2 q.1
    omega
  rw [hnew]
  generalize hH3 : upd (upd H2 tp _) N.hd _ = H3
  have hh3 : H3 N.hd = some (.dT (kvsOf (Z ++ [(o, ⟨⟨a.me, a.own + 1, to, e, ys⟩, 0, 0⟩)]))) := by rw [← hH3]; exact upd_same
  have k3 : ∀ b u, H2 b = some u → b ≠ N.hd → H3 b = some u := fun b u e1 ne => by rw [← hH3, upd_ne ne, upd_ne (ne_of_none e1 htp)]; exact e1
  have hn3 := k3 _ _ (s2 _ _ hn1) (ne_of (s2 _ _ hn1) hhd2 (by intro q; cases q))
  refine ⟨_, rfl, nd, _, dx, _, _, rfl, hn3, cl, T.na_Node_own_count, rfl, (by show 1 ≤ sizeLine; decide), fun l hl => ?_⟩
  have s4 := same_fresh (o := .lst [V.int ((a.own + 1 : Nat) : Int)]) hl
  have kAll : ∀ b u, H b = some u → b ≠ nd → b ≠ N.hd → upd H3 l (.lst [V.int ((a.own + 1 : Nat) : Int)]) b = some u := fun b u e1 n1 n2 => s4 _ _ (k3 _ _ (s2 _ _ (k1 b u e1 n1)) n2)
  have gAll : ∀ b u, hid N H b = some u → b ≠ nd → b ≠ N.hd → hid N (upd H3 l (.lst [V.int ((a.own + 1 : Nat) : Int)])) b = some u := fun b u e1 n1 n2 => let ⟨q1, q2, q3⟩ := hid_get e1; hid_of (kAll b u q1 n1 n2) q2 q3
  have kz : ∀ {Y : PZ}, ParcelsAt t (hid N H) Y → ParcelsAt t (hid N (upd H3 l (.lst [V.int ((a.own + 1 : Nat) : Int)]))) Y := fun hY z hz => by
   obtain ⟨dp, dd, p1, p2⟩ := hY z hz
   exact ⟨dp, dd, gAll _ _ p1 (Ne.symm (ne_node_parcel hn (hid_le _ _ p1))) (ne_of (hid_le _ _ p1) hN.held (by intro q; cases q)), gAll _ _ p2 (ne_of (hid_le _ _ p2) hn (by intro q; cases q)) (ne_of (hid_le _ _ p2) hN.held (by intro q; cases q))⟩
  obtain ⟨ts, htl⟩ := hN.tl
  have har1 := k1 _ _ hN.arr (ne_of hN.arr hn (by intro q; cases q))
  have htl1 := k1 _ _ htl (ne_of htl hn (by intro q; cases q))
  refine k _ l N (Z ++ [(o, ⟨⟨a.me, a.own + 1, to, e, ys⟩, 0, 0⟩)]) Za ⟨⟨dx, s4 _ _ hn3⟩, ?_, s4 _ _ hh3, fun z hz => ?_, by rw [List.map_append, hN.he]; rfl, ?_, kz hN.gaz, hN.ae, ?_, hN.hk, ⟨ts, ?_⟩, hN.ta⟩ upd_same (Ne.symm (ne_of_none (k3 _ _ (s2 _ _ htl1) (ne_of (s2 _ _ htl1) hhd2 (by intro q; cases q))) hl)) (fun b u e1 nf _ => ?_) (fun f hf => .inl hf) rfl
  ·refine hN.gplan.keep (fun b d1 n1 lp lo e1 => gAll _ _ e1 (Ne.symm (ne_node_plan hn (hid_le _ _ e1))) (ne_of (hid_le _ _ e1) hN.held (by intro q; cases q))) (fun b d1 k1 a1 c1 t1 b1 e2 e1 => gAll _ _ e1 (Ne.symm (ne_node_pass hn (hid_le _ _ e1))) (ne_of (hid_le _ _ e1) hN.held (by intro q; cases q))) fun b xs e1 => gAll _ _ e1 (ne_of (hid_le _ _ e1) hn (by intro q; cases q)) (ne_of (hid_le _ _ e1) hN.held (by intro q; cases q))
  ·rcases List.mem_append.mp hz with hz | hz
   ·exact kz hN.ghz z hz
   ·rcases List.mem_singleton.mp hz with rfl
    exact ⟨do_, ld, hid_of (s4 _ _ (k3 _ _ ho2 (ne_of ho2 hhd2 (by intro q; cases q)))) (ne_of ho2 (s2 _ _ har1) (by intro q; cases q)) (ne_of ho2 (s2 _ _ htl1) (by intro q; cases q)), hid_of (s4 _ _ (k3 _ _ hl2 (ne_of hl2 hhd2 (by intro q; cases q)))) (Ne.symm (ne_of_none har1 hld)) (Ne.symm (ne_of_none htl1 hld))⟩
  ·exact kAll _ _ hN.arr (ne_of hN.arr hn (by intro q; cases q)) (ne_of hN.arr hN.held (by intro q; cases q))
  ·exact kAll _ _ hN.kn (ne_of hN.kn hn (by intro q; cases q)) (Ne.symm hN.hk)
  ·exact kAll _ _ htl (ne_of htl hn (by intro q; cases q)) (ne_of htl hN.held (by intro q; cases q))
  ·exact kAll _ _ e1 (fun q => nf (by rw [q]; exact List.mem_cons_self)) (fun q => nf (by rw [q]; exact List.mem_cons_of_mem _ List.mem_cons_self))
end
end Pp
end
section
namespace Pp
open PySem PySem.Spec PyProof.Rows L2
section
variable {P : Program} {w : World} {K : PySem.W.Frag} {mg : Str → Option Value} {base : Heap} {t : Adr}
theorem ne_parcel_pass {H : Hp} {x y d1 d2 C C' : Addr} {k a b tk be en : Int} {s n to e : Int} {d : Addr} {l w : Int} (h : H x = some (.ins C d1 (fParcel s n to e d l w))) (h' : H y = some (.ins C' d2 (fPass k a b tk be en))) : x ≠ y := ne_of h h' fun q => by
 injection q with _ _ q
 injection q with q _
 injection q with q _
 exact absurd q (by decide)
def spSend_by (t : Adr) : Sp := fun vs H Q _ => ∃ (nd pa p dx dp d dn : Addr) (N : NA) (k me now own : Nat) (x : Sr35.Pass) (h : Sr36.Held), vs = [.ref nd, .ref pa, .ref p] ∧ H nd = some (.ins t.c_Node dn (fNode N.pl me now own N.hd N.ar N.kn)) ∧ PassAt t H pa k x ∧
 H p = some (.ins t.c_Parcel dx (fParcel h.parcel.source h.parcel.number h.parcel.to_ h.parcel.end_ d h.leg h.waits)) ∧ H d = some (.lst (nsV h.parcel.data)) ∧ h.parcel.data.length ≤ 1000 ∧ x.takes ≤ 1000 ∧
 ∀ (H' : Hp) (l : Addr), (∀ b o, H b = some o → b ≠ p → H' b = some o) → H' p = some (.ins t.c_Parcel dx (fParcel h.parcel.source h.parcel.number h.parcel.to_ h.parcel.end_ d h.leg ((now + 2 * x.takes : Nat) : Int))) →
  H' l = some (.lst (V.int k :: V.int ((Sr36.bytesOf (.parcel h.parcel (h.leg + 1))).length : Nat) :: nsV (Sr36.bytesOf (.parcel h.parcel (h.leg + 1))))) → Q (.ref l) H'
theorem bytes_len (x : Sr36.Parcel) (leg : Nat) : (Sr36.bytesOf (.parcel x leg)).length = 16 + x.data.length := by
 unfold Sr36.bytesOf
 simp only [List.length_append, le_len, List.length_cons, List.length_nil]
def spTold (t : Adr) : Sp := fun vs H Q _ => ∃ (pa lm : Addr) (k : Nat) (x : Sr35.Pass) (b : List Nat), vs = [.ref pa, .ref lm] ∧ PassAt t H pa k x ∧ H lm = some (.lst (nsV b)) ∧ b.length ≤ 2000 ∧
 ∀ (H' : Hp) (l : Addr), Same H H' → H' l = some (.lst (V.int k :: V.int (b.length : Nat) :: nsV b)) → Q (.ref l) H'
theorem ok_told_by (T : Tx K mg t) : FnOk P w K mg base CX0 1 t.f_told_by t.d_told_by ["by", "message"] (spTold t) := by
 refine T.fn_told_by.ok sc_told_by (fun vs H Q E h => ?_) (fun cdv A outer s H vs Q E hr h => ?_)
 ·obtain ⟨pa, lm, k, x, b, rfl, _⟩ := h
  rfl
 ·obtain ⟨pa, lm, k, x, b, rfl, ⟨dpa, hpa⟩, hm, hl, q⟩ := h
  refine ⟨_, (pss_one (ps_ret (pe_op op_cat (pe_lst (pa_cons (pe_fld (pv 0) rfl) (pa_cons (pe_callB call_len_seq (by rfl) T.b_len bt_len (pa_cons (pv 1) pa_nil)) pa_nil))) (pv 1)))), ?_⟩
  refine ⟨_, rfl, pa, _, dpa, _, _, rfl, hpa, T.cl_Pass, T.na_Pass_number, rfl, _, rfl, lm, _, rfl, .inl (SqL.of hm), (by show 2 ≤ sizeLine; decide), fun l1 hl1 => ⟨_, rfl, l1, lm, _, nsV b, rfl, rfl, upd_same, ?_, ?_, fun l2 hl2 => ?_⟩⟩
  ·rw [upd_ne (ne_of_none hm hl1)]
   exact hm
  ·rw [nsV_len]
   show 2 + _ ≤ sizeLine
   exact small_le (by omega)
  ·refine q _ l2 ((same_fresh hl1).trans (same_fresh hl2)) ?_
   rw [upd_same, nsV_len]
   rfl
theorem ok_Node_send_by (T : Tx K mg t) : FnOk P w K mg base CX0 3 t.f_Node_send_by t.d_Node_send_by ["self", "by", "parcel"] (spSend_by t) := by
 have G_parcel_message : FnOk P w K mg base CX0 2 t.f_parcel_message t.d_parcel_message ["parcel", "leg"] (spMsg t) := ok_parcel_message T
 have G_told_by : FnOk P w K mg base CX0 1 t.f_told_by t.d_told_by ["by", "message"] (spTold t) := ok_told_by T
 refine T.fn_Node_send_by.ok sc_Node_send_by (fun vs H Q E h => ?_) (fun cdv A outer s H vs Q E hr h => ?_)
 ·obtain ⟨nd, pa, p, dx, dp, d, dn, N, k, me, now, own, x, h, rfl, _⟩ := h
  rfl
 ·obtain ⟨nd, pa, p, dx, dp, d, dn, N, k, me, now, own, x, h, rfl, hn, ⟨dpa, hpa⟩, hp, hd, hl, htk, q⟩ := h
  have cl := T.cl_Parcel
  refine ⟨_, (pss_cons (ps_fld (pv 2) (pe_op op_add (pe_fld (pv 0) rfl) (pe_op op_mul pe_int (pe_fld (pv 1) rfl))) rfl)
   (pss_one (ps_ret (pe_call G_told_by (hr.mono (by decide)) (by rfl) T.g_told_by T.kp_told_by T.bi_told_by .nil pass0 (pa_cons (pv 1) (pa_cons (pe_call G_parcel_message (hr.mono (by decide)) (by rfl) T.g_parcel_message T.kp_parcel_message T.bi_parcel_message .nil pass0 (pa_cons (pv 2) (pa_cons (pe_op op_add (pe_fld (pv 2) rfl) pe_int) pa_nil))) pa_nil)))))), ?_⟩
  have ew : (now : Int) + 2 * (x.takes : Int) = ((now + 2 * x.takes : Nat) : Int) := by omega
  refine ⟨_, rfl, nd, _, dn, _, _, rfl, hn, T.cl_Node, T.na_Node_time, rfl, _, rfl, pa, _, dpa, _, _, rfl, hpa, T.cl_Pass, T.na_Pass_takes, rfl, _, _, rfl, rfl, .inl ⟨by decide, by decide⟩, _, _, rfl, rfl, _, rfl, p, _, dx, _, rfl, hp, cl, T.na_Parcel_waits_till, fl 7 rfl, ?_⟩
  have hp2 : ∀ {H2 : Hp}, H2 = upd H p (.ins t.c_Parcel dx (putF "waits_till" (V.int ((now : Int) + 2 * (x.takes : Int))) (fParcel h.parcel.source h.parcel.number h.parcel.to_ h.parcel.end_ d h.leg h.waits))) →
    H2 p = some (.ins t.c_Parcel dx (fParcel h.parcel.source h.parcel.number h.parcel.to_ h.parcel.end_ d h.leg ((now + 2 * x.takes : Nat) : Int))) := fun e => by
   rw [e, upd_same, ← ew]
   rfl
  generalize hH2 : upd H p _ = H2
  have hp2 := hp2 (H2 := H2) hH2.symm
  have k2 : ∀ b o, H b = some o → b ≠ p → H2 b = some o := fun b o e ne => by rw [← hH2, upd_ne ne]; exact e
  have hpa2 := k2 _ _ hpa (Ne.symm (ne_parcel_pass hp hpa))
  have hd2 := k2 _ _ hd (ne_of hd hp (by intro z; cases z))
  have hblen := bytes_len h.parcel (h.leg + 1)
  have el : (h.leg : Int) + 1 = ((h.leg + 1 : Nat) : Int) := by omega
  refine ⟨_, rfl, _, rfl, _, rfl, p, _, dx, _, _, rfl, hp2, cl, T.na_Parcel_leg, rfl, _, _, rfl, rfl, p, ⟨h.parcel, h.leg, now + 2 * x.takes⟩, h.leg + 1, by rw [← el]; rfl, ⟨dx, d, hp2, hd2⟩, hl, fun H1 lm s1 hm => ?_⟩
  refine ⟨pa, lm, k, x, _, rfl, ⟨dpa, s1 _ _ hpa2⟩, hm, by rw [hblen]; show 16 + h.parcel.data.length ≤ 2000; omega, fun H3 l3 s3 hl3 => ?_⟩
  exact q _ l3 (fun b o e ne => s3 _ _ (s1 _ _ (k2 _ _ e ne))) (s3 _ _ (s1 _ _ hp2)) hl3
def keepZ (now : Nat) (z : Addr × Sr36.Held) : Bool := decide (now ≤ z.2.parcel.end_)
def dropA (a : Sr36.Abs) : Sr36.Abs := { a with held := a.held.filter fun h => decide (a.now ≤ h.parcel.end_), arrived := a.arrived.filter fun x => decide (a.now ≤ x.end_), knows := a.knows.filter fun k => decide (a.now ≤ k.2.2) }
def spDrop (t : Adr) : Sp := fun vs H Q _ => ∃ (nd : Addr) (N : NA) (Z Za : PZ) (a : Sr36.Abs), vs = [.ref nd] ∧ NodeAt t H nd N Z Za a ∧ AInv a ∧
 ∀ (H' : Hp) (N' : NA), NodeAt t H' nd N' (Z.filter (keepZ a.now)) (Za.filter (keepZ a.now)) (dropA a) → NKeep t (foot nd N) H H' → (∀ f ∈ foot nd N', f ∈ foot nd N ∨ H f = none) → N'.tl = N.tl → Q .non H'
theorem filter_take_succ {α : Type} {l : List α} {f : α → Bool} {j : Nat} {x : α} (h : l[j]? = some x) : (l.take (j + 1)).filter f = (l.take j).filter f ++ if f x = true then [x] else [] := by
 rw [List.take_add_one, h, List.filter_append]
 simp only [Option.toList_some, List.filter_cons, List.filter_nil]
theorem PairT.keep {H H' : Hp} {p : Addr} {kv : List Key × V} (h : PairT K H p kv) (k : ∀ b xs, H b = some (.tup xs) → H' b = some (.tup xs)) (kf : ∀ b o u, H b = some (.frz o u) → H' b = some (.frz o u)) : PairT K H' p kv := by
 obtain ⟨q, h1, h2⟩ := h
 refine ⟨q, ?_, k _ _ h2⟩
 rcases h1 with h1 | h1
 ·rcases h1 with h1 | ⟨o, h1⟩
  ·exact .inl (.inl (k _ _ h1))
  ·exact .inl (.inr ⟨o, kf _ _ _ h1⟩)
 ·exact .inr h1
def PairH (H : Hp) (p : Addr) (kv : List Key × V) : Prop := ∃ q, H p = some (.tup [.ref q, kv.2]) ∧ H q = some (.tup (kv.1.map kV))
theorem PairH.to {H : Hp} {p : Addr} {kv : List Key × V} (h : PairH H p kv) : PairT K H p kv := let ⟨q, h1, h2⟩ := h; ⟨q, SqT.of h1, h2⟩
theorem PairH.keep {H H' : Hp} {p : Addr} {kv : List Key × V} (h : PairH H p kv) (k : ∀ b xs, H b = some (.tup xs) → H' b = some (.tup xs)) : PairH H' p kv := let ⟨q, h1, h2⟩ := h; ⟨q, k _ _ h1, k _ _ h2⟩
theorem items_walk {g : TG} {tt : TT} {te : TE} {vs : List Nat} {σ : L2.St} {H : Hp} {d D : Addr} {od : Obj} {kvs : List (List Key × V)} {Qd : Hp → Prop} (f : List Key × V → Bool) (hd : H d = some (.frz od (.dT kvs))) (hD : H D = none) (hlen : kvs.length ≤ 1000)
  (hturn : ∀ (j : Nat) (kv : List Key × V) (H1 : Hp) (T q : Addr) (Nx : Hp → Prop), kvs[j]? = some kv → Same H H1 → H1 T = none → H1 q = some (.tup (kv.1.map kV)) → H1 D ≠ none →
   (f kv = true → ∀ tp, (upd H1 T (.tup [.ref q, kv.2])) tp = none → ∃ acc, (upd (upd H1 T (.tup [.ref q, kv.2])) tp (.tup [.ref q, kv.2])) D = some (.lst acc) ∧ acc.length < sizeLine ∧ Nx (upd (upd (upd H1 T (.tup [.ref q, kv.2])) tp (.tup [.ref q, kv.2])) D (.lst (acc ++ [.ref tp])))) →
   (f kv = false → Nx (upd H1 T (.tup [.ref q, kv.2]))) →
   g (.ref T) (wipe σ vs) (upd H1 T (.tup [.ref q, kv.2])) fun σ2 H2 => wipe σ2 vs = wipe σ vs ∧ tt σ2 H2 fun b H3 => if b = true then te σ2 H3 fun y H4 => ∃ acc, H4 D = some (.lst acc) ∧ acc.length < sizeLine ∧ Nx (upd H4 D (.lst (acc ++ [y]))) else Nx H3)
  (hdone : ∀ (H1 : Hp) (ps : List Addr), Same H H1 → H1 D = some (.lst (ps.map V.ref)) → Paired (PairH H1) ps (kvs.filter f) → Qd H1) :
  ∃ W : Nat → Nat → Hp → Prop, (∃ m, W 0 m (upd H D (.lst []))) ∧ ∀ i m H, W i m H →
   ((ItiT d od kvs).stop i H ∧ Qd H) ∨ ((ItiT d od kvs).go i H ∧ ∃ Nx : Hp → Prop, (∀ H', Nx H' → ∃ m', m' < m ∧ W (i + 1) m' H') ∧ ∀ x H', (ItiT d od kvs).yld i H x H' → g x (wipe σ vs) H' fun σ2 H2 => wipe σ2 vs = wipe σ vs ∧ tt σ2 H2 fun b H3 =>
    if b = true then te σ2 H3 fun y H4 => ∃ acc, H4 D = some (.lst acc) ∧ acc.length < sizeLine ∧ Nx (upd H4 D (.lst (acc ++ [y]))) else Nx H3) := by
 refine lc_of kvs.length (Pv := fun j H1 => ∃ ps : List Addr, Same H H1 ∧ H1 D = some (.lst (ps.map V.ref)) ∧ Paired (PairH H1) ps ((kvs.take j).filter f) ∧ ps.length ≤ j) ⟨[], same_fresh hD, upd_same, .nil, Nat.le_refl _⟩ (fun i H1 hi hP => ?_) (fun H1 hP => ?_) (fun j x H1 H2 hj hP hy => ?_) (fun H1 hP => ?_)
 ·obtain ⟨ps, s1, _⟩ := hP
  exact ⟨s1 _ _ hd, hi⟩
 ·obtain ⟨ps, s1, _⟩ := hP
  exact ⟨s1 _ _ hd, Nat.le_refl _⟩
 ·obtain ⟨ps, s1, hDl, hps, hpl⟩ := hP
  obtain ⟨T, q, k, v, hkv, rfl, hT, hq, rfl⟩ := hy
  have sT : Same H1 (upd H1 T (.tup [.ref q, v])) := same_fresh hT
  refine hturn j (k, v) H1 T q _ hkv s1 hT hq (by rw [hDl]; exact fun z => by cases z) (fun hf tp htp => ?_) (fun hf => ?_)
  ·have sP := same_fresh (o := .tup [.ref q, v]) htp
   refine ⟨_, sP _ _ (sT _ _ hDl), ?_, ps ++ [tp], same_over (s1.trans (sT.trans sP)) hD, ?_, ?_, by rw [List.length_append]; show _ + 1 ≤ _; omega⟩
   ·rw [List.length_map]
    exact small_len (by omega)
   ·rw [upd_same, List.map_append]
    rfl
   ·rw [filter_take_succ hkv, if_pos hf]
    have kt : ∀ b ys, (upd (upd H1 T (.tup [.ref q, v])) tp (.tup [.ref q, v])) b = some (.tup ys) → (upd (upd (upd H1 T (.tup [.ref q, v])) tp (.tup [.ref q, v])) D (.lst (ps.map V.ref ++ [.ref tp]))) b = some (.tup ys) := fun b ys e => by
     rw [upd_ne (ne_of e (sP _ _ (sT _ _ hDl)) (by intro z; cases z))]
     exact e
    refine paired_snoc ⟨q, kt _ _ upd_same, kt _ _ (sP _ _ (sT _ _ hq))⟩ (Paired.imp2 (fun p kv hp => PairH.keep hp fun b ys e => kt _ _ (sP _ _ (sT _ _ e))) hps)
  ·refine ⟨ps, s1.trans sT, sT _ _ hDl, ?_, by omega⟩
   rw [filter_take_succ hkv, if_neg (by rw [hf]; exact Bool.false_ne_true), List.append_nil]
   exact Paired.imp2 (fun p kv hp => PairH.keep hp fun b ys e => sT _ _ e) hps
 ·obtain ⟨ps, s1, hDl, hps, hpl⟩ := hP
  rw [List.take_length] at hps
  exact hdone H1 ps s1 hDl hps
end
end Pp
end
section
namespace Pp
open PySem PySem.Spec PyProof.Rows L2
theorem hu2_of {A : Around} {k : Nat} (hr : Room k A) : A.units + 2 < cLine := Nat.lt_of_le_of_lt (Nat.add_le_add_left (by decide : 2 ≤ 64) _) hr.units
section
variable {P : Program} {w : World} {K : PySem.W.Frag} {mg : Str → Option Value} {base : Heap} {t : Adr}
theorem kvsOf_filter (Z : PZ) (now : Nat) (f : List Key × V → Bool) (h : ∀ z ∈ Z, f (keyOf z.2.parcel.source z.2.parcel.number, .ref z.1) = keepZ now z) : (kvsOf Z).filter f = kvsOf (Z.filter (keepZ now)) := by
 unfold kvsOf
 rw [List.filter_map]
 congr 1
 exact List.filter_congr fun z hz => h z hz
def ffH (Z : PZ) (now : Nat) (kv : List Key × V) : Bool := Z.any fun z => decide (kv.2 = .ref z.1) && keepZ now z
def ffK (now : Nat) (kv : List Key × V) : Bool := match kv.2 with
 | .int e => decide ((now : Int) ≤ e)
 | _ => false
theorem knsOf_filter (L : List (Nat × Nat × Nat)) (now : Nat) : (knsOf L).filter (ffK now) = knsOf (L.filter fun k => decide (now ≤ k.2.2)) := by
 unfold knsOf
 rw [List.filter_map]
 congr 1
 refine List.filter_congr fun k _ => ?_
 show decide ((now : Int) ≤ (k.2.2 : Int)) = decide (now ≤ k.2.2)
 exact decide_eq_decide.mpr (by omega)
theorem nodup_kns {L : List (Nat × Nat × Nat)} (h : (L.map fun k => (k.1, k.2.1)).Nodup) : ((knsOf L).map (·.1)).Nodup := by
 unfold knsOf
 rw [List.map_map]
 unfold List.Nodup at h ⊢
 rw [List.pairwise_map] at h ⊢
 refine h.imp fun {x y} q e => q ?_
 have e : keyOf x.1 x.2.1 = keyOf y.1 y.2.1 := e
 rw [keyOf_inj] at e
 show (x.1, x.2.1) = (y.1, y.2.1)
 rw [e.1, e.2]
theorem ok_Node_drop_ended (T : Tx K mg t) : FnOk P w K mg base CX0 1 t.f_Node_drop_ended t.d_Node_drop_ended ["self"] (spDrop t) := by
 refine T.fn_Node_drop_ended.ok sc_Node_drop_ended (fun vs H Q E h => ?_) (fun cdv A outer s H vs Q E hr h => ?_)
 ·obtain ⟨nd, N, Z, Za, a, rfl, _⟩ := h
  rfl
 ·obtain ⟨nd, N, Z, Za, a, rfl, hN, hA, k⟩ := h
  have hu2 := hu2_of hr
  have cl := T.cl_Node
  obtain ⟨dx, hn⟩ := hN.obj
  have hzl : (kvsOf Z).length ≤ 1000 := by
   unfold kvsOf
   rw [List.length_map]
   have : Z.length = a.held.length := by rw [← hN.he, List.length_map]
   have := hA.hb
   omega
  have hkl : (knsOf a.knows).length ≤ 1000 := by
   unfold knsOf
   rw [List.length_map]
   have := hA.kb
   omega
  have hndh : nd ≠ N.hd := ne_of hn hN.held (by intro q; cases q)
  refine ⟨_, (pss_cons (ps_set (i := 1) sc_Node_drop_ended.nd rfl (by first | exact Or.inl rfl | exact Or.inr rfl) (pe_fld (pv 0) rfl))
   (pss_cons (ps_fld (pv 0) (pe_callTy (call_dictPT rfl hu2) (by rfl) T.b_dict bt_dict (pa_cons (pe_lock (pe_lc (own := [("key", 2), ("parcel", 3)]) rfl sc_Node_drop_ended.nd (pi_itemsT (pe_fld (pv 0) rfl)) (blkOk_by rfl) (fun _ _ _ _ _ => (pg_tupK (K := K) (n := 2) rfl rfl (pgs_cons (pg_name (i := 2) sc_Node_drop_ended.nd rfl (by first | exact Or.inl rfl | exact Or.inr rfl)) (pgs_cons (pg_name (i := 3) sc_Node_drop_ended.nd rfl (by first | exact Or.inl rfl | exact Or.inr rfl)) pgs_nil)))) (fun _ _ _ _ _ => (pts_one (pt_cmpR op_ge (pe_fldK (K := K) rfl (pv 3) rfl) (pv 1) (nomark _)))) (fun _ _ _ _ _ => (pe_tup (pa_cons (pv 2) (pa_cons (pv 3) pa_nil)))))) pa_nil)) rfl)
   (pss_cons (ps_fld (pv 0) (pe_lc (own := [("parcel", 3)]) rfl sc_Node_drop_ended.nd (pi_list (pe_fld (pv 0) rfl)) (blkOk_by rfl) (fun _ _ _ _ _ => (pg_name (i := 3) sc_Node_drop_ended.nd rfl (by first | exact Or.inl rfl | exact Or.inr rfl))) (fun _ _ _ _ _ => (pts_one (pt_cmpR op_ge (pe_fldK (K := K) rfl (pv 3) rfl) (pv 1) (nomark _)))) (fun _ _ _ _ _ => (pv 3))) rfl)
   (pss_one (ps_fld (pv 0) (pe_callTy (call_dictPT rfl hu2) (by rfl) T.b_dict bt_dict (pa_cons (pe_lock (pe_lc (own := [("key", 2), ("end", 4)]) rfl sc_Node_drop_ended.nd (pi_itemsT (pe_fld (pv 0) rfl)) (blkOk_by rfl) (fun _ _ _ _ _ => (pg_tupK (K := K) (n := 2) rfl rfl (pgs_cons (pg_name (i := 2) sc_Node_drop_ended.nd rfl (by first | exact Or.inl rfl | exact Or.inr rfl)) (pgs_cons (pg_name (i := 4) sc_Node_drop_ended.nd rfl (by first | exact Or.inl rfl | exact Or.inr rfl)) pgs_nil)))) (fun _ _ _ _ _ => (pts_one (pt_cmpR op_ge (pv 4) (pv 1) (nomark _)))) (fun _ _ _ _ _ => (pe_tup (pa_cons (pv 2) (pa_cons (pv 4) pa_nil)))))) pa_nil)) rfl))))), ?_⟩
  refine ⟨_, rfl, nd, _, dx, _, _, rfl, hn, cl, T.na_Node_time, rfl, ?_⟩
  refine ⟨N.hd, _, hN.held, True.intro, fun od => ⟨_, rfl, nd, _, dx, _, _, rfl, by rw [upd_ne hndh]; exact hn, cl, T.na_Node_held, rfl, N.hd, od, kvsOf Z, rfl, upd_same, fun D hD => ?_⟩⟩
  have hfz : ∀ z ∈ Z, ffH Z a.now (keyOf z.2.parcel.source z.2.parcel.number, .ref z.1) = keepZ a.now z := fun z hz => by
   unfold ffH
   cases hk : keepZ a.now z with
   | true => exact List.any_eq_true.mpr ⟨z, hz, by rw [hk]; simp⟩
   | false =>
    rw [Bool.eq_false_iff]
    intro q
    obtain ⟨z', hz', q⟩ := List.any_eq_true.mp q
    rw [Bool.and_eq_true, decide_eq_true_eq] at q
    have e1 : z.1 = z'.1 := V.ref.inj q.1
    obtain ⟨d1, d2, h1, _⟩ := hN.hz z hz
    obtain ⟨d3, d4, h3, _⟩ := hN.hz z' hz'
    rw [e1, h3] at h1
    have h1 := Option.some.inj h1
    injection h1 with _ _ h1
    have : z'.2.parcel.end_ = z.2.parcel.end_ := by
     unfold fParcel at h1
     simp only [List.cons.injEq, Prod.mk.injEq, V.int.injEq, true_and] at h1
     omega
    have q2 := q.2
    unfold keepZ at q2 hk
    rw [this] at q2
    rw [hk] at q2
    cases q2
  refine items_walk (ffH Z a.now) upd_same hD hzl (fun j kv H1 Tp q Nx hkv s1 hT hq hDn hyes hno => ?_) (fun H1 ps s1 hDl hps => ?_)
  ·unfold kvsOf at hkv
   rw [List.getElem?_map] at hkv
   cases hz : Z[j]? with
   | none => rw [hz] at hkv; cases hkv
   | some z =>
   rw [hz] at hkv
   cases hkv
   have hzm := List.mem_of_getElem? hz
   obtain ⟨dp, dd, hp1, hp2⟩ := hN.hz z hzm
   have hpz : upd H1 Tp (.tup [.ref q, .ref z.1]) z.1 = some (.ins t.c_Parcel dp (fParcel z.2.parcel.source z.2.parcel.number z.2.parcel.to_ z.2.parcel.end_ dd z.2.leg z.2.waits)) := by
    have e1 := s1 z.1 _ (show upd H N.hd _ z.1 = some _ by rw [upd_ne (ne_of hp1 hN.held (by intro q; cases q))]; exact hp1)
    rw [upd_ne (ne_of_none e1 hT)]
    exact e1
   refine ⟨Tp, _, rfl, SqT.of upd_same, rfl, _, _, rfl, _, _, rfl, rfl, rfl, ?_⟩
   refine ⟨_, rfl, z.1, _, dp, _, _, rfl, hpz, T.cl_Parcel, T.na_Parcel_end, rfl, _, rfl, _, _, rfl, rfl, _, rfl, ite2 (fun c => ?_) (fun c => ?_)⟩
   ·have c : (a.now : Int) ≤ (z.2.parcel.end_ : Int) := of_decide_eq_true c
    refine ⟨_, rfl, _, rfl, (by show 2 ≤ sizeLine; decide), fun tp htp => hyes ?_ tp htp⟩
    rw [hfz z hzm]
    exact decide_eq_true (by omega)
   ·have c : ¬ ((a.now : Int) ≤ (z.2.parcel.end_ : Int)) := fun q => c (decide_eq_true q)
    refine hno ?_
    rw [hfz z hzm]
    exact decide_eq_false (by omega)
  ·rw [kvsOf_filter Z a.now _ hfz] at hps
   have hhd1 : H1 N.hd = some (.frz od (.dT (kvsOf Z))) := s1 _ _ upd_same
   refine ⟨hhd1, ?_⟩
   have u1 : ∀ b o, H1 b = some o → b ≠ N.hd → upd H1 N.hd (.dT (kvsOf Z)) b = some o := fun b o e ne => by rw [upd_ne ne]; exact e
   have s2 : Same H (upd H1 N.hd (.dT (kvsOf Z))) := fun b o e => by
    by_cases hb : b = N.hd
    ·subst hb
     rw [hN.held] at e
     rw [upd_same]
     exact e
    ·exact u1 _ _ (s1 _ _ (by rw [upd_ne hb]; exact e)) hb
   have hD2 : upd H1 N.hd (.dT (kvsOf Z)) D = some (.lst (ps.map V.ref)) := u1 _ _ hDl (ne_of hDl hhd1 (by intro q; cases q))
   have hps2 : Paired (PairT K (upd H1 N.hd (.dT (kvsOf Z)))) ps (kvsOf (Z.filter (keepZ a.now))) := Paired.imp2 (fun p kv hp => (PairH.keep hp fun b ys e => u1 _ _ e (ne_of e hhd1 (by intro q; cases q))).to) hps
   generalize hH2 : upd H1 N.hd (.dT (kvsOf Z)) = H2 at s2 hD2 hps2
   refine ⟨D, ps, _, rfl, SqL.of hD2, hps2, ?_, fun hd' hhd' => ?_⟩
   ·refine nodup_keys ?_
    have h1 := hA.keys
    rw [← hN.he] at h1
    refine List.Nodup.sublist ?_ h1
    exact (List.filter_sublist.map _).map _
   have s3 := s2.trans (same_fresh (o := .dT (kvsOf (Z.filter (keepZ a.now)))) hhd')
   refine ⟨_, rfl, nd, _, dx, _, rfl, s3 _ _ hn, cl, T.na_Node_held, fl 7 rfl, ?_⟩
   have f1 : H hd' = none := s2.free hhd'
   have hnd' : nd ≠ hd' := ne_of_none hn f1
   have hn4 : ∀ {H4 : Hp}, H4 = upd (upd H2 hd' (.dT (kvsOf (Z.filter (keepZ a.now))))) nd (.ins t.c_Node dx (putF "held" (V.ref hd') (fNode N.pl a.me a.now a.own N.hd N.ar N.kn))) → H4 nd = some (.ins t.c_Node dx (fNode N.pl a.me a.now a.own hd' N.ar N.kn)) := fun e => by
    rw [e, upd_same]
    rfl
   generalize hH4 : upd (upd H2 hd' (.dT (kvsOf (Z.filter (keepZ a.now))))) nd _ = H4
   have hn4 := hn4 (H4 := H4) hH4.symm
   have k4 : ∀ b o, H b = some o → b ≠ nd → H4 b = some o := fun b o e ne => by rw [← hH4, upd_ne ne]; exact s3 _ _ e
   have hhd4 : H4 hd' = some (.dT (kvsOf (Z.filter (keepZ a.now)))) := by rw [← hH4, upd_ne (Ne.symm hnd'), upd_same]
   have free4 : ∀ {x : Addr}, H4 x = none → H x = none := fun {x} e => by
    cases hx : H x with
    | none => rfl
    | some o =>
     by_cases hb : x = nd
     ·subst hb
      rw [hn4] at e
      cases e
     ·rw [k4 x o hx hb] at e
      cases e
   clear hH4 hH2
   have har4 := k4 _ _ hN.arr (ne_of hN.arr hn (by intro q; cases q))
   refine ⟨_, rfl, nd, _, dx, _, _, rfl, hn4, cl, T.na_Node_arrived, rfl, N.ar, rfl, ⟨_, SqL.of har4⟩, fun D2 hD2 => ?_⟩
   have harD : N.ar ≠ D2 := ne_of_none har4 hD2
   refine lc_list (K := K) (a := N.ar) (xs := refs Za) (Pv := fun j H' => H' = upd H4 D2 (.lst (refs ((Za.take j).filter (keepZ a.now))))) rfl (fun j H' _ e => ?_) (fun j x H' hx e => ?_) (fun H' e => ?_)
   ·subst e
    exact SqL.of (by rw [upd_ne harD]; exact har4)
   ·subst e
    unfold refs at hx
    rw [List.getElem?_map] at hx
    cases hz : Za[j]? with
    | none => rw [hz] at hx; cases hx
    | some z =>
    rw [hz] at hx
    cases hx
    obtain ⟨dp, dd, hp1, hp2⟩ := hN.az z (List.mem_of_getElem? hz)
    have hp4 := k4 _ _ hp1 (Ne.symm (ne_node_parcel hn hp1))
    refine ⟨rfl, _, rfl, z.1, _, dp, _, _, rfl, by rw [upd_ne (ne_of_none hp4 hD2)]; exact hp4, T.cl_Parcel, T.na_Parcel_end, rfl, _, rfl, _, _, rfl, rfl, _, rfl, ite2 (fun c => ?_) (fun c => ?_)⟩
    ·have c : (a.now : Int) ≤ (z.2.parcel.end_ : Int) := of_decide_eq_true c
     refine ⟨_, rfl, _, upd_same, ?_, ?_⟩
     ·unfold refs
      rw [List.length_map]
      have h1 : ((Za.take j).filter (keepZ a.now)).length ≤ Za.length := Nat.le_trans (List.length_filter_le _ _) (by rw [List.length_take]; omega)
      have h2 : Za.length = a.arrived.length := by rw [← hN.ae, List.length_map]
      have := hA.ab
      exact small_len (by omega)
     ·rw [upd_upd, filter_take_succ hz, if_pos (show keepZ a.now z = true from decide_eq_true (by omega))]
      unfold refs
      rw [List.map_append]
      rfl
    ·have c : ¬ ((a.now : Int) ≤ (z.2.parcel.end_ : Int)) := fun q => c (decide_eq_true q)
     rw [filter_take_succ hz, if_neg (show ¬ keepZ a.now z = true from fun q => c (by have := of_decide_eq_true q; omega)), List.append_nil]
   subst e
   have hlr : (refs Za).length = Za.length := by unfold refs; rw [List.length_map]
   rw [hlr, List.take_length]
   have s5 := same_fresh (o := .lst (refs (Za.filter (keepZ a.now)))) hD2
   have hn5 := s5 _ _ hn4
   refine ⟨_, rfl, nd, _, dx, _, rfl, hn5, cl, T.na_Node_arrived, fl 7 rfl, ?_⟩
   have hndD : nd ≠ D2 := ne_of_none hn4 hD2
   have hn6 : ∀ {H6 : Hp}, H6 = upd (upd H4 D2 (.lst (refs (Za.filter (keepZ a.now))))) nd (.ins t.c_Node dx (putF "arrived" (V.ref D2) (fNode N.pl a.me a.now a.own hd' N.ar N.kn))) → H6 nd = some (.ins t.c_Node dx (fNode N.pl a.me a.now a.own hd' D2 N.kn)) := fun e => by
    rw [e, upd_same]
    rfl
   generalize hH6 : upd (upd H4 D2 (.lst (refs (Za.filter (keepZ a.now))))) nd _ = H6
   have hn6 := hn6 (H6 := H6) hH6.symm
   have k6 : ∀ b o, H4 b = some o → b ≠ nd → H6 b = some o := fun b o e ne => by rw [← hH6, upd_ne ne]; exact s5 _ _ e
   have har6 : H6 D2 = some (.lst (refs (Za.filter (keepZ a.now)))) := by rw [← hH6, upd_ne (Ne.symm hndD), upd_same]
   have hhd6 := k6 _ _ hhd4 (Ne.symm hnd')
   have kn6 := k6 _ _ (k4 _ _ hN.kn (ne_of hN.kn hn (by intro q; cases q))) (ne_of hN.kn hn (by intro q; cases q))
   have free6 : ∀ {x : Addr}, H6 x = none → H4 x = none := fun {x} e => by
    cases hx : H4 x with
    | none => rfl
    | some o =>
     by_cases hb : x = nd
     ·subst hb
      rw [hn6] at e
      cases e
     ·rw [k6 x o hx hb] at e
      cases e
   clear hH6
   have hnk : nd ≠ N.kn := ne_of hn hN.kn (by intro q; cases q)
   refine ⟨N.kn, _, kn6, True.intro, fun od2 => ⟨_, rfl, nd, _, dx, _, _, rfl, by rw [upd_ne hnk]; exact hn6, cl, T.na_Node_known, rfl, N.kn, od2, knsOf a.knows, rfl, upd_same, fun D3 hD3 => ?_⟩⟩
   refine items_walk (ffK a.now) upd_same hD3 hkl (fun j kv H7 Tp q Nx hkv s7 hT hq hDn hyes hno => ?_) (fun H7 ps s7 hDl hps => ?_)
   ·unfold knsOf at hkv
    rw [List.getElem?_map] at hkv
    cases hz : a.knows[j]? with
    | none => rw [hz] at hkv; cases hkv
    | some z =>
    rw [hz] at hkv
    cases hkv
    refine ⟨Tp, _, rfl, SqT.of upd_same, rfl, _, _, rfl, _, _, rfl, rfl, rfl, ?_⟩
    refine ⟨_, rfl, _, rfl, _, _, rfl, rfl, _, rfl, ite2 (fun c => ?_) (fun c => ?_)⟩
    ·exact ⟨_, rfl, _, rfl, (by show 2 ≤ sizeLine; decide), fun tp htp => hyes c tp htp⟩
    ·exact hno (Bool.eq_false_iff.mpr c)
   rw [knsOf_filter] at hps
   have hk7 : H7 N.kn = some (.frz od2 (.dT (knsOf a.knows))) := s7 _ _ upd_same
   refine ⟨hk7, ?_⟩
   have u7 : ∀ b o, H7 b = some o → b ≠ N.kn → upd H7 N.kn (.dT (knsOf a.knows)) b = some o := fun b o e ne => by rw [upd_ne ne]; exact e
   have s8 : Same H6 (upd H7 N.kn (.dT (knsOf a.knows))) := fun b o e => by
    by_cases hb : b = N.kn
    ·subst hb
     rw [kn6] at e
     rw [upd_same]
     exact e
    ·exact u7 _ _ (s7 _ _ (by rw [upd_ne hb]; exact e)) hb
   have hD8 : upd H7 N.kn (.dT (knsOf a.knows)) D3 = some (.lst (ps.map V.ref)) := u7 _ _ hDl (ne_of hDl hk7 (by intro q; cases q))
   have hps8 : Paired (PairT K (upd H7 N.kn (.dT (knsOf a.knows)))) ps (knsOf (a.knows.filter fun k => decide (a.now ≤ k.2.2))) := Paired.imp2 (fun p kv hp => (PairH.keep hp fun b ys e => u7 _ _ e (ne_of e hk7 (by intro q; cases q))).to) hps
   generalize hH8 : upd H7 N.kn (.dT (knsOf a.knows)) = H8 at s8 hD8 hps8
   refine ⟨D3, ps, _, rfl, SqL.of hD8, hps8, ?_, fun kn' hkn' => ?_⟩
   ·exact nodup_kns (List.Nodup.sublist (List.filter_sublist.map _) hA.kkeys)
   have s9 := s8.trans (same_fresh (o := .dT (knsOf (a.knows.filter fun k => decide (a.now ≤ k.2.2)))) hkn')
   refine ⟨_, rfl, nd, _, dx, _, rfl, s9 _ _ hn6, cl, T.na_Node_known, fl 7 rfl, ?_⟩
   have f3 : H6 kn' = none := s8.free hkn'
   have hndk : nd ≠ kn' := ne_of_none hn6 f3
   have kF : ∀ b o, H b = some o → b ≠ nd → upd (upd H8 kn' (.dT (knsOf (a.knows.filter fun k => decide (a.now ≤ k.2.2))))) nd (.ins t.c_Node dx (putF "known" (V.ref kn') (fNode N.pl a.me a.now a.own hd' D2 N.kn))) b = some o := fun b o e ne => by
    rw [upd_ne ne]
    exact s9 _ _ (k6 _ _ (k4 _ _ e ne) ne)
   have kG : ∀ b o, hid N H b = some o → b ≠ nd → hid { N with hd := hd', ar := D2, kn := kn' } (upd (upd H8 kn' (.dT (knsOf (a.knows.filter fun k => decide (a.now ≤ k.2.2))))) nd (.ins t.c_Node dx (putF "known" (V.ref kn') (fNode N.pl a.me a.now a.own hd' D2 N.kn)))) b = some o := fun b o e ne =>
    let ⟨q1, q2, q3⟩ := hid_get e
    hid_of (kF b o q1 ne) (ne_of_none q1 (free4 hD2)) q3
   have kz : ∀ {Y : PZ}, ParcelsAt t (hid N H) Y → ParcelsAt t (hid { N with hd := hd', ar := D2, kn := kn' } (upd (upd H8 kn' (.dT (knsOf (a.knows.filter fun k => decide (a.now ≤ k.2.2))))) nd (.ins t.c_Node dx (putF "known" (V.ref kn') (fNode N.pl a.me a.now a.own hd' D2 N.kn))))) Y := fun hY z hz => by
    obtain ⟨dp, dd, p1, p2⟩ := hY z hz
    exact ⟨dp, dd, kG _ _ p1 (Ne.symm (ne_node_parcel hn (hid_le _ _ p1))), kG _ _ p2 (ne_of (hid_le _ _ p2) hn (by intro q; cases q))⟩
   obtain ⟨ts, htl⟩ := hN.tl
   refine k _ { N with hd := hd', ar := D2, kn := kn' } ⟨⟨dx, upd_same⟩, ?_, ?_, kz fun z hz => hN.ghz z (List.mem_filter.mp hz).1, ?_, ?_, kz fun z hz => hN.gaz z (List.mem_filter.mp hz).1, ?_, ?_, ?_, ⟨ts, kF _ _ htl (ne_of htl hn (by intro q; cases q))⟩, Ne.symm (ne_of_none htl (free4 hD2))⟩ (fun b o e nf _ => ?_) (fun f hf => ?_) rfl
   ·exact hN.gplan.keep (fun b d1 n1 lp lo e1 => kG _ _ e1 (Ne.symm (ne_node_plan hn (hid_le _ _ e1)))) (fun b d1 k1 a1 c1 t1 b1 e2 e1 => kG _ _ e1 (Ne.symm (ne_node_pass hn (hid_le _ _ e1)))) fun b xs e1 => kG _ _ e1 (ne_of (hid_le _ _ e1) hn (by intro q; cases q))
   ·rw [upd_ne (Ne.symm hnd')]
    exact s9 _ _ hhd6
   ·rw [show (dropA a).held = a.held.filter fun h => decide (a.now ≤ h.parcel.end_) from rfl, ← hN.he, List.filter_map]
    rfl
   ·rw [upd_ne (Ne.symm hndD)]
    exact s9 _ _ har6
   ·rw [show (dropA a).arrived = a.arrived.filter fun x => decide (a.now ≤ x.end_) from rfl, ← hN.ae, List.filter_map]
    rfl
   ·rw [upd_ne (Ne.symm hndk), upd_same]
    rfl
   ·exact ne_of_none hhd6 f3
   ·exact kF _ _ e fun q => nf (by rw [q]; exact List.mem_cons_self)
   ·rcases List.mem_cons.mp hf with rfl | hf
    ·exact .inl List.mem_cons_self
    rcases List.mem_cons.mp hf with rfl | hf
    ·exact .inr f1
    rcases List.mem_cons.mp hf with rfl | hf
    ·exact .inr (free4 hD2)
    rcases List.mem_cons.mp hf with rfl | hf
    ·exact .inr (free4 (free6 f3))
    cases hf
end
end Pp
end
section
namespace Pp
open PySem PySem.Spec PyProof.Rows L2
theorem fits_eq {p : Sr35.Plan} {me now n R : Nat} {D : Sr36Neutral.Ways} {hist : List Wy.Lab} {B : Wy.BM} (hg : Sr35.good p = true) (hme : me < p.n) (hD : Sr36Neutral.waysOf p me now = some D) (hR : Wy.Rnd p.list me now R [] hist B)
  {k : Nat} {x0 : Sr35.Pass} (hk : p.list[k]? = some x0) (ho : x0.begins ≤ now) {x : Sr36.Parcel} (hx : x.to_ < p.n) : fitB B k x = Sn.fits (Sr36Neutral.look D) now k x := by
 unfold fitB Sn.fits
 rcases Wy.spec_way hg hme hD hx with ⟨h1, h2⟩ | ⟨e, l, h1, h2, h3⟩
 ·rw [h1]
  rcases hR.result x.to_ with ⟨h4, _⟩ | ⟨e, f, _, h5⟩
  ·rw [h4]
  ·obtain ⟨r, g, _⟩ := h5
   exact absurd g (h2 r e)
 ·rw [h1]
  rcases hR.result x.to_ with ⟨_, h5⟩ | ⟨e', f, h4, h5⟩
  ·obtain ⟨r, g, _⟩ := h2
   exact absurd g (h5 r e)
  ·obtain ⟨rfl, rfl⟩ := h2.uniq h5
   rw [h4]
   show (match some (e, l.head?.map (·.1)) with | some (e, some f) => decide (f = k ∧ e ≤ x.end_) | _ => false) = (l.head? == some (k, now) && decide (e ≤ x.end_))
   cases hl : l.head? with
   | none => simp
   | some qs =>
    obtain ⟨q, s⟩ := qs
    obtain ⟨x', hx', hs⟩ := h3 q s hl
    show decide (q = k ∧ e ≤ x.end_) = (some (q, s) == some (k, now) && decide (e ≤ x.end_))
    by_cases c : q = k
    ·subst c
     rw [hk] at hx'
     cases hx'
     have : s = now := by omega
     subst this
     simp
    ·have h1 : (some (q, s) == some (k, now)) = false := by
      rw [beq_eq_false_iff_ne]
      intro z
      simp only [Option.some.injEq, Prod.mk.injEq] at z
      exact c z.1
     rw [h1, Bool.false_and]
     exact decide_eq_false fun z => c z.1
theorem sends_none {W : Sn.WayF} {a b : Sr36.Abs} {evs : List Sr36.Ev} (h0 : ∀ h ∈ a.held, ¬ h.waits ≤ a.now) : ∀ {ks : List Nat}, Sr36Neutral.sendsF W a ks = some (evs, b) → evs = [] ∧ b = a
 | [], h => by
  simp only [Sr36Neutral.sendsF, Option.some.injEq, Prod.mk.injEq] at h
  exact ⟨h.1.symm, h.2.symm⟩
 | k :: ks, h => by
  have hf : a.held.filter (Sr36Neutral.readyB W a k) = [] := by
   rw [List.filter_eq_nil_iff]
   intro g hg q
   rw [Sn.ready_eq, Bool.and_eq_true, decide_eq_true_eq] at q
   exact h0 g hg q.1
  simp only [Sr36Neutral.sendsF] at h
  rw [hf] at h
  exact sends_none h0 h
def openIx (a : Sr36.Abs) : List Nat := (mineIx a.plan.list a.me).filter fun k => match a.plan.list[k]? with
 | none => false
 | some x => decide (x.begins ≤ a.now ∧ a.now < x.ends)
theorem opens_eq {a : Sr36.Abs} (hm : a.plan.m = a.plan.list.length) : a.opens = openIx a := by
 unfold Sr36.Abs.opens openIx mineIx
 rw [hm, List.filter_filter]
 refine List.filter_congr fun k hk => ?_
 unfold Sr36.Abs.mine jn
 have hk := List.mem_range.mp hk
 obtain ⟨x, hx⟩ : ∃ x, a.plan.list[k]? = some x := ⟨_, List.getElem?_eq_getElem hk⟩
 rw [hx]
 dsimp only
 unfold Sr35.other Sr36.openAt
 by_cases c1 : x.a = a.me
 ·rw [if_pos c1]
  simp [c1]
 ·rw [if_neg c1]
  by_cases c2 : x.b = a.me
  ·rw [if_pos c2]
   simp [c2]
  ·rw [if_neg c2]
   have e1 : ¬ (a.me = x.a ∨ a.me = x.b) := fun z => z.elim (fun q => c1 q.symm) (fun q => c2 q.symm)
   rw [decide_eq_false e1]
   simp
theorem openIx_spec {a : Sr36.Abs} {k : Nat} (h : k ∈ openIx a) : ∃ x, a.plan.list[k]? = some x ∧ x.begins ≤ a.now ∧ a.now < x.ends := by
 obtain ⟨_, h2⟩ := List.mem_filter.mp h
 cases hx : a.plan.list[k]? with
 | none => rw [hx] at h2; cases h2
 | some x =>
  rw [hx] at h2
  have := of_decide_eq_true h2
  exact ⟨x, rfl, this.1, this.2⟩
theorem openIx_nodup (a : Sr36.Abs) : (openIx a).Nodup := by
 have h := (mineIx_sorted a.plan.list a.me).filter (fun k => match a.plan.list[k]? with
  | none => false
  | some x => decide (x.begins ≤ a.now ∧ a.now < x.ends))
 exact h.imp fun q e => by omega
def tickAns (evs : List Sr36.Ev) : List Int := ((evs.length : Nat) : Int) :: evs.flatMap Sr36Neutral.told
theorem told_send (k : Nat) (m : List Nat) : Sr36Neutral.told (.send k m) = (k : Int) :: (m.length : Int) :: m.map fun (b : Nat) => (b : Int) := rfl
theorem nsV_int (m : List Nat) : nsV m = (m.map fun (b : Nat) => (b : Int)).map V.int := by
 unfold nsV
 rw [List.map_map]
 rfl
def updZ (u : Sr36.Held → Sr36.Held) (Z : PZ) : PZ := Z.map fun z => (z.1, u z.2)
theorem key_unique {Z : PZ} {a : Sr36.Abs} (he : Z.map (·.2) = a.held) (hk : (a.held.map fun h => (h.parcel.source, h.parcel.number)).Nodup) {z z' : Addr × Sr36.Held} (hz : z ∈ Z) (hz' : z' ∈ Z)
  (h1 : z.2.parcel.source = z'.2.parcel.source) (h2 : z.2.parcel.number = z'.2.parcel.number) : z = z' := by
 rw [← he, List.map_map] at hk
 unfold List.Nodup at hk
 rw [List.pairwise_map] at hk
 obtain ⟨i, hi⟩ := List.getElem?_of_mem hz
 obtain ⟨j, hj⟩ := List.getElem?_of_mem hz'
 obtain ⟨hi1, hi2⟩ := List.getElem?_eq_some_iff.mp hi
 obtain ⟨hj1, hj2⟩ := List.getElem?_eq_some_iff.mp hj
 rw [List.pairwise_iff_getElem] at hk
 rcases Nat.lt_trichotomy i j with h | h | h
 ·exact absurd (by show (Z[i].2.parcel.source, Z[i].2.parcel.number) = (Z[j].2.parcel.source, Z[j].2.parcel.number); rw [hi2, hj2, h1, h2]) (hk i j hi1 hj1 h)
 ·subst h
  rw [hi] at hj
  exact Option.some.inj hj
 ·exact absurd (by show (Z[j].2.parcel.source, Z[j].2.parcel.number) = (Z[i].2.parcel.source, Z[i].2.parcel.number); rw [hi2, hj2, h1, h2]) (hk j i hj1 hi1 h)
theorem updZ_refs (u : Sr36.Held → Sr36.Held) (Z : PZ) : refs (updZ u Z) = refs Z := by
 unfold refs updZ
 rw [List.map_map]
 rfl
theorem find_zr {u : Sr36.Held → Sr36.Held} {f p : Sr36.Parcel → Bool} : ∀ {Zr : PZ}, (∀ z ∈ Zr, (u z.2).parcel = z.2.parcel ∧ f z.2.parcel = p z.2.parcel) →
  ((Zr.map (·.2)).find? (fun g => p g.parcel) = none → (updZ u Zr).find? (fun z => f z.2.parcel) = none) ∧
  ∀ g, (Zr.map (·.2)).find? (fun g => p g.parcel) = some g → ∃ z ∈ Zr, z.2 = g ∧ (updZ u Zr).find? (fun z => f z.2.parcel) = some (z.1, u g)
 | [], _ => ⟨fun _ => rfl, fun g q => by cases q⟩
 | z :: Zr, h => by
  obtain ⟨h1, h2⟩ := h z List.mem_cons_self
  obtain ⟨i1, i2⟩ := find_zr (u := u) (f := f) (p := p) (Zr := Zr) fun y hy => h y (List.mem_cons_of_mem _ hy)
  have e : f (u z.2).parcel = p z.2.parcel := by rw [h1, h2]
  unfold updZ at i1 i2 ⊢
  rw [List.map_cons, List.map_cons, List.find?_cons, List.find?_cons]
  show ((match p z.2.parcel with | true => some z.2 | false => _) = none → (match f (u z.2).parcel with | true => some (z.1, u z.2) | false => _) = none) ∧ ∀ g, (match p z.2.parcel with | true => some z.2 | false => _) = some g → ∃ y ∈ z :: Zr, y.2 = g ∧ (match f (u z.2).parcel with | true => some (z.1, u z.2) | false => _) = some (y.1, u g)
  rw [e]
  cases p z.2.parcel with
  | true => exact ⟨fun q => (by cases q), fun g q => ⟨z, List.mem_cons_self, by cases q; exact ⟨rfl, rfl⟩⟩⟩
  | false =>
   refine ⟨i1, fun g q => ?_⟩
   obtain ⟨y, hy, r⟩ := i2 g q
   exact ⟨y, List.mem_cons_of_mem _ hy, r⟩
def ParcelX (t : Adr) (sl : Addr) (H : Hp) (p : Addr) (h : Sr36.Held) : Prop := ∃ dx d, H p = some (.ins t.c_Parcel dx (fParcel h.parcel.source h.parcel.number h.parcel.to_ h.parcel.end_ d h.leg h.waits)) ∧ H d = some (.lst (nsV h.parcel.data)) ∧ d ≠ sl
theorem ParcelX.to {t : Adr} {sl : Addr} {H : Hp} {p : Addr} {h : Sr36.Held} (x : ParcelX t sl H p h) : ParcelAt t H p h := let ⟨dx, d, h1, h2, _⟩ := x; ⟨dx, d, h1, h2⟩
structure SInv (t : Adr) (N : NA) (Z Za : PZ) (H4 H' : Hp) (sl : Addr) (u : Sr36.Held → Sr36.Held) (out : List Int) : Prop where
 keep : ∀ b o, H4 b = some o → NPar t o → H' b = some o
 pz : ∀ z ∈ Z, ParcelX t sl (hid N H') z.1 (u z.2)
 pa : ∀ z ∈ Za, ParcelX t sl (hid N H') z.1 z.2
 out : H' sl = some (.lst (out.map V.int))
theorem fParcel_inj {C C' d1 d2 : Addr} {s n to e l w s' n' to' e' l' w' : Nat} {d d' : Addr} (h : HO.ins C d1 (fParcel s n to e d l w) = HO.ins C' d2 (fParcel s' n' to' e' d' l' w')) : s = s' ∧ n = n' ∧ to = to' := by
 injection h with _ _ h
 unfold fParcel at h
 simp only [List.cons.injEq, Prod.mk.injEq, V.int.injEq, true_and] at h
 omega
theorem SInv.send {t : Adr} {a : Sr36.Abs} {N : NA} {Z Za : PZ} {H4 H' H6 : Hp} {sl dx d : Addr} {u : Sr36.Held → Sr36.Held} {out new : List Int} {z : Addr × Sr36.Held} {w : Nat} (I : SInv t N Z Za H4 H' sl u out) (hA : AInv a) (he : Z.map (·.2) = a.held) (ae : (Za.map fun z => z.2.parcel) = a.arrived)
  (hpar : ∀ h ∈ a.held, (u h).parcel = h.parcel) (hz : z ∈ Z) (hu : u z.2 = z.2) (hsl : H4 sl = none)
  (gp : hid N H' z.1 = some (.ins t.c_Parcel dx (fParcel z.2.parcel.source z.2.parcel.number z.2.parcel.to_ z.2.parcel.end_ d z.2.leg z.2.waits))) (gd : hid N H' d = some (.lst (nsV z.2.parcel.data))) (hds : d ≠ sl)
  (hk : ∀ b o, H' b = some o → b ≠ z.1 → H6 b = some o) (hp6 : H6 z.1 = some (.ins t.c_Parcel dx (fParcel z.2.parcel.source z.2.parcel.number z.2.parcel.to_ z.2.parcel.end_ d z.2.leg w))) :
  SInv t N Z Za H4 (upd H6 sl (.lst ((out ++ new).map V.int))) sl (fun g => if u g = z.2 then { u g with waits := w } else u g) (out ++ new) := by
 obtain ⟨hp, hza, hzt⟩ := hid_get gp
 have hzs : z.1 ≠ sl := ne_of hp I.out (by intro q; cases q)
 have gk : ∀ b o, hid N H' b = some o → b ≠ z.1 → b ≠ sl → hid N (upd H6 sl (.lst ((out ++ new).map V.int))) b = some o := fun b o e n1 n2 => let ⟨q1, q2, q3⟩ := hid_get e; hid_of (by rw [upd_ne n2]; exact hk b o q1 n1) q2 q3
 refine ⟨fun b o e np => ?_, fun y hy => ?_, fun y hy => ?_, upd_same⟩
 ·rw [upd_ne (ne_of_none e hsl)]
  refine hk b o (I.keep b o e np) fun q => ?_
  subst q
  have := (I.keep _ o e np).symm.trans hp
  exact np _ _ _ _ _ _ _ _ (Option.some.inj this)
 ·have yh : y.2 ∈ a.held := by rw [← he]; exact List.mem_map.mpr ⟨y, hy, rfl⟩
  obtain ⟨dy, ddy, h1, h2, h3⟩ := I.pz y hy
  by_cases c : u y.2 = z.2
  ·have hyz : y = z := by
    have e : y.2.parcel = z.2.parcel := by rw [← hpar _ yh, c]
    exact key_unique he hA.keys hy hz (by rw [e]) (by rw [e])
   subst hyz
   show ParcelX t sl _ y.1 (if u y.2 = y.2 then _ else _)
   rw [if_pos c, c]
   exact ⟨dx, d, hid_of (by rw [upd_ne hzs]; exact hp6) hza hzt, gk _ _ gd (ne_of (hid_le _ _ gd) hp (by intro q; cases q)) hds, hds⟩
  ·show ParcelX t sl _ y.1 (if u y.2 = z.2 then _ else _)
   rw [if_neg c]
   have hne : y.1 ≠ z.1 := fun q => by
    rw [q] at h1
    have := fParcel_inj (Option.some.inj (h1.symm.trans gp))
    rw [hpar _ yh] at this
    have hyz := key_unique he hA.keys hy hz this.1 this.2.1
    subst hyz
    exact c hu
   have hys : y.1 ≠ sl := ne_of (hid_le _ _ h1) I.out (by intro q; cases q)
   exact ⟨dy, ddy, gk _ _ h1 hne hys, gk _ _ h2 (ne_of (hid_le _ _ h2) hp (by intro q; cases q)) h3, h3⟩
 ·obtain ⟨dy, ddy, h1, h2, h3⟩ := I.pa y hy
  have hne : y.1 ≠ z.1 := fun q => by
   rw [q] at h1
   have := (fParcel_inj (Option.some.inj (h1.symm.trans gp))).2.2
   have y1 := (hA.ap y.2.parcel (by rw [← ae]; exact List.mem_map.mpr ⟨y, hy, rfl⟩)).1
   have z1 := (hA.hp z.2 (by rw [← he]; exact List.mem_map.mpr ⟨z, hz, rfl⟩)).2.1
   omega
  have hys : y.1 ≠ sl := ne_of (hid_le _ _ h1) I.out (by intro q; cases q)
  exact ⟨dy, ddy, gk _ _ h1 hne hys, gk _ _ h2 (ne_of (hid_le _ _ h2) hp (by intro q; cases q)) h3, h3⟩
theorem SInv.node {t : Adr} {a : Sr36.Abs} {Z Za : PZ} {H4 H' : Hp} {nd sl : Addr} {N : NA} {u : Sr36.Held → Sr36.Held} {out : List Int} (I : SInv t N Z Za H4 H' sl u out) (hN : NodeAt t H4 nd N Z Za a) (hpar : ∀ h ∈ a.held, (u h).parcel = h.parcel) : NodeAt t H' nd N (updZ u Z) Za { a with held := a.held.map u } := by
 have hkv : kvsOf (updZ u Z) = kvsOf Z := by
  unfold kvsOf updZ
  rw [List.map_map]
  refine List.map_congr_left fun z hz => ?_
  show (keyOf (u z.2).parcel.source (u z.2).parcel.number, V.ref z.1) = _
  rw [hpar z.2 (by rw [← hN.he]; exact List.mem_map.mpr ⟨z, hz, rfl⟩)]
 obtain ⟨dx, h1⟩ := hN.obj
 have gk : ∀ b o, hid N H4 b = some o → NPar t o → hid N H' b = some o := fun b o e np => let ⟨q1, q2, q3⟩ := hid_get e; hid_of (I.keep b o q1 np) q2 q3
 refine ⟨⟨dx, I.keep _ _ h1 (np_head (by decide))⟩, hN.gplan.keep (fun b d n lp lo e => gk _ _ e (np_head (by decide))) (fun b d k a c tk be en e => gk _ _ e (np_head (by decide))) (fun b xs e => gk _ _ e np_lst), by rw [hkv]; exact I.keep _ _ hN.held np_dT, fun y hy => ?_, ?_, I.keep _ _ hN.arr np_lst, fun y hy => (I.pa y hy).to, hN.ae, I.keep _ _ hN.kn np_dT, hN.hk, let ⟨xs, h1⟩ := hN.tl; ⟨xs, I.keep _ _ h1 np_lst⟩, hN.ta⟩
 ·obtain ⟨z, hz, rfl⟩ := List.mem_map.mp hy
  exact (I.pz z hz).to
 ·show (updZ u Z).map (·.2) = a.held.map u
  rw [← hN.he]
  unfold updZ
  rw [List.map_map, List.map_map]
  rfl
end Pp
end
section
namespace Pp
open PySem PySem.Spec PyProof.Rows L2
section
variable {P : Program} {w : World} {K : PySem.W.Frag} {mg : Str → Option Value} {base : Heap} {t : Adr}
def spSend_all (t : Adr) : Sp := fun vs H Q _ => ∃ (nd : Addr) (N : NA) (Z Za : PZ) (a b : Sr36.Abs) (D : Sr36Neutral.Ways) (evs : List Sr36.Ev), vs = [.ref nd] ∧ NodeAt t H nd N Z Za a ∧ AInv a ∧ Sr36Neutral.waysOf a.plan a.me a.now = some D ∧ Sr36Neutral.sendsF (Sr36Neutral.look D) a a.opens = some (evs, b) ∧
 nodeEnd t nd N H b (tickAns evs) Q
def rdy (now : Nat) (z : Addr × Sr36.Held) : Bool := decide (z.2.waits ≤ now)
theorem open_take (q : List Sr35.Pass) (ix : List Nat) (f : Nat → Bool) (as : List Addr) {j k : Nat} (h : ix[j]? = some k) : refsOf as ((ix.take (j + 1)).filter f) = refsOf as ((ix.take j).filter f) ++ if f k = true then [V.ref (as.getD k 0)] else [] := by
 rw [filter_take_succ h]
 unfold refsOf
 rw [List.map_append]
 split <;> rfl
theorem ok_Node_send_all (T : Tx K mg t) : FnOk P w K mg base CX0 5 t.f_Node_send_all t.d_Node_send_all ["self"] (spSend_all t) := by
 have G_in_order : FnOk P w K mg base CX0 4 t.f_in_order t.d_in_order ["parcels"] (spIn_order t) := ok_in_order T
 have G_Parcel_waits_at : FnOk P w K mg base CX0 1 t.f_Parcel_waits_at t.d_Parcel_waits_at ["self", "time"] (spParcel_waits t) := ok_Parcel_waits_at T
 have G_Pass_is_open_at : FnOk P w K mg base CX0 1 t.f_Pass_is_open_at t.d_Pass_is_open_at ["self", "time"] (spPass_open t) := ok_Pass_is_open_at T
 have G_ways_from : FnOk P w K mg base CX0 4 t.f_ways_from t.d_ways_from ["plan", "node", "time"] (spWays t) := ok_ways_from T
 have G_first_to_go_by : FnOk P w K mg base CX0 1 t.f_first_to_go_by t.d_first_to_go_by ["by", "ready", "ways"] (spFirst t) := ok_first_to_go_by T
 have G_Node_send_by : FnOk P w K mg base CX0 3 t.f_Node_send_by t.d_Node_send_by ["self", "by", "parcel"] (spSend_by t) := ok_Node_send_by T
 refine T.fn_Node_send_all.ok sc_Node_send_all (fun vs H Q E h => ?_) (fun cdv A outer s H vs Q E hr h => ?_)
 ·obtain ⟨nd, N, Z, Za, a, b, D, evs, rfl, _⟩ := h
  rfl
 ·obtain ⟨nd, N, Z, Za, a, b, D, evs, rfl, hN, hA, hD, hS, k⟩ := h
  rw [opens_eq hA.m] at hS
  have cl := T.cl_Node
  obtain ⟨dx, hn⟩ := hN.obj
  obtain ⟨hn32, hq128, hokp⟩ := hA.n
  have hndh : nd ≠ N.hd := ne_of hn hN.held (by intro q; cases q)
  have hzlen : Z.length = a.held.length := by rw [← hN.he, List.length_map]
  refine ⟨_, (pss_cons (ps_set (i := 1) sc_Node_send_all.nd rfl (by first | exact Or.inl rfl | exact Or.inr rfl) (pe_call G_in_order (hr.mono (by decide)) (by rfl) T.g_in_order T.kp_in_order T.bi_in_order .nil pass0 (pa_cons (pe_lock (pe_lc (own := [("parcel", 2)]) rfl sc_Node_send_all.nd (pi_valuesT (pe_fld (pv 0) rfl)) (blkOk_by rfl) (fun _ _ _ _ _ => (pg_name (i := 2) sc_Node_send_all.nd rfl (by first | exact Or.inl rfl | exact Or.inr rfl))) (fun _ _ _ _ _ => (pts_one (pt_not (pt_val (pe_meth (pv 2) T.cl_Parcel T.me_Parcel_waits_at G_Parcel_waits_at (hr.mono (by decide)) T.bi_Parcel_waits_at .nil pass0 (pa_cons (pe_fldK (K := K) rfl (pv 0) rfl) pa_nil)))))) (fun _ _ _ _ _ => (pv 2)))) pa_nil)))
   (pss_cons (ps_setLc (i := 3) (own := [("each", 4)]) rfl sc_Node_send_all.nd rfl rfl (sw_true rfl rfl rfl rfl) (pi_list (pe_ix ix_list (pe_fld (pe_fld (pv 0) rfl) rfl) (pe_fld (pv 0) rfl) (fun _ _ => rfl))) (blkOk_by rfl) (fun _ _ _ _ _ => (pg_name (i := 4) sc_Node_send_all.nd rfl (by first | exact Or.inl rfl | exact Or.inr rfl))) (fun _ _ _ _ _ => (pts_one (pt_val (pe_meth (pv 4) T.cl_Pass T.me_Pass_is_open_at G_Pass_is_open_at (hr.mono (by decide)) T.bi_Pass_is_open_at .nil pass0 (pa_cons (pe_fldK (K := K) rfl (pv 0) rfl) pa_nil))))) (fun _ _ _ _ _ => (pv 4)))
   (pss_cons (ps_if (pw_or (pt_not (pt_truth (pv 1) (fun _ => rfl))) (pw_or1 (pt_not (pt_truth (pv 3) (fun _ => rfl))))).pt (pss_one (ps_ret (pe_lst (pa_cons pe_int pa_nil)))) pss_nil)
   (pss_cons (ps_set (i := 5) sc_Node_send_all.nd rfl (by first | exact Or.inl rfl | exact Or.inr rfl) (pe_call G_ways_from (hr.mono (by decide)) (by rfl) T.g_ways_from T.kp_ways_from T.bi_ways_from .nil pass0 (pa_cons (pe_fld (pv 0) rfl) (pa_cons (pe_fld (pv 0) rfl) (pa_cons (pe_fld (pv 0) rfl) pa_nil)))))
   (pss_cons (ps_set (i := 6) sc_Node_send_all.nd rfl (by first | exact Or.inl rfl | exact Or.inr rfl) pe_int)
   (pss_cons (ps_set (i := 7) sc_Node_send_all.nd rfl (by first | exact Or.inl rfl | exact Or.inr rfl) (pe_lst pa_nil))
   (pss_cons (ps_for PassesOwn.never rfl (pi_list (pv 3)) (pg_name (i := 4) sc_Node_send_all.nd rfl (by first | exact Or.inl rfl | exact Or.inr rfl)) (pss_cons (ps_set (i := 2) sc_Node_send_all.nd rfl (by first | exact Or.inl rfl | exact Or.inr rfl) (pe_call G_first_to_go_by (hr.mono (by decide)) (by rfl) T.g_first_to_go_by T.kp_first_to_go_by T.bi_first_to_go_by .nil pass0 (pa_cons (pv 4) (pa_cons (pv 1) (pa_cons (pv 5) pa_nil)))))
   (pss_one (ps_if (pt_cmp (pc_notN (pv 2))) (pss_cons (ps_set (i := 6) sc_Node_send_all.nd rfl (by first | exact Or.inl rfl | exact Or.inr rfl) (pe_op op_add (pv 6) pe_int))
   (pss_one (ps_expr (pe_bm PySem.F.plainAttrs_list PySem.F.slot_list_extend PySem.F.type_list_extend mt_extend (pv 7) (pa_cons (pe_meth (pv 0) T.cl_Node T.me_Node_send_by G_Node_send_by (hr.mono (by decide)) T.bi_Node_send_by .nil pass0 (pa_cons (pv 4) (pa_cons (pv 2) pa_nil))) pa_nil))))) pss_nil))))
   (pss_one (ps_ret (pe_op op_cat (pe_lst (pa_cons (pv 6) pa_nil)) (pv 7))))))))))), ?_⟩
  refine ⟨N.hd, _, hN.held, True.intro, fun od => ⟨_, rfl, nd, _, dx, _, _, rfl, by rw [upd_ne hndh]; exact hn, cl, T.na_Node_held, rfl, N.hd, od, kvsOf Z, rfl, upd_same, fun D1 hD1 => ?_⟩⟩
  have hD1h : D1 ≠ N.hd := fun q => by rw [q, upd_same] at hD1; cases hD1
  have hH1 : H D1 = none := by rw [upd_ne hD1h] at hD1; exact hD1
  refine lc_of Z.length (Pv := fun j H' => H' = upd (upd H N.hd (.frz od (.dT (kvsOf Z)))) D1 (.lst (refs ((Z.take j).filter (rdy a.now))))) rfl (fun i H' hi e => ?_) (fun H' e => ?_) (fun j x H1 H2 hj e hy => ?_) (fun H' e => ?_)
  ·subst e
   exact ⟨by rw [upd_ne (Ne.symm hD1h), upd_same], by unfold kvsOf; rw [List.length_map]; exact hi⟩
  ·subst e
   exact ⟨by rw [upd_ne (Ne.symm hD1h), upd_same], by unfold kvsOf; rw [List.length_map]; exact Nat.le_refl _⟩
  ·subst e
   obtain ⟨rfl, kk, hkk⟩ := hy
   unfold kvsOf at hkk
   rw [List.getElem?_map] at hkk
   cases hz : Z[j]? with
   | none => rw [hz] at hkk; cases hkk
   | some z =>
   rw [hz] at hkk
   have hxz : x = V.ref z.1 := by
    have := Option.some.inj hkk
    exact (Prod.mk.inj this).2.symm
   subst hxz
   obtain ⟨dp, dd, hp1, hp2⟩ := hN.hz z (List.mem_of_getElem? hz)
   have hpz : upd (upd H N.hd (.frz od (.dT (kvsOf Z)))) D1 (.lst (refs ((Z.take j).filter (rdy a.now)))) z.1 = some (.ins t.c_Parcel dp (fParcel z.2.parcel.source z.2.parcel.number z.2.parcel.to_ z.2.parcel.end_ dd z.2.leg z.2.waits)) := by
    rw [upd_ne (ne_of_none hp1 hH1), upd_ne (ne_of hp1 hN.held (by intro q; cases q))]
    exact hp1
   have hnz : upd (upd H N.hd (.frz od (.dT (kvsOf Z)))) D1 (.lst (refs ((Z.take j).filter (rdy a.now)))) nd = some (.ins t.c_Node dx (fNode N.pl a.me a.now a.own N.hd N.ar N.kn)) := by
    rw [upd_ne (ne_of_none hn hH1), upd_ne hndh]
    exact hn
   refine ⟨rfl, _, rfl, z.1, dp, _, rfl, hpz, rfl, _, rfl, nd, _, dx, _, _, rfl, hnz, cl, T.na_Node_time, rfl, z.1, dp, dd, _, _, _, _, _, _, _, rfl, hpz, _, rfl, ite2 (fun c => ?_) (fun c => ?_)⟩
   ·rw [Bool.not_eq_true', decide_eq_false_iff_not] at c
    refine ⟨_, rfl, _, upd_same, ?_, ?_⟩
    ·unfold refs
     rw [List.length_map]
     have h1 : ((Z.take j).filter (rdy a.now)).length ≤ Z.length := Nat.le_trans (List.length_filter_le _ _) (by rw [List.length_take]; omega)
     have := hA.hb
     exact small_len (by omega)
    ·rw [upd_upd, filter_take_succ hz, if_pos (show rdy a.now z = true from decide_eq_true (by omega))]
     unfold refs
     rw [List.map_append]
     rfl
   ·have c : (a.now : Int) < (z.2.waits : Int) := by
     rw [Bool.not_eq_true', decide_eq_false_iff_not, Classical.not_not] at c
     exact c
    rw [filter_take_succ hz, if_neg (show ¬ rdy a.now z = true from fun q => by have := of_decide_eq_true q; omega), List.append_nil]
  subst e
  rw [List.take_length]
  refine ⟨by rw [upd_ne (Ne.symm hD1h), upd_same], ?_⟩
  have s1 : Same H (upd (upd (upd H N.hd (.frz od (.dT (kvsOf Z)))) D1 (.lst (refs (Z.filter (rdy a.now))))) N.hd (.dT (kvsOf Z))) := fun x o e => by
   by_cases hb : x = N.hd
   ·subst hb
    rw [upd_same, ← hN.held]
    exact e
   ·rw [upd_ne hb, upd_ne (ne_of_none e hH1), upd_ne hb]
    exact e
  have hd1 : (upd (upd (upd H N.hd (.frz od (.dT (kvsOf Z)))) D1 (.lst (refs (Z.filter (rdy a.now))))) N.hd (.dT (kvsOf Z))) D1 = some (.lst (refs (Z.filter (rdy a.now)))) := by rw [upd_ne hD1h, upd_same]
  generalize hHa : upd (upd (upd H N.hd (.frz od (.dT (kvsOf Z)))) D1 (.lst (refs (Z.filter (rdy a.now))))) N.hd (.dT (kvsOf Z)) = Ha at s1 hd1
  have hzf : ParcelsAt t H (Z.filter (rdy a.now)) := fun z hz => hN.hz z (List.mem_filter.mp hz).1
  refine ⟨D1, Z.filter (rdy a.now), rfl, hd1, hzf.same s1, fun H2 lr Zr s2 hperm hlr hsort => ?_⟩
  have s2' : Same H H2 := s1.trans s2
  have hN2 := hN.same s2'
  have hn2 := s2' _ _ hn
  clear hHa
  obtain ⟨dpl, lp, lo, hpl, hlo⟩ := hN2.plan.obj
  obtain ⟨li, hli⟩ : ∃ li, N.ls[a.me]? = some li := ⟨_, List.getElem?_eq_getElem (by rw [hN.plan.len]; exact hA.me)⟩
  have hl0 := hN2.plan.of a.me li hli
  refine ⟨_, rfl, nd, _, dx, _, _, rfl, hn2, cl, T.na_Node_plan, rfl, N.pl, _, dpl, _, _, rfl, hpl, T.cl_Plan, T.na_Plan_passes_of, rfl, _, rfl, nd, _, dx, _, _, rfl, hn2, cl, T.na_Node_me, rfl,
   lo, _, _, _, rfl, rfl, SqL.of hlo, atI_nat (j := a.me) (by rw [List.getElem?_map, hli]; rfl), li, rfl, ⟨_, SqL.of hl0⟩, fun D2 hD2 => ?_⟩
  have hliD : li ≠ D2 := ne_of_none hl0 hD2
  have hrl : (refsOf N.as (mineIx a.plan.list a.me)).length = (mineIx a.plan.list a.me).length := by unfold refsOf; rw [List.length_map]
  refine lc_list (K := K) (a := li) (xs := refsOf N.as (mineIx a.plan.list a.me)) (Pv := fun j H' => H' = upd H2 D2 (.lst (refsOf N.as (((mineIx a.plan.list a.me).take j).filter fun k => match a.plan.list[k]? with
   | none => false
   | some x => decide (x.begins ≤ a.now ∧ a.now < x.ends))))) rfl (fun j H' _ e => ?_) (fun j x H' hx e => ?_) (fun H' e => ?_)
  ·subst e
   exact SqL.of (by rw [upd_ne hliD]; exact hl0)
  ·subst e
   unfold refsOf at hx
   rw [List.getElem?_map] at hx
   cases hk0 : (mineIx a.plan.list a.me)[j]? with
   | none => rw [hk0] at hx; cases hx
   | some k0 =>
   rw [hk0] at hx
   have hx := Option.some.inj hx
   obtain ⟨hk1, hjn⟩ := List.mem_filter.mp (List.mem_of_getElem? hk0)
   obtain ⟨y, hy⟩ : ∃ y, a.plan.list[k0]? = some y := ⟨_, List.getElem?_eq_getElem (List.mem_range.mp hk1)⟩
   obtain ⟨pa, hpa1, hpa2, dp, hpass⟩ := hN2.plan.pas.get hy
   have hxe : x = V.ref pa := hx.symm.trans (congrArg V.ref hpa2)
   subst hxe
   have hpz : ∀ o, upd H2 D2 o pa = some (.ins t.c_Pass dp (fPass k0 y.a y.b y.takes y.begins y.ends)) := fun o => by rw [upd_ne (ne_of_none hpass hD2)]; exact hpass
   have hnz : ∀ o, upd H2 D2 o nd = some (.ins t.c_Node dx (fNode N.pl a.me a.now a.own N.hd N.ar N.kn)) := fun o => by rw [upd_ne (ne_of_none hn2 hD2)]; exact hn2
   refine ⟨rfl, _, rfl, pa, dp, _, rfl, hpz _, rfl, _, rfl, nd, _, dx, _, _, rfl, hnz _, cl, T.na_Node_time, rfl, pa, dp, _, _, _, _, _, _, _, rfl, hpz _, _, rfl, ite2 (fun c => ?_) (fun c => ?_)⟩
   ·refine ⟨_, rfl, _, upd_same, ?_, ?_⟩
    ·unfold refsOf
     rw [List.length_map]
     have h1 : (((mineIx a.plan.list a.me).take j).filter fun k => match a.plan.list[k]? with
      | none => false
      | some x => decide (x.begins ≤ a.now ∧ a.now < x.ends)).length ≤ (mineIx a.plan.list a.me).length := Nat.le_trans (List.length_filter_le _ _) (by rw [List.length_take]; omega)
     have h2 : (mineIx a.plan.list a.me).length ≤ 128 := Nat.le_trans (List.length_filter_le _ _) (by rw [List.length_range]; exact hq128)
     exact small_len (by omega)
    ·rw [upd_upd, open_take a.plan.list _ _ _ hk0, if_pos (by rw [hy]; have := of_decide_eq_true c; exact decide_eq_true (by omega)), hpa2]
   ·rw [open_take a.plan.list _ _ _ hk0, if_neg (by rw [hy]; intro q; have := of_decide_eq_true q; exact c (decide_eq_true (by omega))), List.append_nil]
  subst e
  rw [hrl, List.take_length]
  have hus : (mineIx a.plan.list a.me).filter (fun k => match a.plan.list[k]? with
   | none => false
   | some x => decide (x.begins ≤ a.now ∧ a.now < x.ends)) = openIx a := rfl
  rw [hus]
  have s3 := same_fresh (o := .lst (refsOf N.as (openIx a))) hD2
  have hu3 : (upd H2 D2 (.lst (refsOf N.as (openIx a)))) D2 = some (.lst (refsOf N.as (openIx a))) := upd_same
  have hsT : Same H (upd H2 D2 (.lst (refsOf N.as (openIx a)))) := s2'.trans s3
  have hlr3 := s3 _ _ hlr
  generalize hHb : upd H2 D2 (.lst (refsOf N.as (openIx a))) = H3 at s3 hu3 hsT hlr3
  clear hHb
  have hN3 := hN.same hsT
  have hn3 := hsT _ _ hn
  have zero : ∀ {H' : Hp}, Same H H' → evs = [] → b = a → ∀ l, H' l = none → Q (.ref l) (upd H' l (.lst [V.int 0])) := fun sH e1 e2 l hl => by
   subst e1 e2
   exact k.stay hN (sH.trans (same_fresh hl)) upd_same ((hN.same sH).tl_ne hl)
  have hRm : ∀ g, g ∈ Zr.map (·.2) ↔ g ∈ a.held ∧ g.waits ≤ a.now := fun g => by
   rw [List.mem_map]
   constructor
   ·rintro ⟨z, hz, rfl⟩
    obtain ⟨h1, h2⟩ := List.mem_filter.mp (hperm.mem_iff.mp hz)
    exact ⟨by rw [← hN.he]; exact List.mem_map.mpr ⟨z, h1, rfl⟩, of_decide_eq_true h2⟩
   ·rintro ⟨h1, h2⟩
    rw [← hN.he] at h1
    obtain ⟨z, hz, rfl⟩ := List.mem_map.mp h1
    exact ⟨z, hperm.mem_iff.mpr (List.mem_filter.mpr ⟨hz, decide_eq_true h2⟩), rfl⟩
  refine ⟨_, rfl, _, .inl ⟨_, SqL.of hlr3, rfl⟩, ite2 (fun c => ?_) (fun c1 => ?_)⟩
  ·-- none is ready
   have hZe : Zr = [] := by
    cases Zr with
    | nil => rfl
    | cons z Zr => cases c
   subst hZe
   obtain ⟨e1, e2⟩ := sends_none (fun h hh q => by
    have := (hRm h).mpr ⟨hh, q⟩
    cases this) hS
   exact iteT ⟨(by show 1 ≤ sizeLine; decide), fun l hl => zero hsT e1 e2 l hl⟩
  refine ⟨_, rfl, _, .inl ⟨_, SqL.of hu3, rfl⟩, ite2 (fun c => ?_) (fun c2 => ?_)⟩
  ·have hoe : openIx a = [] := by
    cases ho : openIx a with
    | nil => rfl
    | cons z Zr => rw [ho] at c; cases c
   rw [hoe] at hS
   simp only [Sr36Neutral.sendsF, Option.some.injEq, Prod.mk.injEq] at hS
   exact ⟨(by show 1 ≤ sizeLine; decide), fun l hl => zero hsT hS.1.symm hS.2.symm l hl⟩
  refine ⟨_, rfl, nd, _, dx, _, _, rfl, hn3, cl, T.na_Node_plan, rfl, _, rfl, nd, _, dx, _, _, rfl, hn3, cl, T.na_Node_me, rfl, _, rfl, nd, _, dx, _, _, rfl, hn3, cl, T.na_Node_time, rfl,
   N.pl, N.as, N.ls, a.plan.n, a.plan.list, a.me, a.now, rfl, hN3.plan, hA.me, hokp, hn32, hq128, fun H4 bw R hist B kvs s4 hB hR => ?_⟩
  refine ⟨Nat.zero_le _, fun sl hsl => ?_⟩
  have sT4 : Same H H4 := hsT.trans s4
  have hN4 := hN.same sT4
  have hn4 := sT4 _ _ hn
  have hu4 := s4 _ _ hu3
  have hlr4 := s4 _ _ hlr3
  have hmem : ∀ z ∈ Zr, z ∈ Z := fun z hz => (List.mem_filter.mp (hperm.mem_iff.mp hz)).1
  have hheld : ∀ z ∈ Z, z.2 ∈ a.held := fun z hz => by rw [← hN.he]; exact List.mem_map.mpr ⟨z, hz, rfl⟩
  have hsort' : (Zr.map (·.2)).Pairwise fun g g' => Sr36.before g'.parcel g.parcel = false := by
   rw [List.pairwise_map]
   exact hsort
  have hol : (openIx a).length ≤ 128 := Nat.le_trans (List.length_filter_le _ _) (Nat.le_trans (List.length_filter_le _ _) (by rw [List.length_range]; exact hq128))
  have hx0 : ∀ {Y : PZ}, ParcelsAt t (hid N H4) Y → ∀ z ∈ Y, ParcelX t sl (hid N (upd H4 sl (.lst []))) z.1 z.2 := fun hY z hz => by
   obtain ⟨dz, d, h1, h2⟩ := hY z hz
   have g4 := hid_same (N := N) (same_fresh (o := .lst []) hsl)
   exact ⟨dz, d, g4 _ _ h1, g4 _ _ h2, ne_of_none (hid_le _ _ h2) hsl⟩
  refine ⟨_, rfl, D2, rfl, ⟨_, SqL.of (by rw [upd_ne (ne_of_none hu4 hsl)]; exact hu4)⟩, for_list (K := K) (a := D2) (xs := refsOf N.as (openIx a)) (fun j σ H' => ∃ (v2 v4 : Option V) (u : Sr36.Held → Sr36.Held) (aj : Sr36.Abs) (evsD evsR : List Sr36.Ev),
   σ = [some (.ref nd), some (.ref lr), v2, some (.ref D2), v4, some (.ref bw), some (.int (evsD.length : Nat)), some (.ref sl)] ∧ Sn.Chg (Sr36Neutral.look D) a aj ((openIx a).take j) u ∧ Sr36Neutral.sendsF (Sr36Neutral.look D) aj ((openIx a).drop j) = some (evsR, b) ∧ evsD ++ evsR = evs ∧
    SInv t N Z Za H4 H' sl u (evsD.flatMap Sr36Neutral.told) ∧ (evsD.flatMap Sr36Neutral.told).length ≤ 66 * j)
   ⟨_, _, id, a, [], evs, rfl, Sn.Chg.start _ _, hS, rfl, ⟨fun b o e _ => by rw [upd_ne (ne_of_none e hsl)]; exact e, hx0 hN4.ghz, hx0 hN4.gaz, upd_same⟩, Nat.zero_le _⟩ (fun j σ H' _ hI => ?_) ?_ ?_⟩
  ·obtain ⟨v2, v4, u, aj, evsD, evsR, rfl, hC, hR2, hE, hI, hL⟩ := hI
   exact SqL.of (hI.keep _ _ hu4 np_lst)
  ·rintro j y σ H' hj ⟨v2, v4, u, aj, evsD, evsR, rfl, hC, hR2, hE, hI, hL⟩
   unfold refsOf at hj
   rw [List.getElem?_map] at hj
   cases hk0 : (openIx a)[j]? with
   | none => rw [hk0] at hj; cases hj
   | some k0 =>
   rw [hk0] at hj
   have hj := Option.some.inj hj
   have hjl : j < (openIx a).length := (List.getElem?_eq_some_iff.mp hk0).1
   have hjk : (openIx a)[j] = k0 := (List.getElem?_eq_some_iff.mp hk0).2
   obtain ⟨x0, hx0', hb0, he0⟩ := openIx_spec (List.mem_of_getElem? hk0)
   obtain ⟨pa, hpa1, hpa2, dp, hpass⟩ := hN4.plan.pas.get hx0'
   have hye : y = V.ref pa := hj.symm.trans (congrArg V.ref hpa2)
   subst hye
   have hpass' := hI.keep _ _ hpass (np_head (by decide))
   have hdr : (openIx a).drop j = k0 :: (openIx a).drop (j + 1) := by rw [List.drop_eq_getElem_cons hjl, hjk]
   have htk : (openIx a).take (j + 1) = (openIx a).take j ++ [k0] := by rw [List.take_add_one, hk0]; rfl
   have hnd : k0 ∉ (openIx a).take j := fun q => by
    have h := openIx_nodup a
    rw [← List.take_append_drop j (openIx a), hdr] at h
    exact (List.nodup_append.mp h).2.2 k0 q k0 List.mem_cons_self rfl
   rw [hdr] at hR2
   have hpar : ∀ h ∈ a.held, (u h).parcel = h.parcel := fun h hh => (hC.par h hh).1
   have hzr : ∀ z ∈ Zr, (u z.2).parcel = z.2.parcel ∧ fitB B k0 z.2.parcel = Sn.fits (Sr36Neutral.look D) a.now k0 z.2.parcel := fun z hz => ⟨hpar _ (hheld z (hmem z hz)), fits_eq (R := R) (n := a.plan.n) hA.good hA.me hD hR hx0' hb0 (hA.hp _ (hheld z (hmem z hz))).1⟩
   obtain ⟨f1, f2⟩ := find_zr hzr
   have hup : ParcelsAt t H' (updZ u Zr) := fun z hz => by
    obtain ⟨z', hz', rfl⟩ := List.mem_map.mp hz
    exact (hI.pz z' (hmem z' hz')).to.same hid_le
   have hbest : BestAt t H' bw a.plan.n B kvs := hB.mono (hI.keep _ _ hB.obj np_dK) fun w' e q => let ⟨dw, h1⟩ := q; ⟨dw, hI.keep _ _ h1 (np_head (by decide))⟩
   refine ⟨_, rfl, _, rfl, _, rfl, pa, lr, bw, k0, a.plan.n, x0, updZ u Zr, B, kvs, rfl, ⟨dp, hpass'⟩, by rw [updZ_refs]; exact hI.keep _ _ hlr4 np_lst, hup, hbest, ?_⟩
   rcases Sn.send_step hC hnd hRm hsort' hR2 with ⟨g1, g2⟩ | ⟨g, x, evs', g1, g2, g3, g4, g5, g6, g7⟩
   ·rw [f1 g1]
    refine ⟨_, rfl, _, rfl, iteF ?_⟩
    exact ⟨_, _, u, aj, evsD, evsR, rfl, by rw [htk]; exact hC.skip k0, g2, hE, hI, by omega⟩
   ·obtain ⟨z, hz, rfl, hfind⟩ := f2 g g1
    rw [hfind, g7]
    obtain ⟨dz, d, gz1, gz2, hz3⟩ := hI.pz z (hmem z hz)
    rw [g7] at gz1 gz2
    have hz1 := hid_le _ _ gz1
    have hz2 := hid_le _ _ gz2
    have hdl := (hA.hp z.2 g5).2.2.1
    have hxe : x = x0 := by
     rw [hx0'] at g2
     exact (Option.some.inj g2).symm
    subst hxe
    have hokx := hokp x (List.mem_of_getElem? hx0')
    refine ⟨_, rfl, _, rfl, iteT ?_⟩
    refine ⟨_, rfl, _, _, rfl, rfl, ?_⟩
    have hn' := hI.keep _ _ hn4 (np_head (by decide))
    refine ⟨_, rfl, ?_, _, rfl, nd, dx, _, rfl, hn', rfl, _, rfl, _, rfl, nd, pa, z.1, dz, dp, d, dx, N, k0, a.me, a.now, a.own, x, z.2, rfl, hn', ⟨dp, hpass'⟩, hz1, hz2, by omega, ?_, fun H6 l6 hk6 hp6 hl6 => ?_⟩
    ·exact .inl ⟨rfl, _, SqL.of hI.out⟩
    ·unfold Sr35.okPass at hokx
     simp only [Bool.and_eq_true, decide_eq_true_eq] at hokx
     omega
    ·have hlen : (Sr36Neutral.told (.send k0 (Sr36.bytesOf (.parcel z.2.parcel (z.2.leg + 1))))).length ≤ 66 := by
      rw [told_send, List.length_cons, List.length_cons, List.length_map, bytes_len]
      omega
     have hnew : V.int (k0 : Int) :: V.int ((Sr36.bytesOf (.parcel z.2.parcel (z.2.leg + 1))).length : Nat) :: nsV (Sr36.bytesOf (.parcel z.2.parcel (z.2.leg + 1))) = (Sr36Neutral.told (.send k0 (Sr36.bytesOf (.parcel z.2.parcel (z.2.leg + 1))))).map V.int := by
      rw [told_send, nsV_int]
      rfl
     rw [hnew] at hl6
     refine ⟨sl, l6, _, _, rfl, rfl, hk6 _ _ hI.out (ne_of hI.out hz1 (by intro q; cases q)), hl6, ?_, ?_⟩
     ·rw [List.length_map, List.length_map]
      exact small_le (by omega)
     ·have hI' := hI.send (new := Sr36Neutral.told (.send k0 (Sr36.bytesOf (.parcel z.2.parcel (z.2.leg + 1))))) (w := a.now + 2 * x.takes) hA hN.he hN.ae hpar (hmem z hz) g7 hsl gz1 gz2 hz3 hk6 hp6
      have hfl : (evsD ++ [Sr36.Ev.send k0 (Sr36.bytesOf (.parcel z.2.parcel (z.2.leg + 1)))]).flatMap Sr36Neutral.told = evsD.flatMap Sr36Neutral.told ++ Sr36Neutral.told (.send k0 (Sr36.bytesOf (.parcel z.2.parcel (z.2.leg + 1)))) := by
       rw [List.flatMap_append, List.flatMap_cons, List.flatMap_nil, List.append_nil]
      refine ⟨some (V.ref z.1), some (V.ref pa), _, _, evsD ++ [.send k0 (Sr36.bytesOf (.parcel z.2.parcel (z.2.leg + 1)))], evs', ?_, by rw [htk]; exact hC.send hnd g5 g6, g3, ?_, ?_, ?_⟩
      ·rw [List.length_append]
       rfl
      ·rw [List.append_assoc, ← hE, g4]
       rfl
      ·rw [hfl, ← List.map_append]
       exact hI'
      ·rw [hfl, List.length_append]
       omega
  ·rintro σ H' ⟨v2, v4, u, aj, evsD, evsR, rfl, hC, hR2, hE, hI, hL⟩
   rw [show (refsOf N.as (openIx a)).length = (openIx a).length from by unfold refsOf; rw [List.length_map]] at hC hR2 hL
   rw [List.drop_length] at hR2
   simp only [Sr36Neutral.sendsF, Option.some.injEq, Prod.mk.injEq] at hR2
   obtain ⟨rfl, rfl⟩ := hR2
   rw [List.append_nil] at hE
   subst hE
   have hpar : ∀ h ∈ a.held, (u h).parcel = h.parcel := fun h hh => (hC.par h hh).1
   have hN' := hI.node hN4 hpar
   rw [← hC.eq] at hN'
   refine ⟨_, rfl, (by show 1 ≤ sizeLine; decide), fun l1 hl1 => ⟨_, rfl, l1, sl, _, _, rfl, rfl, upd_same, by rw [upd_ne (ne_of_none hI.out hl1)]; exact hI.out, ?_, fun l2 hl2 => ?_⟩⟩
   ·rw [List.length_map]
    exact small_le (by show 1 + _ ≤ _; omega)
   ·have s5 := (same_fresh (o := .lst [V.int ((evsD.length : Nat) : Int)]) hl1).trans (same_fresh (o := .lst ([V.int ((evsD.length : Nat) : Int)] ++ (evsD.flatMap Sr36Neutral.told).map V.int)) hl2)
    refine k _ l2 N (updZ u Z) Za (hN'.same s5) upd_same ((hN'.same (same_fresh hl1)).tl_ne hl2) (fun b o e _ np => s5 _ _ (hI.keep _ _ (sT4 _ _ e) np)) (fun f hf => .inl hf) rfl
end
end Pp
end
section
namespace Pp
open PySem PySem.Spec PyProof.Rows L2
theorem AInv.mapHeld {a : Sr36.Abs} (h : AInv a) (u : Sr36.Held → Sr36.Held) (hu : ∀ g ∈ a.held, (u g).parcel = g.parcel) : AInv { a with held := a.held.map u } := by
 refine ⟨h.good, h.me, h.m, h.now, ?_, h.kkeys, by show (a.held.map u).length ≤ 64; rw [List.length_map]; exact h.hb, h.ab, h.kb, fun g hg => ?_, h.ap⟩
 ·show ((a.held.map u).map fun h => (h.parcel.source, h.parcel.number)).Nodup
  have e : (a.held.map u).map (fun h => (h.parcel.source, h.parcel.number)) = a.held.map fun h => (h.parcel.source, h.parcel.number) := by
   rw [List.map_map]
   refine List.map_congr_left fun g hg => ?_
   show ((u g).parcel.source, (u g).parcel.number) = _
   rw [hu g hg]
  rw [e]
  exact h.keys
 ·obtain ⟨g', hg', rfl⟩ := List.mem_map.mp hg
  rw [hu g' hg']
  exact h.hp g' hg'
theorem AInv.filterHeld {a : Sr36.Abs} (h : AInv a) (f : Sr36.Held → Bool) : AInv { a with held := a.held.filter f } :=
 ⟨h.good, h.me, h.m, h.now, List.Nodup.sublist (List.Sublist.map _ List.filter_sublist) h.keys, h.kkeys, Nat.le_trans (List.length_filter_le _ _) h.hb, h.ab, h.kb, fun g hg => h.hp g (List.mem_filter.mp hg).1, h.ap⟩
theorem AInv.addHeld {a : Sr36.Abs} (h : AInv a) (g : Sr36.Held) (own : Nat) (ho : a.own ≤ own) (hf : a.held.length < 64) (hk : ∀ g' ∈ a.held, ¬ (g'.parcel.source = g.parcel.source ∧ g'.parcel.number = g.parcel.number))
  (hg : g.parcel.to_ < a.plan.n ∧ g.parcel.to_ ≠ a.me ∧ g.parcel.data.length ≤ 48 ∧ (g.parcel.source = a.me → g.parcel.number ≤ own)) : AInv { a with own := own, held := a.held ++ [g] } := by
 refine ⟨h.good, h.me, h.m, h.now, ?_, h.kkeys, by show (a.held ++ [g]).length ≤ 64; rw [List.length_append]; exact hf, h.ab, h.kb, fun g' hg' => ?_, h.ap⟩
 ·show ((a.held ++ [g]).map fun h => (h.parcel.source, h.parcel.number)).Nodup
  rw [List.map_append, List.nodup_append]
  refine ⟨h.keys, by simp, fun x hx y hy => ?_⟩
  obtain ⟨g', hg', rfl⟩ := List.mem_map.mp hx
  simp only [List.map_cons, List.map_nil, List.mem_singleton] at hy
  subst hy
  intro q
  simp only [Prod.mk.injEq] at q
  exact hk g' hg' q
 ·rcases List.mem_append.mp hg' with q | q
  ·obtain ⟨h1, h2, h3, h4⟩ := h.hp g' q
   exact ⟨h1, h2, h3, fun e => Nat.le_trans (h4 e) ho⟩
  ·rw [List.mem_singleton.mp q]
   exact hg
theorem AInv.time {a : Sr36.Abs} (h : AInv a) (n : Nat) (hn : n ≤ 1000000) : AInv { a with now := n } := ⟨h.good, h.me, h.m, hn, h.keys, h.kkeys, h.hb, h.ab, h.kb, h.hp, h.ap⟩
theorem AInv.drop {a : Sr36.Abs} (h : AInv a) : AInv (dropA a) :=
 ⟨h.good, h.me, h.m, h.now, List.Nodup.sublist (List.Sublist.map _ List.filter_sublist) h.keys, List.Nodup.sublist (List.Sublist.map _ List.filter_sublist) h.kkeys, Nat.le_trans (List.length_filter_le _ _) h.hb, Nat.le_trans (List.length_filter_le _ _) h.ab, Nat.le_trans (List.length_filter_le _ _) h.kb, fun g hg => h.hp g (List.mem_filter.mp hg).1, fun x hx => h.ap x (List.mem_filter.mp hx).1⟩
theorem later_drop (a : Sr36.Abs) : a.later = dropA { a with now := a.now + 1 } := rfl
theorem AInv.later {a : Sr36.Abs} (h : AInv a) (hn : a.now < 1000000) : AInv a.later := by
 rw [later_drop]
 exact (h.time (a.now + 1) hn).drop
theorem AInv.sends {W : Sn.WayF} : ∀ {ks : List Nat} {a b : Sr36.Abs} {evs : List Sr36.Ev}, AInv a → Sr36Neutral.sendsF W a ks = some (evs, b) → AInv b
 | [], a, b, evs, h, e => by
  simp only [Sr36Neutral.sendsF, Option.some.injEq, Prod.mk.injEq] at e
  rw [← e.2]
  exact h
 | k :: ks, a, b, evs, h, e => by
  simp only [Sr36Neutral.sendsF] at e
  split at e
  ·exact AInv.sends h e
  ·split at e
   ·split at e
    ·cases e
    ·rename_i g _ _ _ x _
     cases hr : Sr36Neutral.sendsF W (Sr36Neutral.sent a g x.takes) ks with
     | none => rw [hr] at e; cases e
     | some y =>
      rw [hr] at e
      simp only [Option.map_some, Option.some.injEq, Prod.mk.injEq] at e
      rw [← e.2]
      refine AInv.sends (evs := y.1) ?_ hr
      refine h.mapHeld (fun g' => if g' = g then { g' with waits := a.now + 2 * x.takes } else g') fun g' _ => ?_
      show (if g' = g then _ else _ : Sr36.Held).parcel = _
      split <;> rfl
   ·cases e
theorem AInv.put {a : Sr36.Abs} (h : AInv a) (to e : Nat) (d : Option (List Nat)) (hd : ∀ ys, d = some ys → ys.length ≤ 48) : AInv (a.put to e d).1 := by
 unfold Sr36.Abs.put
 split
 ·exact h
 ·rename_i b
  split
  ·exact h
  ·split
   ·exact h
   ·rename_i c1 c2
    have e4 : Sr36.HELD = 64 := rfl
    refine h.addHeld _ (a.own + 1) (Nat.le_succ _) (by omega) (fun g hg q => ?_) ⟨by show to < a.plan.n; omega, by show to ≠ a.me; omega, hd b rfl, fun _ => Nat.le_refl _⟩
    have q1 : g.parcel.source = a.me := q.1
    have q2 : g.parcel.number = a.own + 1 := q.2
    have := (h.hp g hg).2.2.2 q1
    omega
theorem AInv.addArrived {a : Sr36.Abs} (h : AInv a) (y : Sr36.Parcel) (hy : y.to_ = a.me) (hd : y.data.length ≤ 48) (c1 : a.arrived.length < 64) (c2 : a.knows.length < 256) (hk : (a.knows.any fun z => z.1 == y.source && z.2.1 == y.number) = false) :
  AInv { a with arrived := a.arrived ++ [y], knows := a.knows ++ [(y.source, y.number, y.end_)] } := by
 refine ⟨h.good, h.me, h.m, h.now, h.keys, ?_, h.hb, by show (a.arrived ++ [y]).length ≤ 64; rw [List.length_append]; exact c1, by show (a.knows ++ [_]).length ≤ 256; rw [List.length_append]; exact c2, h.hp, fun x hx => ?_⟩
 ·show ((a.knows ++ [(y.source, y.number, y.end_)]).map fun k => (k.1, k.2.1)).Nodup
  rw [List.map_append, List.nodup_append]
  refine ⟨h.kkeys, by simp, fun u hu v hv => ?_⟩
  obtain ⟨z, hz, rfl⟩ := List.mem_map.mp hu
  simp only [List.map_cons, List.map_nil, List.mem_singleton] at hv
  subst hv
  intro q
  simp only [Prod.mk.injEq] at q
  have := List.any_eq_false.mp hk z hz
  simp only [Bool.and_eq_true, beq_iff_eq] at this
  exact this q
 ·rcases List.mem_append.mp hx with q | q
  ·exact h.ap x q
  ·rw [List.mem_singleton.mp q]
   exact ⟨hy, hd⟩
def MsgOk (n : Nat) : Sr36.Msg → Prop
 | .parcel y _ => y.to_ < n ∧ y.data.length ≤ 48
 | .kept _ _ _ => True
theorem msgOk {n : Nat} {b : List Nat} {m : Sr36.Msg} (h : Sr36.messageOf n b = some m) : MsgOk n m := by
 unfold Sr36.messageOf at h
 dsimp only at h
 split at h
 ·rename_i c
  cases h
  refine ⟨c.2.2.2.2.2.1, ?_⟩
  show (b.drop 16).length ≤ 48
  have e : Sr36.MOST = 48 := rfl
  rw [List.length_drop]
  have h1 := c.2.2.1
  have h2 := c.2.2.2.1
  omega
 ·split at h
  ·cases h
   exact True.intro
  ·cases h
theorem AInv.hears {a : Sr36.Abs} (h : AInv a) (k : Nat) (x : Sr35.Pass) {m : Sr36.Msg} (hm : MsgOk a.plan.n m) : AInv (a.hears k x m).1 := by
 cases m with
 | kept s n leg => exact h.filterHeld _
 | parcel y leg =>
  obtain ⟨m1, m2⟩ := hm
  have e1 : Sr36.ARRIVED = 64 := rfl
  have e2 : Sr36.KNOWN = 256 := rfl
  have e3 : Sr36.HELD = 64 := rfl
  simp only [Sr36.Abs.hears]
  split
  ·exact h
  rename_i c0
  split
  ·rename_i c1
   split
   ·exact h
   ·rename_i c2
    split
    ·exact h
    ·rename_i c3
     exact h.addArrived y c1 m2 (by omega) (by omega) (Bool.eq_false_iff.mpr c2)
  ·rename_i c1
   split
   ·refine h.mapHeld _ fun g _ => ?_
    split <;> rfl
   ·rename_i c2
    split
    ·exact h
    ·rename_i c3
     refine h.addHeld ⟨y, leg, 0⟩ a.own (Nat.le_refl _) (by omega) (fun g hg q => c2 ?_) ⟨m1, c1, m2, fun q => ?_⟩
     ·refine List.any_eq_true.mpr ⟨g, hg, ?_⟩
      unfold Sr36.isOne
      rw [Bool.and_eq_true, beq_iff_eq, beq_iff_eq]
      exact q
     ·have q : y.source = a.me := q
      show y.number ≤ a.own
      rcases Nat.lt_or_ge a.own y.number with z | z
      ·exact absurd (.inr ⟨q, z⟩) c0
      ·exact z
theorem AInv.heard {a : Sr36.Abs} (h : AInv a) (k : Nat) (m : Option (List Nat)) : AInv (a.heard k m).1 := by
 unfold Sr36.Abs.heard
 split
 ·exact h
 ·split
  ·exact h
  ·rename_i y hy
   cases m with
   | none => cases hy
   | some b => exact h.hears _ _ (msgOk hy)
theorem AInv.read {a : Sr36.Abs} (h : AInv a) : AInv a.read.1 := by
 unfold Sr36.Abs.read
 split
 ·exact h
 ·rename_i x r e
  refine ⟨h.good, h.me, h.m, h.now, h.keys, h.kkeys, h.hb, ?_, h.kb, h.hp, fun y hy => h.ap y (by rw [e]; exact List.mem_cons_of_mem _ hy)⟩
  have := h.ab
  rw [e, List.length_cons] at this
  show r.length ≤ 64
  omega
theorem Fresh.trans {t : Adr} {nd : Addr} {N N1 N2 : NA} {H H1 : Hp} (k : NKeep t (foot nd N) H H1) (f1 : Fresh t nd N N1 H) (f2 : Fresh t nd N1 N2 H1) : Fresh t nd N N2 H := fun f hf => by
 rcases f2 f hf with q | q
 ·exact f1 f q
 ·by_cases c : f ∈ foot nd N
  ·exact .inl c
  ·exact .inr fun o e np => q o (k f o e c np) np
theorem NKeep.trans2 {t : Adr} {nd : Addr} {N N1 : NA} {H H1 H2 : Hp} (k : NKeep t (foot nd N) H H1) (f : Fresh t nd N N1 H) (k2 : NKeep t (foot nd N1) H1 H2) : NKeep t (foot nd N) H H2 := fun b o e n q => by
 refine k2 b o (k b o e n q) (fun z => ?_) q
 rcases f b z with w | w
 ·exact n w
 ·exact w o e q
theorem Fresh.refl {t : Adr} {nd : Addr} {N : NA} {H : Hp} : Fresh t nd N N H := fun f hf => .inl hf
theorem nodeEnd.back {t : Adr} {nd : Addr} {N N1 : NA} {H H1 : Hp} {b : Sr36.Abs} {ans : List Int} {Q : VK} (k : nodeEnd t nd N H b ans Q) (k1 : NKeep t (foot nd N) H H1) (f1 : Fresh t nd N N1 H) (e1 : N1.tl = N.tl) : nodeEnd t nd N1 H1 b ans Q :=
 fun H' l N' Z Za hN hl hne kk ff ee => k H' l N' Z Za hN hl (by rw [← e1]; exact hne) (k1.trans2 f1 kk) (Fresh.trans k1 f1 ff) (ee.trans e1)
section
variable {P : Program} {w : World} {K : PySem.W.Frag} {mg : Str → Option Value} {base : Heap} {t : Adr}
def spTick (t : Adr) : Sp := fun vs H Q _ => ∃ (nd : Addr) (N : NA) (Z Za : PZ) (a b : Sr36.Abs) (evs : List Sr36.Ev) (ans : Sr36.Ans), vs = [.ref nd] ∧ NodeAt t H nd N Z Za a ∧ AInv a ∧ Sr36Neutral.reckon (some a) .tick = some (evs, some b, ans) ∧
 nodeEnd t nd N H b (Sr36Neutral.given ans ++ evs.flatMap Sr36Neutral.told) Q
theorem ok_Node_tick (T : Tx K mg t) : FnOk P w K mg base CX0 6 t.f_Node_tick t.d_Node_tick ["self"] (spTick t) := by
 have G_Node_drop_ended : FnOk P w K mg base CX0 1 t.f_Node_drop_ended t.d_Node_drop_ended ["self"] (spDrop t) := ok_Node_drop_ended T
 have G_Node_send_all : FnOk P w K mg base CX0 5 t.f_Node_send_all t.d_Node_send_all ["self"] (spSend_all t) := ok_Node_send_all T
 refine T.fn_Node_tick.ok sc_Node_tick (fun vs H Q E h => ?_) (fun cdv A outer s H vs Q E hr h => ?_)
 ·obtain ⟨nd, N, Z, Za, a, b, evs, ans, rfl, _⟩ := h
  rfl
 ·obtain ⟨nd, N, Z, Za, a, b, evs, ans, rfl, hN, hA, hS, k⟩ := h
  have cl := T.cl_Node
  obtain ⟨dx, hn⟩ := hN.obj
  have e3 : Sr35.LAST = 1000000 := rfl
  simp only [Sr36Neutral.reckon] at hS
  refine ⟨_, (pss_cons (ps_if (pt_cmpR op_ge (pe_fld (pv 0) rfl) (pk (by rfl) T.k_LAST_TIME) (nomark _)) (pss_one (ps_ret (pe_lst (pa_cons (pk (by rfl) T.k_TIME_IS_OVER) pa_nil)))) pss_nil)
   (pss_cons (ps_fld (pv 0) (pe_op op_add (pe_fld (pv 0) rfl) pe_int) rfl)
   (pss_cons (ps_expr (pe_meth0 (pv 0) T.cl_Node T.me_Node_drop_ended G_Node_drop_ended (hr.mono (by decide)) T.bi_Node_drop_ended .nil pass0))
   (pss_one (ps_ret (pe_meth0 (pv 0) T.cl_Node T.me_Node_send_all G_Node_send_all (hr.mono (by decide)) T.bi_Node_send_all .nil pass0)))))), ?_⟩
  refine ⟨_, rfl, nd, _, dx, _, _, rfl, hn, cl, T.na_Node_time, rfl, _, _, rfl, rfl, _, rfl, ite2 (fun c => ?_) (fun c => ?_)⟩
  ·have c : (1000000 : Int) ≤ (a.now : Int) := of_decide_eq_true c
   rw [if_pos (by omega)] at hS
   simp only [Option.some.injEq, Prod.mk.injEq] at hS
   obtain ⟨rfl, rfl, rfl⟩ := hS
   exact ⟨(by show 1 ≤ sizeLine; decide), fun l hl => k.stay hN (same_fresh hl) upd_same (hN.tl_ne hl)⟩
  have c : ¬ (1000000 : Int) ≤ (a.now : Int) := fun q => c (decide_eq_true q)
  rw [if_neg (by omega)] at hS
  split at hS
  ·split at hS
   ·cases hS
   ·rename_i D hD
    split at hS
    ·cases hS
    ·rename_i l b' hSe
     simp only [Option.some.injEq, Prod.mk.injEq] at hS
     obtain ⟨rfl, rfl, rfl⟩ := hS
     refine ⟨_, rfl, nd, _, dx, _, _, rfl, hn, cl, T.na_Node_time, rfl, _, _, rfl, rfl, _, rfl, nd, _, dx, _, rfl, hn, cl, T.na_Node_time, fl 7 rfl, ?_⟩
     have hn1 : (upd H nd (.ins t.c_Node dx (putF "time" (V.int ((a.now : Int) + 1)) (fNode N.pl a.me a.now a.own N.hd N.ar N.kn)))) nd = some (.ins t.c_Node dx (fNode N.pl a.me ((a.now + 1 : Nat) : Int) a.own N.hd N.ar N.kn)) := by
      rw [upd_same, show ((a.now + 1 : Nat) : Int) = (a.now : Int) + 1 from by omega]
      rfl
     have hk1 : ∀ b o, H b = some o → b ≠ nd → (upd H nd (.ins t.c_Node dx (putF "time" (V.int ((a.now : Int) + 1)) (fNode N.pl a.me a.now a.own N.hd N.ar N.kn)))) b = some o := fun b o e ne => by rw [upd_ne ne]; exact e
     generalize hH1 : upd H nd (.ins t.c_Node dx (putF "time" (V.int ((a.now : Int) + 1)) (fNode N.pl a.me a.now a.own N.hd N.ar N.kn))) = H1 at hn1 hk1 ⊢
     have hN1 : NodeAt t H1 nd N Z Za { a with now := a.now + 1 } := hN.rewrite hk1 hn1 rfl rfl rfl rfl rfl
     refine ⟨_, rfl, nd, dx, _, rfl, hn1, rfl, nd, N, Z, Za, { a with now := a.now + 1 }, rfl, hN1, hA.time _ (by omega), fun H2 N2 hN2 k2 f2 t2 => ?_⟩
     obtain ⟨dx2, hn2⟩ := hN2.obj
     have kk1 : NKeep t (foot nd N) H H1 := fun b o e n _ => hk1 b o e fun q => n (by rw [q]; exact List.mem_cons_self)
     have ff2 : Fresh t nd N N2 H1 := fun f hf => (f2 f hf).imp id fun q o e => by rw [q] at e; cases e
     refine ⟨_, rfl, nd, dx2, _, rfl, hn2, rfl, nd, N2, _, _, a.later, b', D, l, rfl, hN2, hA.later (by omega), hD, hSe, ?_⟩
     exact nodeEnd.back (nodeEnd.back k kk1 Fresh.refl rfl) k2 ff2 t2
  ·cases hS
end
end Pp
end
section
namespace Pp
open PySem PySem.Spec PyProof.Rows L2
theorem nsV_get {b : List Nat} {i : Nat} (h : i < b.length) : (nsV b)[i]? = some (V.int ((b.getD i 0 : Nat) : Int)) := by
 unfold nsV
 rw [List.getElem?_map, List.getElem?_eq_getElem h, List.getD_eq_getElem?_getD, List.getElem?_eq_getElem h]
 rfl
theorem take4 {b : List Nat} {p : Nat} (h : p + 4 ≤ b.length) : (b.drop p).take 4 = [b.getD p 0, b.getD (p + 1) 0, b.getD (p + 2) 0, b.getD (p + 3) 0] := by
 have g : ∀ i, i < b.length → b.getD i 0 = b[i]! := fun i hi => by
  rw [List.getD_eq_getElem?_getD, List.getElem?_eq_getElem hi, getElem!_pos b i hi]
  rfl
 rw [List.drop_eq_getElem_cons (show p < b.length by omega), List.drop_eq_getElem_cons (show p + 1 < b.length by omega), List.drop_eq_getElem_cons (show p + 1 + 1 < b.length by omega), List.drop_eq_getElem_cons (show p + 1 + 1 + 1 < b.length by omega)]
 simp only [List.take_succ_cons, List.take_zero]
 rw [List.getD_eq_getElem?_getD, List.getD_eq_getElem?_getD, List.getD_eq_getElem?_getD, List.getD_eq_getElem?_getD, List.getElem?_eq_getElem (show p < b.length by omega), List.getElem?_eq_getElem (show p + 1 < b.length by omega), List.getElem?_eq_getElem (show p + 2 < b.length by omega), List.getElem?_eq_getElem (show p + 3 < b.length by omega)]
 rfl
def term4 (b : List Nat) (p j : Nat) : Int := ((b.getD (p + j) 0 : Nat) : Int) * 2 ^ ((8 : Int) * (0 + (j : Int))).toNat
theorem sum4 {b : List Nat} {p : Nat} (h : p + 4 ≤ b.length) : ((List.range 4).map (term4 b p)).sum = ((Sr36.num ((b.drop p).take 4) : Nat) : Int) := by
 rw [take4 h]
 show (((b.getD p 0 : Nat) : Int) * 2 ^ 0 + (((b.getD (p + 1) 0 : Nat) : Int) * 2 ^ 8 + (((b.getD (p + 2) 0 : Nat) : Int) * 2 ^ 16 + (((b.getD (p + 3) 0 : Nat) : Int) * 2 ^ 24 + 0)))) = (((b.getD p 0) + 256 * ((b.getD (p + 1) 0) + 256 * ((b.getD (p + 2) 0) + 256 * ((b.getD (p + 3) 0) + 256 * 0))) : Nat) : Int)
 omega
section
variable {P : Program} {w : World} {K : PySem.W.Frag} {mg : Str → Option Value} {base : Heap} {t : Adr}
def spNum : Sp := fun vs H Q _ => ∃ (l : Addr) (p : Nat) (b : List Nat), vs = [.ref l, .int p] ∧ H l = some (.lst (nsV b)) ∧ p + 4 ≤ b.length ∧ (∀ x ∈ b, x < 256) ∧ ∀ H', Same H H' → Q (.int ((Sr36.num ((b.drop p).take 4) : Nat) : Int)) H'
theorem getD_lt {b : List Nat} (hb : ∀ x ∈ b, x < 256) (i : Nat) : b.getD i 0 < 256 := by
 rw [List.getD_eq_getElem?_getD]
 cases h : b[i]? with
 | none => show 0 < 256; omega
 | some x => exact hb x (List.mem_of_getElem? h)
theorem ok_number_at (T : Tx K mg t) : FnOk P w K mg base CX0 1 t.f_number_at t.d_number_at ["message", "place"] spNum := by
 refine T.fn_number_at.ok sc_number_at (fun vs H Q E h => ?_) (fun cdv A outer s H vs Q E hr h => ?_)
 ·obtain ⟨l, p, b, rfl, _⟩ := h
  rfl
 ·obtain ⟨l, p, b, rfl, hl, hp, hb, k⟩ := h
  refine ⟨_, (pss_one (ps_ret (pe_callB (cr_sum rfl) (by rfl) T.b_sum bt_sum (pa_cons (pe_lc (own := [("k", 2)]) rfl sc_number_at.nd (pi_range1 rfl T.b_range (pa_cons pe_int pa_nil)) (blkOk_by rfl) (fun _ _ _ _ _ => (pg_name (i := 2) sc_number_at.nd rfl (by first | exact Or.inl rfl | exact Or.inr rfl))) (fun _ _ _ _ _ => pts_nil) (fun _ _ _ _ _ => (pe_op op_shl (pe_ix (ixK (K := K) rfl) (pv 0) (pe_op op_add (pv 1) (pv 2)) (fun _ _ => rfl)) (pe_op op_mul pe_int (pv 2))))) pa_nil)))), ?_⟩
  refine ⟨4, rfl, by decide, by decide, fun D hD => ?_⟩
  have hlD : l ≠ D := ne_of_none hl hD
  refine lc_range (lo := 0) (n := (4 : Int).toNat) (Pv := fun j H' => H' = upd H D (.lst (((List.range j).map (term4 b p)).map V.int))) rfl (fun j H' hj e => ?_) (fun H' e => ?_)
  ·subst e
   have hj : j < 4 := hj
   have ei : (p : Int) + (0 + (j : Int)) = ((p + j : Nat) : Int) := by omega
   have hlt := getD_lt hb (p + j)
   refine ⟨rfl, _, rfl, _, rfl, _, rfl, _, _, rfl, rfl, l, _, _, V.int ((b.getD (p + j) 0 : Nat) : Int), rfl, rfl, SqL.of (by rw [upd_ne hlD]; exact hl), by rw [ei]; exact atI_nat (nsV_get (by omega)), _, rfl, _, _, rfl, rfl, .inl ⟨by decide, by decide⟩, _, _, rfl, rfl, ⟨by omega, by omega, by omega⟩, _, upd_same, ?_, ?_⟩
   ·rw [List.length_map, List.length_map, List.length_range]
    exact small_len (by omega)
   ·rw [upd_upd, List.range_succ, List.map_append, List.map_append]
    rfl
  ·subst e
   refine ⟨D, _, rfl, SqL.of upd_same, ?_⟩
   have e4 : ((List.range (4 : Int).toNat).map (term4 b p)).sum = ((Sr36.num ((b.drop p).take 4) : Nat) : Int) := sum4 hp
   rw [e4]
   exact k _ (same_fresh hD)
def spKmsg (t : Adr) : Sp := fun vs H Q _ => ∃ (p dx d : Addr) (s n to e lg w : Nat), vs = [.ref p] ∧ H p = some (.ins t.c_Parcel dx (fParcel s n to e d lg w)) ∧
 ∀ (H' : Hp) (l : Addr), Same H H' → H' l = some (.lst (nsV (Sr36.bytesOf (.kept s n lg)))) → Q (.ref l) H'
theorem ok_kept_message (T : Tx K mg t) : FnOk P w K mg base CX0 2 t.f_kept_message t.d_kept_message ["parcel"] (spKmsg t) := by
 have G_four_bytes : FnOk P w K mg base CX0 1 t.f_four_bytes t.d_four_bytes ["number"] spFour := ok_four_bytes T
 refine T.fn_kept_message.ok sc_kept_message (fun vs H Q E h => ?_) (fun cdv A outer s H vs Q E hr h => ?_)
 ·obtain ⟨p, dx, d, s, n, to, e, lg, w, rfl, _⟩ := h
  rfl
 ·obtain ⟨p, dx, d, s, n, to, e, lg, w, rfl, hp, k⟩ := h
  have cl := T.cl_Parcel
  refine ⟨_, (pss_one (ps_ret (pe_op op_cat (pe_op op_cat (pe_lst (pa_cons (pk (by rfl) T.k_KIND_KEPT) (pa_cons (pe_fld (pv 0) rfl) (pa_cons pe_int (pa_cons pe_int pa_nil))))) (pe_call G_four_bytes (hr.mono (by decide)) (by rfl) T.g_four_bytes T.kp_four_bytes T.bi_four_bytes .nil pass0 (pa_cons (pe_fld (pv 0) rfl) pa_nil))) (pe_call G_four_bytes (hr.mono (by decide)) (by rfl) T.g_four_bytes T.kp_four_bytes T.bi_four_bytes .nil pass0 (pa_cons (pe_fld (pv 0) rfl) pa_nil))))), ?_⟩
  refine ⟨_, rfl, p, _, dx, _, _, rfl, hp, cl, T.na_Parcel_source, rfl, (by show 4 ≤ sizeLine; decide), fun l0 hl0 => ?_⟩
  have s0 := same_fresh (o := .lst [.int 2, .int s, .int 0, .int 0]) hl0
  generalize hH0 : upd H l0 _ = H0 at s0
  have h0 : H0 l0 = some (.lst [.int 2, .int s, .int 0, .int 0]) := by rw [← hH0]; exact upd_same
  refine ⟨_, rfl, p, _, dx, _, _, rfl, s0 _ _ hp, cl, T.na_Parcel_number, rfl, _, rfl, fun H1 l1 s1 h1 => ?_⟩
  refine ⟨l0, l1, _, _, rfl, rfl, s1 _ _ h0, h1, ?_, fun l2 hl2 => ?_⟩
  ·simp only [List.length_append, nsV_len, le_len, List.length_cons, List.length_nil]
   exact small_le (by omega)
  have s2 := same_fresh (o := .lst ([.int 2, .int s, .int 0, .int 0] ++ nsV (Sr36.le 4 n))) hl2
  generalize hH2 : upd H1 l2 _ = H2 at s2
  have h2 : H2 l2 = some (.lst ([.int 2, .int s, .int 0, .int 0] ++ nsV (Sr36.le 4 n))) := by rw [← hH2]; exact upd_same
  refine ⟨_, rfl, p, _, dx, _, _, rfl, s2 _ _ (s1 _ _ (s0 _ _ hp)), cl, T.na_Parcel_leg, rfl, _, rfl, fun H3 l3 s3 h3 => ?_⟩
  refine ⟨l2, l3, _, _, rfl, rfl, s3 _ _ h2, h3, ?_, fun l4 hl4 => ?_⟩
  ·simp only [List.length_append, nsV_len, le_len, List.length_cons, List.length_nil]
   exact small_le (by omega)
  refine k _ l4 ((((s0.trans s1).trans s2).trans s3).trans (same_fresh hl4)) ?_
  rw [upd_same]
  unfold Sr36.bytesOf nsV
  simp
def spSize : Sp := fun vs H Q _ => ∃ (l : Addr) (b : List Nat), vs = [.ref l] ∧ H l = some (.lst (nsV b)) ∧ Q (.bl (decide (16 ≤ b.length ∧ b.length = 16 + b.getD 3 0))) H
theorem ok_has_parcel_size (T : Tx K mg t) : FnOk P w K mg base CX0 1 t.f_has_parcel_size t.d_has_parcel_size ["message"] spSize := by
 refine T.fn_has_parcel_size.ok sc_has_parcel_size (fun vs H Q E h => ?_) (fun cdv A outer s H vs Q E hr h => ?_)
 ·obtain ⟨l, b, rfl, _⟩ := h
  rfl
 ·obtain ⟨l, b, rfl, hl, q⟩ := h
  have hS : SqL K H l (nsV b) := SqL.of hl
  have hn := nsV_len b
  refine ⟨_, (pss_one (ps_ret (pe_and (pe_cmpR op_ge (pe_callB call_len_seq (by rfl) T.b_len bt_len (pa_cons (pv 0) pa_nil)) (pk (by rfl) T.k_PARCEL_HEAD_SIZE) (nomark _)) (pe_one (pe_cmpR op_eq (pe_callB call_len_seq (by rfl) T.b_len bt_len (pa_cons (pv 0) pa_nil)) (pe_op op_add (pk (by rfl) T.k_PARCEL_HEAD_SIZE) (pe_ix ix_list (pv 0) pe_int (fun _ _ => rfl))) (nomark _)))))), ?_⟩
  refine ⟨_, rfl, l, _, rfl, .inl hS, _, _, rfl, rfl, _, rfl, ite2 (fun c => ?_) (fun c => ?_)⟩
  ·have c : (16 : Int) ≤ (((nsV b).length : Nat) : Int) := of_decide_eq_true c
   refine ⟨_, rfl, l, _, rfl, .inl hS, _, rfl, l, _, (3 : Nat), _, rfl, rfl, hS, atI_nat (nsV_get (i := 3) (by omega)), _, _, rfl, rfl, rfl, ?_⟩
   rw [dI]
   have e : decide (16 ≤ b.length ∧ b.length = 16 + b.getD 3 0) = decide ((((nsV b).length : Nat) : Int) = 16 + ((b.getD 3 0 : Nat) : Int)) := decide_eq_decide.mpr ⟨fun z => by omega, fun z => ⟨by omega, by omega⟩⟩
   rw [e] at q
   exact q
  ·have c : ¬ (16 : Int) ≤ (((nsV b).length : Nat) : Int) := fun z => c (decide_eq_true z)
   rw [decide_eq_false (fun z => c (by omega))] at q
   exact q
def okc (n : Nat) : Bool := decide (1 ≤ n ∧ n ≤ 2147483647)
theorem okc_eq (n : Nat) : Sr36.okNumber n = okc n := by
 unfold Sr36.okNumber okc
 rw [show Sr36.TOP = 2147483647 from rfl, Bool.eq_iff_iff]
 simp
def spCount : Sp := fun vs H Q _ => ∃ n : Nat, vs = [.int n] ∧ Q (.bl (okc n)) H
theorem ok_is_count (T : Tx K mg t) : FnOk P w K mg base CX0 1 t.f_is_count t.d_is_count ["number"] spCount := by
 refine T.fn_is_count.ok sc_is_count (fun vs H Q E h => ?_) (fun cdv A outer s H vs Q E hr h => ?_)
 ·obtain ⟨n, rfl, _⟩ := h
  rfl
 ·obtain ⟨n, rfl, q⟩ := h
  refine ⟨_, (pss_one (ps_ret (pe_and (pe_cmpR op_le pe_int (pv 0) (nomark _)) (pe_one (pe_cmpR op_le (pv 0) (pk (by rfl) T.k_MOST_COUNT) (nomark _)))))), ?_⟩
  refine ⟨_, rfl, _, _, rfl, rfl, _, rfl, ite2 (fun c => ?_) (fun c => ?_)⟩
  ·have c : (1 : Int) ≤ (n : Int) := of_decide_eq_true c
   refine ⟨_, rfl, _, _, rfl, rfl, ?_⟩
   show Q (.bl (decide ((n : Int) ≤ 2147483647))) H
   have e : okc n = decide ((n : Int) ≤ 2147483647) := decide_eq_decide.mpr ⟨fun z => by omega, fun z => ⟨by omega, by omega⟩⟩
   rw [e] at q
   exact q
  ·have c : ¬ (1 : Int) ≤ (n : Int) := fun z => c (decide_eq_true z)
   rw [show okc n = false from decide_eq_false fun z => c (by omega)] at q
   exact q
def isP (n : Nat) (y : Sr36.Parcel) (leg : Nat) : Bool := decide (y.source < n ∧ y.to_ < n ∧ y.source ≠ y.to_ ∧ y.data.length ≤ 48 ∧ y.end_ ≤ 1000000 ∧ okc y.number = true ∧ okc leg = true)
def spIs_parcel (t : Adr) : Sp := fun vs H Q _ => ∃ (p pl dpl lp lo : Addr) (n w leg : Nat) (y : Sr36.Parcel), vs = [.ref p, .ref pl] ∧ ParcelAt t H p ⟨y, leg, w⟩ ∧ H pl = some (.ins t.c_Plan dpl (fPlan n lp lo)) ∧ Q (.bl (isP n y leg)) H
theorem ok_is_parcel (T : Tx K mg t) : FnOk P w K mg base CX0 2 t.f_is_parcel t.d_is_parcel ["parcel", "plan"] (spIs_parcel t) := by
 have G_Plan_has_node : FnOk P w K mg base CX0 1 t.f_Plan_has_node t.d_Plan_has_node ["self", "node"] (spHas t) := ok_Plan_has_node T
 have G_is_count : FnOk P w K mg base CX0 1 t.f_is_count t.d_is_count ["number"] spCount := ok_is_count T
 refine T.fn_is_parcel.ok sc_is_parcel (fun vs H Q E h => ?_) (fun cdv A outer s H vs Q E hr h => ?_)
 ·obtain ⟨p, pl, dpl, lp, lo, n, w, leg, y, rfl, _⟩ := h
  rfl
 ·obtain ⟨p, pl, dpl, lp, lo, n, w, leg, y, rfl, ⟨dx, d, hp, hd⟩, hpl, q⟩ := h
  have cl := T.cl_Parcel
  have no : (¬ (y.source < n ∧ y.to_ < n ∧ y.source ≠ y.to_ ∧ y.data.length ≤ 48 ∧ y.end_ ≤ 1000000 ∧ okc y.number = true ∧ okc leg = true)) → Q (.bl false) H := fun z => by
   rw [show isP n y leg = false from decide_eq_false z] at q
   exact q
  refine ⟨_, (pss_cons (ps_if (pw_or (pt_not (pt_val (pe_meth (pv 1) T.cl_Plan T.me_Plan_has_node G_Plan_has_node (hr.mono (by decide)) T.bi_Plan_has_node .nil pass0 (pa_cons (pe_fld (pv 0) rfl) pa_nil)))) (pw_or (pt_not (pt_val (pe_meth (pv 1) T.cl_Plan T.me_Plan_has_node G_Plan_has_node (hr.mono (by decide)) T.bi_Plan_has_node .nil pass0 (pa_cons (pe_fld (pv 0) rfl) pa_nil)))) (pw_or1 (pt_cmpR op_eq (pe_fld (pv 0) rfl) (pe_fld (pv 0) rfl) (nomark _))))).pt (pss_one (ps_ret pe_bl)) pss_nil)
   (pss_cons (ps_if (pw_or (pt_cmpR op_gt (pe_callB call_len_seq (by rfl) T.b_len bt_len (pa_cons (pe_fld (pv 0) rfl) pa_nil)) (pk (by rfl) T.k_MOST_BYTES) (nomark _)) (pw_or1 (pt_cmpR op_gt (pe_fld (pv 0) rfl) (pk (by rfl) T.k_LAST_TIME) (nomark _)))).pt (pss_one (ps_ret pe_bl)) pss_nil)
   (pss_one (ps_ret (pe_and (pe_call G_is_count (hr.mono (by decide)) (by rfl) T.g_is_count T.kp_is_count T.bi_is_count .nil pass0 (pa_cons (pe_fld (pv 0) rfl) pa_nil)) (pe_one (pe_call G_is_count (hr.mono (by decide)) (by rfl) T.g_is_count T.kp_is_count T.bi_is_count .nil pass0 (pa_cons (pe_fld (pv 0) rfl) pa_nil)))))))), ?_⟩
  refine ⟨_, rfl, pl, dpl, _, rfl, hpl, rfl, _, rfl, p, _, dx, _, _, rfl, hp, cl, T.na_Parcel_source, rfl, pl, dpl, lp, lo, n, y.source, rfl, hpl, _, rfl, ite2 (fun c => ?_) (fun c1 => ?_)⟩
  ·rw [Bool.not_eq_true', decide_eq_false_iff_not] at c
   exact iteT (no fun z => c (by omega))
  rw [Bool.not_eq_true', decide_eq_false_iff_not, Classical.not_not] at c1
  refine ⟨_, rfl, pl, dpl, _, rfl, hpl, rfl, _, rfl, p, _, dx, _, _, rfl, hp, cl, T.na_Parcel_to, rfl, pl, dpl, lp, lo, n, y.to_, rfl, hpl, _, rfl, ite2 (fun c => ?_) (fun c2 => ?_)⟩
  ·rw [Bool.not_eq_true', decide_eq_false_iff_not] at c
   exact iteT (no fun z => c (by omega))
  rw [Bool.not_eq_true', decide_eq_false_iff_not, Classical.not_not] at c2
  refine ⟨_, rfl, p, _, dx, _, _, rfl, hp, cl, T.na_Parcel_source, rfl, _, rfl, p, _, dx, _, _, rfl, hp, cl, T.na_Parcel_to, rfl, rfl, _, rfl, ite2 (fun c => ?_) (fun c3 => ?_)⟩
  ·rw [dI, decide_eq_true_eq] at c
   exact no fun z => z.2.2.1 (by have c : (y.source : Int) = (y.to_ : Int) := c; omega)
  rw [dI, decide_eq_true_eq] at c3
  have c3 : ¬ ((y.source : Int) = (y.to_ : Int)) := c3
  have hn := nsV_len y.data
  refine ⟨_, rfl, p, _, dx, _, _, rfl, hp, cl, T.na_Parcel_data, rfl, d, _, rfl, .inl (SqL.of hd), _, _, rfl, rfl, _, rfl, ite2 (fun c => ?_) (fun c4 => ?_)⟩
  ·have c : (48 : Int) < (((nsV y.data).length : Nat) : Int) := of_decide_eq_true c
   exact iteT (no fun z => by have := z.2.2.2.1; omega)
  have c4 : ¬ (48 : Int) < (((nsV y.data).length : Nat) : Int) := fun z => c4 (decide_eq_true z)
  refine ⟨_, rfl, p, _, dx, _, _, rfl, hp, cl, T.na_Parcel_end, rfl, _, _, rfl, rfl, _, rfl, ite2 (fun c => ?_) (fun c5 => ?_)⟩
  ·have c : (1000000 : Int) < (y.end_ : Int) := of_decide_eq_true c
   exact no fun z => by have := z.2.2.2.2.1; omega
  have c5 : ¬ (1000000 : Int) < (y.end_ : Int) := fun z => c5 (decide_eq_true z)
  refine ⟨_, rfl, p, _, dx, _, _, rfl, hp, cl, T.na_Parcel_number, rfl, y.number, rfl, _, rfl, ite2 (fun c6 => ?_) (fun c6 => ?_)⟩
  ·refine ⟨_, rfl, p, _, dx, _, _, rfl, hp, cl, T.na_Parcel_leg, rfl, leg, rfl, ?_⟩
   have e : isP n y leg = okc leg := by
    unfold isP
    cases h7 : okc leg with
    | true => exact decide_eq_true ⟨by omega, by omega, by omega, by omega, by omega, c6, rfl⟩
    | false => exact decide_eq_false fun z => by cases z.2.2.2.2.2.2
   rw [e] at q
   exact q
  ·exact no fun z => c6 z.2.2.2.2.2.1
def pOf (b : List Nat) : Sr36.Parcel := ⟨b.getD 1 0, Sr36.num ((b.drop 4).take 4), b.getD 2 0, Sr36.num ((b.drop 8).take 4), b.drop 16⟩
def lOf (b : List Nat) : Nat := Sr36.num ((b.drop 12).take 4)
def isPM (n : Nat) (b : List Nat) : Bool := decide ((16 ≤ b.length ∧ b.length = 16 + b.getD 3 0) ∧ b.getD 0 0 = 1) && isP n (pOf b) (lOf b)
def isKM (n : Nat) (b : List Nat) : Bool := decide (b.length = 12 ∧ b.getD 0 0 = 2 ∧ b.getD 2 0 = 0 ∧ b.getD 3 0 = 0) && (decide (b.getD 1 0 < n) && (okc (Sr36.num ((b.drop 4).take 4)) && okc (Sr36.num ((b.drop 8).take 4))))
theorem head_getD {b : List Nat} {x : Nat} (hx : x ≠ 0) : b.head? = some x ↔ b.getD 0 0 = x := by
 cases b with
 | nil => exact ⟨fun h => (by cases h), fun h => absurd h.symm hx⟩
 | cons y b => exact ⟨fun h => Option.some.inj h, fun h => congrArg some h⟩
theorem msg_eq (n : Nat) (b : List Nat) : Sr36.messageOf n b = if isPM n b = true then some (.parcel (pOf b) (lOf b)) else if isKM n b = true then some (.kept (b.getD 1 0) (Sr36.num ((b.drop 4).take 4)) (Sr36.num ((b.drop 8).take 4))) else none := by
 have h1 : (b.head? = some 1 ∧ 16 ≤ b.length ∧ b.length = 16 + b.getD 3 0 ∧ b.getD 3 0 ≤ Sr36.MOST ∧ b.getD 1 0 < n ∧ b.getD 2 0 < n ∧ b.getD 1 0 ≠ b.getD 2 0 ∧ Sr36.num ((b.drop 8).take 4) ≤ Sr35.LAST ∧ Sr36.okNumber (Sr36.num ((b.drop 4).take 4)) = true ∧ Sr36.okNumber (Sr36.num ((b.drop 12).take 4)) = true) ↔ isPM n b = true := by
  unfold isPM isP
  rw [head_getD (by decide), okc_eq, okc_eq, Bool.and_eq_true, decide_eq_true_eq, decide_eq_true_eq]
  have e1 : Sr36.MOST = 48 := rfl
  have e2 : Sr35.LAST = 1000000 := rfl
  have e3 : (pOf b).data.length = b.length - 16 := List.length_drop
  constructor
  ·rintro ⟨a1, a2, a3, a4, a5, a6, a7, a8, a9, a10⟩
   exact ⟨⟨⟨a2, a3⟩, a1⟩, a5, a6, a7, by omega, a8, a9, a10⟩
  ·rintro ⟨⟨⟨a2, a3⟩, a1⟩, a5, a6, a7, a4, a8, a9, a10⟩
   exact ⟨a1, a2, a3, by omega, a5, a6, a7, a8, a9, a10⟩
 have h2 : (b.length = 12 ∧ b.head? = some 2 ∧ b.getD 1 0 < n ∧ b.getD 2 0 = 0 ∧ b.getD 3 0 = 0 ∧ Sr36.okNumber (Sr36.num ((b.drop 4).take 4)) = true ∧ Sr36.okNumber (Sr36.num ((b.drop 8).take 4)) = true) ↔ isKM n b = true := by
  unfold isKM
  rw [head_getD (by decide), okc_eq, okc_eq, Bool.and_eq_true, Bool.and_eq_true, Bool.and_eq_true, decide_eq_true_eq, decide_eq_true_eq]
  constructor
  ·rintro ⟨a1, a2, a3, a4, a5, a6, a7⟩
   exact ⟨⟨a1, a2, a4, a5⟩, a3, a6, a7⟩
  ·rintro ⟨⟨a1, a2, a4, a5⟩, a3, a6, a7⟩
   exact ⟨a1, a2, a3, a4, a5, a6, a7⟩
 unfold Sr36.messageOf
 dsimp only
 by_cases c1 : isPM n b = true
 ·rw [if_pos c1, if_pos (h1.mpr c1)]
  rfl
 ·rw [if_neg c1, if_neg (fun z => c1 (h1.mp z))]
  by_cases c2 : isKM n b = true
  ·rw [if_pos c2, if_pos (h2.mpr c2)]
  ·rw [if_neg c2, if_neg (fun z => c2 (h2.mp z))]
theorem cut16 {b : List Nat} (h : 16 ≤ b.length) : cutV (nsV b) (some 16) none = nsV (b.drop 16) := by
 unfold cutV
 rw [show (some (16 : Int)) = some ((16 : Nat) : Int) from rfl, HT.sIx_nat, HT.sIx_none, nsV_len, Nat.min_eq_left h]
 unfold nsV
 rw [List.map_drop, List.take_of_length_le (by rw [List.length_drop, List.length_map]; exact Nat.le_refl _)]
def spPF (t : Adr) : Sp := fun vs H Q _ => ∃ (l pl dpl lp lo : Addr) (n : Nat) (b : List Nat), vs = [.ref l, .ref pl] ∧ H l = some (.lst (nsV b)) ∧ (∀ x ∈ b, x < 256) ∧ H pl = some (.ins t.c_Plan dpl (fPlan n lp lo)) ∧ (isPM n b = false → ∀ H', Same H H' → Q .non H') ∧
 (isPM n b = true → ∀ (H' : Hp) (p dx d : Addr), Same H H' → H p = none → H d = none → H' p = some (.ins t.c_Parcel dx (fParcel (pOf b).source (pOf b).number (pOf b).to_ (pOf b).end_ d (lOf b) 0)) → H' d = some (.lst (nsV (pOf b).data)) → Q (.ref p) H')
theorem ok_parcel_from (T : Tx K mg t) : FnOk P w K mg base CX0 3 t.f_parcel_from t.d_parcel_from ["message", "plan"] (spPF t) := by
 have G_has_parcel_size : FnOk P w K mg base CX0 1 t.f_has_parcel_size t.d_has_parcel_size ["message"] spSize := ok_has_parcel_size T
 have G_number_at : FnOk P w K mg base CX0 1 t.f_number_at t.d_number_at ["message", "place"] spNum := ok_number_at T
 have G_Parcel_init : FnOk P w K mg base CX0 1 t.f_Parcel_init t.d_Parcel_init ["self", "source", "number", "to", "end", "data", "leg"] (spParcel_init t) := ok_Parcel_init T
 have G_is_parcel : FnOk P w K mg base CX0 2 t.f_is_parcel t.d_is_parcel ["parcel", "plan"] (spIs_parcel t) := ok_is_parcel T
 refine T.fn_parcel_from.ok sc_parcel_from (fun vs H Q E h => ?_) (fun cdv A outer s H vs Q E hr h => ?_)
 ·obtain ⟨l, pl, dpl, lp, lo, n, b, rfl, _⟩ := h
  rfl
 ·obtain ⟨l, pl, dpl, lp, lo, n, b, rfl, hl, hb, hpl, kn, ky⟩ := h
  have no : (¬ ((16 ≤ b.length ∧ b.length = 16 + b.getD 3 0) ∧ b.getD 0 0 = 1)) → Q .non H := fun z => kn (by unfold isPM; rw [decide_eq_false z, Bool.false_and]) H (Same.refl H)
  refine ⟨_, (pss_cons (ps_if (pw_or (pt_not (pt_val (pe_call G_has_parcel_size (hr.mono (by decide)) (by rfl) T.g_has_parcel_size T.kp_has_parcel_size T.bi_has_parcel_size .nil pass0 (pa_cons (pv 0) pa_nil)))) (pw_or1 (pt_cmpR op_ne (pe_ix ix_list (pv 0) pe_int (fun _ _ => rfl)) (pk (by rfl) T.k_KIND_PARCEL) (nomark _)))).pt (pss_one (ps_ret pe_non)) pss_nil)
   (pss_cons (ps_set (i := 2) sc_parcel_from.nd rfl (by first | exact Or.inl rfl | exact Or.inr rfl) (pe_slice sl_list (pv 0) (po_some (pk (by rfl) T.k_PARCEL_HEAD_SIZE)) po_none))
   (pss_cons (ps_set (i := 3) sc_parcel_from.nd rfl (by first | exact Or.inl rfl | exact Or.inr rfl) (pe_call G_number_at (hr.mono (by decide)) (by rfl) T.g_number_at T.kp_number_at T.bi_number_at .nil pass0 (pa_cons (pv 0) (pa_cons pe_int pa_nil))))
   (pss_cons (ps_set (i := 4) sc_parcel_from.nd rfl (by first | exact Or.inl rfl | exact Or.inr rfl) (pe_make T.mk_Parcel G_Parcel_init (hr.mono (by decide)) (by rfl) T.gC_Parcel T.bi_Parcel_init .nil pass0 (pa_cons (pe_ix ix_list (pv 0) pe_int (fun _ _ => rfl)) (pa_cons (pe_call G_number_at (hr.mono (by decide)) (by rfl) T.g_number_at T.kp_number_at T.bi_number_at .nil pass0 (pa_cons (pv 0) (pa_cons pe_int pa_nil))) (pa_cons (pe_ix ix_list (pv 0) pe_int (fun _ _ => rfl)) (pa_cons (pe_call G_number_at (hr.mono (by decide)) (by rfl) T.g_number_at T.kp_number_at T.bi_number_at .nil pass0 (pa_cons (pv 0) (pa_cons pe_int pa_nil))) (pa_cons (pv 2) (pa_cons (pv 3) pa_nil))))))))
   (pss_one (ps_ret (pe_ifExp (pt_val (pe_call G_is_parcel (hr.mono (by decide)) (by rfl) T.g_is_parcel T.kp_is_parcel T.bi_is_parcel .nil pass0 (pa_cons (pv 4) (pa_cons (pv 1) pa_nil)))) (pv 4) pe_non))))))), ?_⟩
  refine ⟨_, rfl, l, b, rfl, hl, _, rfl, ite2 (fun c => ?_) (fun c1 => ?_)⟩
  ·rw [Bool.not_eq_true', decide_eq_false_iff_not] at c
   exact iteT (no fun z => c z.1)
  rw [Bool.not_eq_true', decide_eq_false_iff_not, Classical.not_not] at c1
  refine ⟨_, rfl, l, _, (0 : Nat), _, rfl, rfl, SqL.of hl, atI_nat (nsV_get (i := 0) (by omega)), rfl, _, rfl, ite2 (fun c => ?_) (fun c2 => ?_)⟩
  ·rw [dI, Bool.not_eq_true', decide_eq_false_iff_not] at c
   have c : ¬ ((b.getD 0 0 : Nat) : Int) = 1 := c
   exact no fun z => c (by rw [z.2]; rfl)
  rw [dI, Bool.not_eq_true', decide_eq_false_iff_not, Classical.not_not] at c2
  have c2 : ((b.getD 0 0 : Nat) : Int) = 1 := c2
  refine ⟨_, rfl, _, rfl, l, _, rfl, SqL.of hl, fun ld hld => ?_⟩
  rw [cut16 c1.1]
  have s1 := same_fresh (o := .lst (nsV (b.drop 16))) hld
  generalize hH1 : upd H ld _ = H1 at s1
  have hd1 : H1 ld = some (.lst (nsV (b.drop 16))) := by rw [← hH1]; exact upd_same
  refine ⟨_, rfl, l, 12, b, rfl, s1 _ _ hl, by omega, hb, fun H2 s2 => ?_⟩
  have hl2 := s2 _ _ (s1 _ _ hl)
  refine ⟨_, rfl, l, _, (1 : Nat), _, rfl, rfl, SqL.of hl2, atI_nat (nsV_get (i := 1) (by omega)), _, rfl, l, 4, b, rfl, hl2, by omega, hb, fun H3 s3 => ?_⟩
  have hl3 := s3 _ _ hl2
  refine ⟨_, rfl, l, _, (2 : Nat), _, rfl, rfl, SqL.of hl3, atI_nat (nsV_get (i := 2) (by omega)), _, rfl, l, 8, b, rfl, hl3, by omega, hb, fun H4 s4 => ?_⟩
  have sA : Same H H4 := ((s1.trans s2).trans s3).trans s4
  refine ⟨_, rfl, _, rfl, fun p dx hp hdx hne => ⟨p, dx, ld, _, _, _, _, _, rfl, upd_same, rfl, ?_⟩⟩
  rw [upd_upd]
  have s5 : Same H4 (upd (upd H4 dx (.own p)) p (.ins t.c_Parcel dx (fParcel (pOf b).source (pOf b).number (pOf b).to_ (pOf b).end_ ld (lOf b) 0))) := same_over (same_fresh hdx) hp
  have hp5 : (upd (upd H4 dx (.own p)) p (.ins t.c_Parcel dx (fParcel (pOf b).source (pOf b).number (pOf b).to_ (pOf b).end_ ld (lOf b) 0))) p = some (.ins t.c_Parcel dx (fParcel (pOf b).source (pOf b).number (pOf b).to_ (pOf b).end_ ld (lOf b) 0)) := upd_same
  have hd5 := s5 _ _ (s4 _ _ (s3 _ _ (s2 _ _ hd1)))
  have hp0 : H p = none := sA.free hp
  refine ⟨_, rfl, _, rfl, p, pl, dpl, lp, lo, n, 0, lOf b, pOf b, rfl, ⟨dx, ld, hp5, hd5⟩, s5 _ _ (sA _ _ hpl), _, rfl, ite2 (fun c => ?_) (fun c => ?_)⟩
  ·refine ⟨_, rfl, ky ?_ _ p dx ld (sA.trans s5) hp0 hld hp5 hd5⟩
   unfold isPM
   rw [c, Bool.and_true]
   exact decide_eq_true ⟨c1, by omega⟩
  ·refine kn ?_ _ (sA.trans s5)
   unfold isPM
   rw [Bool.eq_false_iff.mpr c, Bool.and_false]
def spKF (t : Adr) : Sp := fun vs H Q _ => ∃ (l pl dpl lp lo : Addr) (n : Nat) (b : List Nat), vs = [.ref l, .ref pl] ∧ H l = some (.lst (nsV b)) ∧ (∀ x ∈ b, x < 256) ∧ H pl = some (.ins t.c_Plan dpl (fPlan n lp lo)) ∧ (isKM n b = false → ∀ H', Same H H' → Q .non H') ∧
 (isKM n b = true → ∀ (H' : Hp) (p dx : Addr), Same H H' → H' p = some (.ins t.c_Kept dx (fKept (b.getD 1 0 : Nat) (Sr36.num ((b.drop 4).take 4) : Nat) (Sr36.num ((b.drop 8).take 4) : Nat))) → Q (.ref p) H')
theorem ok_kept_from (T : Tx K mg t) : FnOk P w K mg base CX0 3 t.f_kept_from t.d_kept_from ["message", "plan"] (spKF t) := by
 have G_number_at : FnOk P w K mg base CX0 1 t.f_number_at t.d_number_at ["message", "place"] spNum := ok_number_at T
 have G_Kept_init : FnOk P w K mg base CX0 1 t.f_Kept_init t.d_Kept_init ["self", "source", "number", "leg"] (spKept_init t) := ok_Kept_init T
 have G_Plan_has_node : FnOk P w K mg base CX0 1 t.f_Plan_has_node t.d_Plan_has_node ["self", "node"] (spHas t) := ok_Plan_has_node T
 have G_is_count : FnOk P w K mg base CX0 1 t.f_is_count t.d_is_count ["number"] spCount := ok_is_count T
 refine T.fn_kept_from.ok sc_kept_from (fun vs H Q E h => ?_) (fun cdv A outer s H vs Q E hr h => ?_)
 ·obtain ⟨l, pl, dpl, lp, lo, n, b, rfl, _⟩ := h
  rfl
 ·obtain ⟨l, pl, dpl, lp, lo, n, b, rfl, hl, hb, hpl, kn, ky⟩ := h
  have cl := T.cl_Kept
  have hS : SqL K H l (nsV b) := SqL.of hl
  have hn := nsV_len b
  have no : (¬ (b.length = 12 ∧ b.getD 0 0 = 2 ∧ b.getD 2 0 = 0 ∧ b.getD 3 0 = 0)) → Q .non H := fun z => kn (by unfold isKM; rw [decide_eq_false z, Bool.false_and]) H (Same.refl H)
  refine ⟨_, (pss_cons (ps_if (pw_or (pt_cmpR op_ne (pe_callB call_len_seq (by rfl) T.b_len bt_len (pa_cons (pv 0) pa_nil)) (pk (by rfl) T.k_KEPT_SIZE) (nomark _)) (pw_or (pt_cmpR op_ne (pe_ix ix_list (pv 0) pe_int (fun _ _ => rfl)) (pk (by rfl) T.k_KIND_KEPT) (nomark _)) (pw_or (pt_cmpR op_ne (pe_ix ix_list (pv 0) pe_int (fun _ _ => rfl)) pe_int (nomark _)) (pw_or1 (pt_cmpR op_ne (pe_ix ix_list (pv 0) pe_int (fun _ _ => rfl)) pe_int (nomark _)))))).pt (pss_one (ps_ret pe_non)) pss_nil)
   (pss_cons (ps_set (i := 2) sc_kept_from.nd rfl (by first | exact Or.inl rfl | exact Or.inr rfl) (pe_make T.mk_Kept G_Kept_init (hr.mono (by decide)) (by rfl) T.gC_Kept T.bi_Kept_init .nil pass0 (pa_cons (pe_ix ix_list (pv 0) pe_int (fun _ _ => rfl)) (pa_cons (pe_call G_number_at (hr.mono (by decide)) (by rfl) T.g_number_at T.kp_number_at T.bi_number_at .nil pass0 (pa_cons (pv 0) (pa_cons pe_int pa_nil))) (pa_cons (pe_call G_number_at (hr.mono (by decide)) (by rfl) T.g_number_at T.kp_number_at T.bi_number_at .nil pass0 (pa_cons (pv 0) (pa_cons pe_int pa_nil))) pa_nil)))))
   (pss_cons (ps_if (pw_and (pt_val (pe_meth (pv 1) T.cl_Plan T.me_Plan_has_node G_Plan_has_node (hr.mono (by decide)) T.bi_Plan_has_node .nil pass0 (pa_cons (pe_fld (pv 2) rfl) pa_nil))) (pw_and (pt_val (pe_call G_is_count (hr.mono (by decide)) (by rfl) T.g_is_count T.kp_is_count T.bi_is_count .nil pass0 (pa_cons (pe_fld (pv 2) rfl) pa_nil))) (pw_and1 (pt_val (pe_call G_is_count (hr.mono (by decide)) (by rfl) T.g_is_count T.kp_is_count T.bi_is_count .nil pass0 (pa_cons (pe_fld (pv 2) rfl) pa_nil)))))).pt (pss_one (ps_ret (pv 2))) pss_nil)
   (pss_one (ps_ret pe_non))))), ?_⟩
  refine ⟨_, rfl, l, _, rfl, .inl hS, rfl, _, rfl, ite2 (fun c => ?_) (fun c1 => ?_)⟩
  ·rw [dI, Bool.not_eq_true', decide_eq_false_iff_not] at c
   have c : ¬ (((nsV b).length : Nat) : Int) = 12 := c
   exact iteT (no fun z => c (by omega))
  rw [dI, Bool.not_eq_true', decide_eq_false_iff_not, Classical.not_not] at c1
  have c1 : (((nsV b).length : Nat) : Int) = 12 := c1
  refine ⟨_, rfl, l, _, (0 : Nat), _, rfl, rfl, hS, atI_nat (nsV_get (i := 0) (by omega)), rfl, _, rfl, ite2 (fun c => ?_) (fun c2 => ?_)⟩
  ·rw [dI, Bool.not_eq_true', decide_eq_false_iff_not] at c
   have c : ¬ ((b.getD 0 0 : Nat) : Int) = 2 := c
   exact iteT (no fun z => c (by rw [z.2.1]; rfl))
  rw [dI, Bool.not_eq_true', decide_eq_false_iff_not, Classical.not_not] at c2
  have c2 : ((b.getD 0 0 : Nat) : Int) = 2 := c2
  refine ⟨_, rfl, l, _, (2 : Nat), _, rfl, rfl, hS, atI_nat (nsV_get (i := 2) (by omega)), rfl, _, rfl, ite2 (fun c => ?_) (fun c3 => ?_)⟩
  ·rw [dI, Bool.not_eq_true', decide_eq_false_iff_not] at c
   have c : ¬ ((b.getD 2 0 : Nat) : Int) = 0 := c
   exact iteT (no fun z => c (by rw [z.2.2.1]; rfl))
  rw [dI, Bool.not_eq_true', decide_eq_false_iff_not, Classical.not_not] at c3
  have c3 : ((b.getD 2 0 : Nat) : Int) = 0 := c3
  refine ⟨_, rfl, l, _, (3 : Nat), _, rfl, rfl, hS, atI_nat (nsV_get (i := 3) (by omega)), rfl, _, rfl, ite2 (fun c => ?_) (fun c4 => ?_)⟩
  ·rw [dI, Bool.not_eq_true', decide_eq_false_iff_not] at c
   have c : ¬ ((b.getD 3 0 : Nat) : Int) = 0 := c
   exact no fun z => c (by rw [z.2.2.2]; rfl)
  rw [dI, Bool.not_eq_true', decide_eq_false_iff_not, Classical.not_not] at c4
  have c4 : ((b.getD 3 0 : Nat) : Int) = 0 := c4
  have e0 : decide (b.length = 12 ∧ b.getD 0 0 = 2 ∧ b.getD 2 0 = 0 ∧ b.getD 3 0 = 0) = true := decide_eq_true ⟨by omega, by omega, by omega, by omega⟩
  refine ⟨_, rfl, l, _, (1 : Nat), _, rfl, rfl, hS, atI_nat (nsV_get (i := 1) (by omega)), _, rfl, l, 4, b, rfl, hl, by omega, hb, fun H1 s1 => ?_⟩
  refine ⟨_, rfl, l, 8, b, rfl, s1 _ _ hl, by omega, hb, fun H2 s2 => fun p dx hp hdx hne => ⟨p, dx, _, _, _, rfl, upd_same, rfl, ?_⟩⟩
  rw [upd_upd]
  have s3 : Same H2 (upd (upd H2 dx (.own p)) p (.ins t.c_Kept dx (fKept (b.getD 1 0 : Nat) (Sr36.num ((b.drop 4).take 4) : Nat) (Sr36.num ((b.drop 8).take 4) : Nat)))) := same_over (same_fresh hdx) hp
  have hp3 : (upd (upd H2 dx (.own p)) p (.ins t.c_Kept dx (fKept (b.getD 1 0 : Nat) (Sr36.num ((b.drop 4).take 4) : Nat) (Sr36.num ((b.drop 8).take 4) : Nat)))) p = some (.ins t.c_Kept dx (fKept (b.getD 1 0 : Nat) (Sr36.num ((b.drop 4).take 4) : Nat) (Sr36.num ((b.drop 8).take 4) : Nat))) := upd_same
  have sA := (s1.trans s2).trans s3
  have hpl3 := sA _ _ hpl
  generalize upd (upd H2 dx (.own p)) p (.ins t.c_Kept dx (fKept (b.getD 1 0 : Nat) (Sr36.num ((b.drop 4).take 4) : Nat) (Sr36.num ((b.drop 8).take 4) : Nat))) = H3 at hp3 sA hpl3 ⊢
  refine ⟨_, rfl, pl, dpl, _, rfl, hpl3, rfl, _, rfl, p, _, dx, _, _, rfl, hp3, cl, T.na_Kept_source, rfl, pl, dpl, lp, lo, n, (b.getD 1 0 : Nat), rfl, hpl3, _, rfl, ite2 (fun d1 => ?_) (fun d1 => ?_)⟩
  ·have d1 : ((b.getD 1 0 : Nat) : Int) < (n : Int) := of_decide_eq_true d1
   have e1 : decide (b.getD 1 0 < n) = true := decide_eq_true (by omega)
   refine ⟨_, rfl, p, _, dx, _, _, rfl, hp3, cl, T.na_Kept_number, rfl, _, rfl, _, rfl, ite2 (fun d2 => ?_) (fun d2 => ?_)⟩
   ·refine ⟨_, rfl, p, _, dx, _, _, rfl, hp3, cl, T.na_Kept_leg, rfl, _, rfl, _, rfl, ite2 (fun d3 => ?_) (fun d3 => ?_)⟩
    ·refine ⟨_, rfl, ky ?_ _ p dx sA hp3⟩
     unfold isKM
     rw [e0, e1, d2, d3]
     rfl
    ·refine kn ?_ _ sA
     unfold isKM
     rw [Bool.eq_false_iff.mpr d3, Bool.and_false, Bool.and_false, Bool.and_false]
   ·refine iteF (kn ?_ _ sA)
    unfold isKM
    rw [Bool.eq_false_iff.mpr d2, Bool.false_and, Bool.and_false, Bool.and_false]
  ·have d1 : ¬ ((b.getD 1 0 : Nat) : Int) < (n : Int) := fun z => d1 (decide_eq_true z)
   refine iteF (kn ?_ _ sA)
   unfold isKM
   rw [decide_eq_false (show ¬ b.getD 1 0 < n by omega), Bool.false_and, Bool.and_false]
end
end Pp
end
section
namespace Pp
open PySem PySem.Spec PyProof.Rows L2
section
variable {P : Program} {w : World} {K : PySem.W.Frag} {mg : Str → Option Value} {base : Heap} {t : Adr}
theorem NodeAt.step {H H' : Hp} {nd : Addr} {N : NA} {Z Za Z' Za' : PZ} {a a' : Sr36.Abs} (h : NodeAt t H nd N Z Za a) (hk : ∀ b o, H b = some o → b ≠ N.hd → b ≠ N.ar → b ≠ N.kn → NPar t o → H' b = some o)
  (h1 : H' N.hd = some (.dT (kvsOf Z'))) (h2 : ParcelsAt t (hid N H') Z') (h3 : Z'.map (·.2) = a'.held) (h4 : H' N.ar = some (.lst (refs Za'))) (h5 : ParcelsAt t (hid N H') Za') (h6 : (Za'.map fun z => z.2.parcel) = a'.arrived)
  (h7 : H' N.kn = some (.dT (knsOf a'.knows))) (e1 : a'.plan = a.plan) (e2 : a'.me = a.me) (e3 : a'.now = a.now) (e4 : a'.own = a.own) : NodeAt t H' nd N Z' Za' a' := by
 obtain ⟨dx, hn⟩ := h.obj
 obtain ⟨ts, htl⟩ := h.tl
 have gk : ∀ b o, hid N H b = some o → (∀ kvs, o ≠ .dT kvs) → NPar t o → hid N H' b = some o := fun b o e n np => by
  obtain ⟨q1, q2, q3⟩ := hid_get e
  exact hid_of (hk b o q1 (ne_of q1 h.held (n _)) q2 (ne_of q1 h.kn (n _)) np) q2 q3
 refine ⟨⟨dx, ?_⟩, ?_, h1, h2, h3, h4, h5, h6, h7, h.hk, ⟨ts, ?_⟩, h.ta⟩
 ·rw [e2, e3, e4]
  exact hk _ _ hn (ne_of hn h.held (by intro q; cases q)) (ne_of hn h.arr (by intro q; cases q)) (ne_of hn h.kn (by intro q; cases q)) (np_head (by decide))
 ·rw [e1]
  exact h.gplan.keep (fun b d n lp lo e => gk _ _ e (fun _ q => by cases q) (np_head (by decide))) (fun b d k a c tk be en e => gk _ _ e (fun _ q => by cases q) (np_head (by decide))) fun b xs e => gk _ _ e (fun _ q => by cases q) np_lst
 ·exact hk _ _ htl (ne_of htl h.held (by intro q; cases q)) (Ne.symm h.ta) (ne_of htl h.kn (by intro q; cases q)) np_lst
theorem NodeAt.kz {H H' : Hp} {nd : Addr} {N : NA} {Z Za Y : PZ} {a : Sr36.Abs} (h : NodeAt t H nd N Z Za a) (hk : ∀ b o, H b = some o → b ≠ N.hd → b ≠ N.ar → b ≠ N.kn → H' b = some o) (hY : ParcelsAt t (hid N H) Y) : ParcelsAt t (hid N H') Y := fun z hz => by
 obtain ⟨dp, d, p1, p2⟩ := hY z hz
 have gk : ∀ b o, hid N H b = some o → (∀ kvs, o ≠ .dT kvs) → hid N H' b = some o := fun b o e n => by
  obtain ⟨q1, q2, q3⟩ := hid_get e
  exact hid_of (hk b o q1 (ne_of q1 h.held (n _)) q2 (ne_of q1 h.kn (n _))) q2 q3
 exact ⟨dp, d, gk _ _ p1 (fun _ q => by cases q), gk _ _ p2 (fun _ q => by cases q)⟩
theorem keep_foot {H H' : Hp} {nd : Addr} {N : NA} (hk : ∀ b o, H b = some o → b ≠ N.hd → b ≠ N.ar → b ≠ N.kn → NPar t o → H' b = some o) : NKeep t (foot nd N) H H' := fun b o e n np => by
 refine hk b o e (fun z => n ?_) (fun z => n ?_) (fun z => n ?_) np
 ·rw [z]; exact List.mem_cons_of_mem _ List.mem_cons_self
 ·rw [z]; exact List.mem_cons_of_mem _ (List.mem_cons_of_mem _ List.mem_cons_self)
 ·rw [z]; exact List.mem_cons_of_mem _ (List.mem_cons_of_mem _ (List.mem_cons_of_mem _ List.mem_cons_self))
theorem key_bool (s n s' n' : Nat) : decide (keyOf s n = keyOf s' n') = (s == s' && n == n') := by
 rw [Bool.eq_iff_iff]
 simp [keyOf_inj]
theorem known_has (L : List (Nat × Nat × Nat)) (s n : Nat) : (valV (knsOf L) (keyOf s n)).isSome = L.any fun z => z.1 == s && z.2.1 == n := by
 rw [← valV_any]
 unfold knsOf
 rw [List.any_map]
 congr 1
 funext z
 exact key_bool _ _ _ _
theorem held_has {Z : PZ} {L : List Sr36.Held} (he : Z.map (·.2) = L) (s n : Nat) : (valV (kvsOf Z) (keyOf s n)).isSome = L.any fun h => Sr36.isOne h.parcel s n := by
 rw [← valV_any, ← he]
 unfold kvsOf
 rw [List.any_map, List.any_map]
 congr 1
 funext z
 exact key_bool _ _ _ _
theorem held_at {Z : PZ} {s n : Nat} {v : V} (h : valV (kvsOf Z) (keyOf s n) = some v) : ∃ z ∈ Z, v = .ref z.1 ∧ z.2.parcel.source = s ∧ z.2.parcel.number = n := by
 unfold valV at h
 cases hf : (kvsOf Z).find? fun kv => decide (kv.1 = keyOf s n) with
 | none => rw [hf] at h; cases h
 | some kv =>
  rw [hf] at h
  have h1 : kv.1 = keyOf s n := by
   have := List.find?_some hf
   exact of_decide_eq_true this
  obtain ⟨z, hz, rfl⟩ := List.mem_map.mp (List.mem_of_find?_eq_some hf)
  exact ⟨z, hz, (Option.some.inj h).symm, keyOf_inj.mp h1⟩
theorem drop_held (Z : PZ) (s n : Nat) : dropK (kvsOf Z) (keyOf s n) = kvsOf (Z.filter fun z => !(Sr36.isOne z.2.parcel s n)) := by
 unfold dropK kvsOf
 rw [List.filter_map]
 congr 1
 refine List.filter_congr fun z _ => ?_
 show decide (keyOf z.2.parcel.source z.2.parcel.number ≠ keyOf s n) = !(z.2.parcel.source == s && z.2.parcel.number == n)
 rw [← key_bool, decide_not]
def arrA (a : Sr36.Abs) (y : Sr36.Parcel) : Bool × Sr36.Abs := if (a.knows.any fun z => z.1 == y.source && z.2.1 == y.number) = true then (true, a) else if Sr36.ARRIVED ≤ a.arrived.length ∨ Sr36.KNOWN ≤ a.knows.length then (false, a)
 else (true, { a with arrived := a.arrived ++ [y], knows := a.knows ++ [(y.source, y.number, y.end_)] })
def holdA (a : Sr36.Abs) (y : Sr36.Parcel) (leg : Nat) : Bool × Sr36.Abs := if (a.held.any fun h => Sr36.isOne h.parcel y.source y.number) = true then (true, { a with held := a.held.map fun h => if Sr36.isOne h.parcel y.source y.number then { h with leg := max h.leg leg } else h })
 else if Sr36.HELD ≤ a.held.length then (false, a) else (true, { a with held := a.held ++ [⟨y, leg, 0⟩] })
def takeA (a : Sr36.Abs) (y : Sr36.Parcel) (leg : Nat) : Bool × Sr36.Abs := if y.end_ < a.now ∨ (y.source = a.me ∧ a.own < y.number) then (false, a) else if y.to_ = a.me then arrA a y else holdA a y leg
theorem hears_eq (a : Sr36.Abs) (k : Nat) (x : Sr35.Pass) (y : Sr36.Parcel) (leg : Nat) : a.hears k x (.parcel y leg) = ((takeA a y leg).2, if (takeA a y leg).1 = true then a.answer k x y.source y.number leg else []) := by
 unfold takeA arrA holdA
 simp only [Sr36.Abs.hears]
 split
 ·rfl
 ·split
  ·split
   ·rfl
   ·split <;> rfl
  ·split
   ·rfl
   ·split <;> rfl
def inEnd (t : Adr) (nd : Addr) (N : NA) (H : Hp) (a' : Sr36.Abs) (p : Addr) (o : HO) (R : Hp → Prop) : Prop := ∀ (H' : Hp) (Z' Za' : PZ), NodeAt t H' nd N Z' Za' a' → H' p = some o → NKeep t (foot nd N) H H' → R H'
theorem inEnd.stay {H H' : Hp} {nd p : Addr} {o : HO} {N : NA} {Z Za : PZ} {a : Sr36.Abs} {R : Hp → Prop} (k : inEnd t nd N H a p o R) (hN : NodeAt t H nd N Z Za a) (hp : H p = some o) (s : Same H H') : R H' := k H' Z Za (hN.same s) (s _ _ hp) (NKeep.of_same s)
abbrev oPar (t : Adr) (dx d : Addr) (y : Sr36.Parcel) (leg : Nat) : HO := .ins t.c_Parcel dx (fParcel y.source y.number y.to_ y.end_ d leg ((0 : Nat) : Int))
def spArr (t : Adr) : Sp := fun vs H Q _ => ∃ (nd p dx d : Addr) (N : NA) (Z Za : PZ) (a : Sr36.Abs) (y : Sr36.Parcel) (leg : Nat), vs = [.ref nd, .ref p] ∧ NodeAt t H nd N Z Za a ∧ AInv a ∧ hid N H p = some (oPar t dx d y leg) ∧ hid N H d = some (.lst (nsV y.data)) ∧
 inEnd t nd N H (arrA a y).2 p (oPar t dx d y leg) (Q (.bl (arrA a y).1))
theorem ok_Node_take_as_arrived (T : Tx K mg t) : FnOk P w K mg base CX0 2 t.f_Node_take_as_arrived t.d_Node_take_as_arrived ["self", "parcel"] (spArr t) := by
 have G_key_of : FnOk P w K mg base CX0 1 t.f_key_of t.d_key_of ["parcel"] (spKey K) := ok_key_of T
 refine T.fn_Node_take_as_arrived.ok sc_Node_take_as_arrived (fun vs H Q E h => ?_) (fun cdv A outer s H vs Q E hr h => ?_)
 ·obtain ⟨nd, p, dx, d, N, Z, Za, a, y, leg, rfl, _⟩ := h
  rfl
 ·obtain ⟨nd, p, dx, d, N, Z, Za, a, y, leg, rfl, hN, hA, gp, gd, k⟩ := h
  have hu := hu_of hr
  have cl := T.cl_Node
  have clP := T.cl_Parcel
  obtain ⟨dn, hn⟩ := hN.obj
  have hp := hid_le _ _ gp
  have hal : (refs Za).length = a.arrived.length := by rw [← hN.ae]; unfold refs; rw [List.length_map, List.length_map]
  have hkl : (knsOf a.knows).length = a.knows.length := by unfold knsOf; rw [List.length_map]
  have b1 := hA.ab
  have b2 := hA.kb
  have x1 : Sr36.ARRIVED = 64 := rfl
  have x2 : Sr36.KNOWN = 256 := rfl
  refine ⟨_, (pss_cons (ps_set (i := 2) sc_Node_take_as_arrived.nd rfl (by first | exact Or.inl rfl | exact Or.inr rfl) (pe_call G_key_of (hr.mono (by decide)) (by rfl) T.g_key_of T.kp_key_of T.bi_key_of .nil pass0 (pa_cons (pv 1) pa_nil)))
   (pss_cons (ps_if (pt_cmp (pc_din hu (pv 2) (pe_fld (pv 0) rfl))) (pss_one (ps_ret pe_bl)) pss_nil)
   (pss_cons (ps_if (pw_or (pt_cmpR op_ge (pe_callB call_len_seq (by rfl) T.b_len bt_len (pa_cons (pe_fld (pv 0) rfl) pa_nil)) (pk (by rfl) T.k_MOST_ARRIVED) (nomark _)) (pw_or1 (pt_cmpR op_ge (pe_callB call_lenT (by rfl) T.b_len bt_len (pa_cons (pe_fld (pv 0) rfl) pa_nil)) (pk (by rfl) T.k_MOST_KNOWN) (nomark _)))).pt (pss_one (ps_ret pe_bl)) pss_nil)
   (pss_cons (ps_expr (pe_bm PySem.F.plainAttrs_list PySem.F.slot_list_append PySem.F.type_list_append mt_append (pe_fld (pv 0) rfl) (pa_cons (pv 1) pa_nil)))
   (pss_cons (ps_dput hu (pe_fld (pv 0) rfl) (pv 2) (pe_fld (pv 1) rfl) rfl)
   (pss_one (ps_ret pe_bl))))))), ?_⟩
  refine ⟨_, rfl, p, t.c_Parcel, dx, _, _, _, rfl, hp, clP, T.na_Parcel_source, T.na_Parcel_number, rfl, rfl, fun r hr0 => ?_⟩
  have s1 := same_fresh (o := .tup [.int (y.source : Int), .int (y.number : Int)]) hr0
  have ht1 : (upd H r (.tup [.int (y.source : Int), .int (y.number : Int)])) r = some (.tup [.int (y.source : Int), .int (y.number : Int)]) := upd_same
  generalize hH1 : upd H r (.tup [.int (y.source : Int), .int (y.number : Int)]) = H1 at s1 ht1 ⊢
  have hn1 := s1 _ _ hn
  have hN1 := hN.same s1
  refine ⟨_, rfl, _, rfl, nd, _, dn, _, _, rfl, hn1, cl, T.na_Node_known, rfl, N.kn, _, rfl, DGet.t (k := keyOf y.source y.number) hN1.kn ht1, _, rfl, ite2 (fun c => ?_) (fun c => ?_)⟩
  ·rw [known_has] at c
   unfold arrA at k
   rw [if_pos c] at k
   exact k.stay hN hp s1
  have hnone : valV (knsOf a.knows) (keyOf y.source y.number) = none := by
   cases hv : valV (knsOf a.knows) (keyOf y.source y.number) with
   | none => rfl
   | some v => rw [hv] at c; exact absurd rfl c
  rw [known_has] at c
  unfold arrA at k
  rw [if_neg c] at k
  refine ⟨_, rfl, nd, _, dn, _, _, rfl, hn1, cl, T.na_Node_arrived, rfl, N.ar, _, rfl, .inl (SqL.of hN1.arr), _, _, rfl, rfl, _, rfl, ite2 (fun c1 => ?_) (fun c1 => ?_)⟩
  ·have c1 : (64 : Int) ≤ (((refs Za).length : Nat) : Int) := of_decide_eq_true c1
   rw [if_pos (.inl (by omega))] at k
   exact iteT (k.stay hN hp s1)
  have c1 : ¬ (64 : Int) ≤ (((refs Za).length : Nat) : Int) := fun z => c1 (decide_eq_true z)
  refine ⟨_, rfl, nd, _, dn, _, _, rfl, hn1, cl, T.na_Node_known, rfl, N.kn, _, rfl, hN1.kn, _, _, rfl, rfl, _, rfl, ite2 (fun c2 => ?_) (fun c2 => ?_)⟩
  ·have c2 : (256 : Int) ≤ (((knsOf a.knows).length : Nat) : Int) := of_decide_eq_true c2
   rw [if_pos (.inr (by omega))] at k
   exact k.stay hN hp s1
  have c2 : ¬ (256 : Int) ≤ (((knsOf a.knows).length : Nat) : Int) := fun z => c2 (decide_eq_true z)
  rw [if_neg (fun z => z.elim (fun z => by omega) (fun z => by omega))] at k
  refine ⟨_, rfl, nd, _, dn, _, _, rfl, hn1, cl, T.na_Node_arrived, rfl, .inl ⟨rfl, _, SqL.of hN1.arr⟩, _, rfl, N.ar, _, _, rfl, rfl, hN1.arr, small_len (by omega), ?_⟩
  have hp1 := s1 _ _ hp
  have k2 : ∀ b o, H1 b = some o → b ≠ N.ar → (upd H1 N.ar (.lst (refs Za ++ [.ref p]))) b = some o := fun b o e ne => by rw [upd_ne ne]; exact e
  have ha2 : (upd H1 N.ar (.lst (refs Za ++ [.ref p]))) N.ar = some (.lst (refs Za ++ [.ref p])) := upd_same
  generalize upd H1 N.ar (.lst (refs Za ++ [.ref p])) = H2 at k2 ha2 ⊢
  have hn2 := k2 _ _ hn1 (ne_of hn1 hN1.arr (by intro q; cases q))
  have hp2 := k2 _ _ hp1 (ne_of hp1 hN1.arr (by intro q; cases q))
  have hkn2 := k2 _ _ hN1.kn (ne_of hN1.kn hN1.arr (by intro q; cases q))
  have ht2 := k2 _ _ ht1 (ne_of ht1 hN1.arr (by intro q; cases q))
  refine ⟨_, rfl, p, _, dx, _, _, rfl, hp2, clP, T.na_Parcel_end, rfl, _, rfl, nd, _, dn, _, _, rfl, hn2, cl, T.na_Node_known, rfl, _, rfl, N.kn, _, rfl, DPut.t (k := keyOf y.source y.number) hkn2 ht2 (small_len (by omega)), ?_⟩
  rw [putK_new _ hnone]
  have hk3 : ∀ b o, H b = some o → b ≠ N.hd → b ≠ N.ar → b ≠ N.kn → (upd H2 N.kn (.dT (knsOf a.knows ++ [(keyOf y.source y.number, V.int (y.end_ : Int))]))) b = some o := fun b o e _ n2 n3 => by rw [upd_ne n3]; exact k2 _ _ (s1 _ _ e) n2
  have hkn3 : (upd H2 N.kn (.dT (knsOf a.knows ++ [(keyOf y.source y.number, V.int (y.end_ : Int))]))) N.kn = some (.dT (knsOf (a.knows ++ [(y.source, y.number, y.end_)]))) := by
   rw [upd_same]
   unfold knsOf
   rw [List.map_append]
   rfl
  have har3 : (upd H2 N.kn (.dT (knsOf a.knows ++ [(keyOf y.source y.number, V.int (y.end_ : Int))]))) N.ar = some (.lst (refs (Za ++ [(p, ⟨y, leg, 0⟩)]))) := by
   rw [upd_ne (ne_of ha2 hkn2 (by intro q; cases q)), ha2]
   unfold refs
   rw [List.map_append]
   rfl
  have hhd3 : (upd H2 N.kn (.dT (knsOf a.knows ++ [(keyOf y.source y.number, V.int (y.end_ : Int))]))) N.hd = some (.dT (kvsOf Z)) := by
   rw [upd_ne hN.hk]
   exact k2 _ _ hN1.held (ne_of hN1.held hN1.arr (by intro q; cases q))
  generalize upd H2 N.kn (.dT (knsOf a.knows ++ [(keyOf y.source y.number, V.int (y.end_ : Int))])) = H3 at hk3 hkn3 har3 hhd3 ⊢
  have gk : ∀ b o, hid N H b = some o → (∀ kvs, o ≠ .dT kvs) → hid N H3 b = some o := fun b o e n => by
   obtain ⟨q1, q2, q3⟩ := hid_get e
   exact hid_of (hk3 b o q1 (ne_of q1 hN.held (n _)) q2 (ne_of q1 hN.kn (n _))) q2 q3
  have gp3 := gk _ _ gp fun _ q => by cases q
  have hN3 : NodeAt t H3 nd N Z (Za ++ [(p, ⟨y, leg, 0⟩)]) { a with arrived := a.arrived ++ [y], knows := a.knows ++ [(y.source, y.number, y.end_)] } := by
   refine hN.step (fun b o e n1 n2 n3 _ => hk3 b o e n1 n2 n3) hhd3 (hN.kz hk3 hN.ghz) hN.he har3 (fun z hz => ?_) (by rw [List.map_append, hN.ae]; rfl) hkn3 rfl rfl rfl rfl
   rcases List.mem_append.mp hz with hz | hz
   ·exact hN.kz hk3 hN.gaz z hz
   ·rcases List.mem_singleton.mp hz with rfl
    exact ⟨dx, d, gp3, gk _ _ gd fun _ q => by cases q⟩
  exact k H3 _ _ hN3 (hid_le _ _ gp3) (keep_foot fun b o e n1 n2 n3 _ => hk3 b o e n1 n2 n3)
theorem NodeAt.leg {H H' : Hp} {nd dz dd : Addr} {N : NA} {Z Za : PZ} {a : Sr36.Abs} {z : Addr × Sr36.Held} {lg : Nat} (h : NodeAt t H nd N Z Za a) (hA : AInv a) (hz : z ∈ Z) (gp : hid N H z.1 = some (.ins t.c_Parcel dz (fParcel z.2.parcel.source z.2.parcel.number z.2.parcel.to_ z.2.parcel.end_ dd z.2.leg z.2.waits)))
  (gd : hid N H dd = some (.lst (nsV z.2.parcel.data))) (hk : ∀ b o, H b = some o → b ≠ z.1 → H' b = some o) (hp' : H' z.1 = some (.ins t.c_Parcel dz (fParcel z.2.parcel.source z.2.parcel.number z.2.parcel.to_ z.2.parcel.end_ dd lg z.2.waits))) :
  NodeAt t H' nd N (Z.map fun g => if Sr36.isOne g.2.parcel z.2.parcel.source z.2.parcel.number then (g.1, { g.2 with leg := lg }) else g) Za { a with held := a.held.map fun g => if Sr36.isOne g.parcel z.2.parcel.source z.2.parcel.number then { g with leg := lg } else g } := by
 obtain ⟨hp, hza, hzt⟩ := hid_get gp
 have gk : ∀ b o, hid N H b = some o → b ≠ z.1 → hid N H' b = some o := fun b o e ne => let ⟨q1, q2, q3⟩ := hid_get e; hid_of (hk b o q1 ne) q2 q3
 have nz : ∀ {b o}, H b = some o → (∀ C d fs, o ≠ .ins C d fs) → b ≠ z.1 := fun e n => ne_of e hp (n _ _ _)
 refine h.step (fun b o e _ _ _ np => hk b o e fun q => ?_) ?_ (fun g hg => ?_) ?_ (hk _ _ h.arr (nz h.arr fun _ _ _ q => by cases q)) (fun g hg => ?_) h.ae (hk _ _ h.kn (nz h.kn fun _ _ _ q => by cases q)) rfl rfl rfl rfl
 ·subst q
  rw [hp] at e
  exact np _ _ _ _ _ _ _ _ (Option.some.inj e).symm
 ·rw [hk _ _ h.held (nz h.held fun _ _ _ q => by cases q)]
  unfold kvsOf
  rw [List.map_map]
  congr 2
  refine List.map_congr_left fun g _ => ?_
  show _ = (keyOf (if _ then _ else _ : Addr × Sr36.Held).2.parcel.source (if _ then _ else _ : Addr × Sr36.Held).2.parcel.number, V.ref (if _ then _ else _ : Addr × Sr36.Held).1)
  split <;> rfl
 ·obtain ⟨g, hg', rfl⟩ := List.mem_map.mp hg
  obtain ⟨dg, ddg, q1, q2⟩ := h.ghz g hg'
  by_cases c : Sr36.isOne g.2.parcel z.2.parcel.source z.2.parcel.number = true
  ·have c' := c
   unfold Sr36.isOne at c'
   rw [Bool.and_eq_true, beq_iff_eq, beq_iff_eq] at c'
   have e := key_unique h.he hA.keys hg' hz c'.1 c'.2
   subst e
   rw [if_pos c]
   exact ⟨dz, dd, hid_of hp' hza hzt, gk _ _ gd (nz (hid_le _ _ gd) fun _ _ _ q => by cases q)⟩
  ·rw [if_neg c]
   have hne : g.1 ≠ z.1 := fun q => by
    rw [q] at q1
    have := fParcel_inj (Option.some.inj (q1.symm.trans gp))
    refine c ?_
    unfold Sr36.isOne
    rw [Bool.and_eq_true, beq_iff_eq, beq_iff_eq]
    exact ⟨this.1, this.2.1⟩
   exact ⟨dg, ddg, gk _ _ q1 hne, gk _ _ q2 (nz (hid_le _ _ q2) fun _ _ _ q => by cases q)⟩
 ·show List.map (fun q : Addr × Sr36.Held => q.2) (List.map _ Z) = List.map _ a.held
  rw [← h.he, List.map_map, List.map_map]
  refine List.map_congr_left fun g _ => ?_
  show (if _ then _ else _ : Addr × Sr36.Held).2 = if _ then _ else _
  split <;> rfl
 ·obtain ⟨dg, ddg, q1, q2⟩ := h.gaz g hg
  have hne : g.1 ≠ z.1 := fun q => by
   rw [q] at q1
   have := (fParcel_inj (Option.some.inj (q1.symm.trans gp))).2.2
   have y1 := (hA.ap g.2.parcel (by rw [← h.ae]; exact List.mem_map.mpr ⟨g, hg, rfl⟩)).1
   have z1 := (hA.hp z.2 (by rw [← h.he]; exact List.mem_map.mpr ⟨z, hz, rfl⟩)).2.1
   omega
  exact ⟨dg, ddg, gk _ _ q1 hne, gk _ _ q2 (nz (hid_le _ _ q2) fun _ _ _ q => by cases q)⟩
def spHold (t : Adr) : Sp := fun vs H Q _ => ∃ (nd p dx d : Addr) (N : NA) (Z Za : PZ) (a : Sr36.Abs) (y : Sr36.Parcel) (leg : Nat), vs = [.ref nd, .ref p] ∧ NodeAt t H nd N Z Za a ∧ AInv a ∧ hid N H p = some (oPar t dx d y leg) ∧ hid N H d = some (.lst (nsV y.data)) ∧ (∀ z ∈ Z, z.1 ≠ p) ∧
 inEnd t nd N H (holdA a y leg).2 p (oPar t dx d y leg) (Q (.bl (holdA a y leg).1))
theorem ok_Node_take_to_hold (T : Tx K mg t) : FnOk P w K mg base CX0 2 t.f_Node_take_to_hold t.d_Node_take_to_hold ["self", "parcel"] (spHold t) := by
 have G_key_of : FnOk P w K mg base CX0 1 t.f_key_of t.d_key_of ["parcel"] (spKey K) := ok_key_of T
 refine T.fn_Node_take_to_hold.ok sc_Node_take_to_hold (fun vs H Q E h => ?_) (fun cdv A outer s H vs Q E hr h => ?_)
 ·obtain ⟨nd, p, dx, d, N, Z, Za, a, y, leg, rfl, _⟩ := h
  rfl
 ·obtain ⟨nd, p, dx, d, N, Z, Za, a, y, leg, rfl, hN, hA, gp, gd, hpz, k⟩ := h
  have hu := hu_of hr
  have cl := T.cl_Node
  have clP := T.cl_Parcel
  obtain ⟨dn, hn⟩ := hN.obj
  have hp := hid_le _ _ gp
  have hzl : Z.length = a.held.length := by rw [← hN.he, List.length_map]
  have hkl : (kvsOf Z).length = a.held.length := by unfold kvsOf; rw [List.length_map, hzl]
  have b1 := hA.hb
  have x1 : Sr36.HELD = 64 := rfl
  refine ⟨_, (pss_cons (ps_set (i := 2) sc_Node_take_to_hold.nd rfl (by first | exact Or.inl rfl | exact Or.inr rfl) (pe_call G_key_of (hr.mono (by decide)) (by rfl) T.g_key_of T.kp_key_of T.bi_key_of .nil pass0 (pa_cons (pv 1) pa_nil)))
   (pss_cons (ps_if (pt_cmp (pc_din hu (pv 2) (pe_fld (pv 0) rfl))) (pss_cons (ps_set (i := 3) sc_Node_take_to_hold.nd rfl (by first | exact Or.inl rfl | exact Or.inr rfl) (pe_dget hu (pe_fld (pv 0) rfl) (pv 2) (fun _ _ => rfl)))
   (pss_cons (ps_fld (pv 3) (pe_callB (call_max2 rfl) (by rfl) T.b_max bt_max (pa_cons (pe_fld (pv 3) rfl) (pa_cons (pe_fld (pv 1) rfl) pa_nil))) rfl)
   (pss_one (ps_ret pe_bl)))) pss_nil)
   (pss_cons (ps_if (pt_cmpR op_ge (pe_callB call_lenT (by rfl) T.b_len bt_len (pa_cons (pe_fld (pv 0) rfl) pa_nil)) (pk (by rfl) T.k_MOST_HELD) (nomark _)) (pss_one (ps_ret pe_bl)) pss_nil)
   (pss_cons (ps_dput hu (pe_fld (pv 0) rfl) (pv 2) (pv 1) rfl)
   (pss_one (ps_ret pe_bl)))))), ?_⟩
  refine ⟨_, rfl, p, t.c_Parcel, dx, _, _, _, rfl, hp, clP, T.na_Parcel_source, T.na_Parcel_number, rfl, rfl, fun r hr0 => ?_⟩
  have s1 := same_fresh (o := .tup [.int (y.source : Int), .int (y.number : Int)]) hr0
  have ht1 : (upd H r (.tup [.int (y.source : Int), .int (y.number : Int)])) r = some (.tup [.int (y.source : Int), .int (y.number : Int)]) := upd_same
  generalize hH1 : upd H r (.tup [.int (y.source : Int), .int (y.number : Int)]) = H1 at s1 ht1 ⊢
  have hn1 := s1 _ _ hn
  have hN1 := hN.same s1
  have hp1 := s1 _ _ hp
  have hg := DGet.t (k := keyOf y.source y.number) hN1.held ht1
  refine ⟨_, rfl, _, rfl, nd, _, dn, _, _, rfl, hn1, cl, T.na_Node_held, rfl, N.hd, _, rfl, hg, _, rfl, ite2 (fun c => ?_) (fun c => ?_)⟩
  ·cases hv : valV (kvsOf Z) (keyOf y.source y.number) with
   | none => rw [hv] at c; cases c
   | some v =>
    rw [held_has hN.he] at c
    unfold holdA at k
    rw [if_pos c] at k
    obtain ⟨z, hz, rfl, z1, z2⟩ := held_at hv
    obtain ⟨dz, dd, gz, gdd⟩ := hN1.ghz z hz
    have hz1 := hid_le _ _ gz
    rw [hv] at hg
    refine ⟨_, rfl, nd, _, dn, _, _, rfl, hn1, cl, T.na_Node_held, rfl, _, rfl, N.hd, _, rfl, hg, ?_⟩
    refine ⟨_, rfl, z.1, _, dz, _, _, rfl, hz1, clP, T.na_Parcel_leg, rfl, _, rfl, p, _, dx, _, _, rfl, hp1, clP, T.na_Parcel_leg, rfl, _, _, rfl, _, rfl, z.1, _, dz, _, rfl, hz1, clP, T.na_Parcel_leg, fl 7 rfl, ?_⟩
    have em : (if (leg : Int) > (z.2.leg : Int) then (leg : Int) else (z.2.leg : Int)) = ((max z.2.leg leg : Nat) : Int) := by
     rw [Nat.max_def]
     split <;> split <;> omega
    have hp2 : (upd H1 z.1 (.ins t.c_Parcel dz (putF "leg" (V.int (if (leg : Int) > (z.2.leg : Int) then (leg : Int) else (z.2.leg : Int))) (fParcel z.2.parcel.source z.2.parcel.number z.2.parcel.to_ z.2.parcel.end_ dd z.2.leg z.2.waits)))) z.1 = some (.ins t.c_Parcel dz (fParcel z.2.parcel.source z.2.parcel.number z.2.parcel.to_ z.2.parcel.end_ dd ((max z.2.leg leg : Nat) : Int) z.2.waits)) := by
     rw [upd_same, em]
     rfl
    have k2 : ∀ b o, H1 b = some o → b ≠ z.1 → (upd H1 z.1 (.ins t.c_Parcel dz (putF "leg" (V.int (if (leg : Int) > (z.2.leg : Int) then (leg : Int) else (z.2.leg : Int))) (fParcel z.2.parcel.source z.2.parcel.number z.2.parcel.to_ z.2.parcel.end_ dd z.2.leg z.2.waits)))) b = some o := fun b o e ne => by rw [upd_ne ne]; exact e
    have hN2 := hN1.leg hA hz gz gdd k2 hp2
    have ea : (a.held.map fun g => if Sr36.isOne g.parcel z.2.parcel.source z.2.parcel.number then { g with leg := max z.2.leg leg } else g) = a.held.map fun h => if Sr36.isOne h.parcel y.source y.number then { h with leg := max h.leg leg } else h := by
     rw [← hN.he, List.map_map, List.map_map]
     refine List.map_congr_left fun g hg => ?_
     show (if Sr36.isOne g.2.parcel z.2.parcel.source z.2.parcel.number = true then _ else _) = if Sr36.isOne g.2.parcel y.source y.number = true then _ else _
     rw [z1, z2]
     by_cases c : Sr36.isOne g.2.parcel y.source y.number = true
     ·rw [if_pos c, if_pos c]
      unfold Sr36.isOne at c
      rw [Bool.and_eq_true, beq_iff_eq, beq_iff_eq] at c
      rw [key_unique hN.he hA.keys hg hz (by rw [z1]; exact c.1) (by rw [z2]; exact c.2)]
     ·rw [if_neg c, if_neg c]
    rw [ea] at hN2
    refine k _ _ _ hN2 (k2 _ _ hp1 (Ne.symm (hpz z hz))) fun b o e _ np => k2 _ _ (s1 _ _ e) fun q => ?_
    subst q
    have := (s1 _ _ e).symm.trans hz1
    exact np _ _ _ _ _ _ _ _ (Option.some.inj this)
  have hnone : valV (kvsOf Z) (keyOf y.source y.number) = none := by
   cases hv : valV (kvsOf Z) (keyOf y.source y.number) with
   | none => rfl
   | some v => rw [hv] at c; exact absurd rfl c
  rw [held_has hN.he] at c
  unfold holdA at k
  rw [if_neg c] at k
  refine ⟨_, rfl, nd, _, dn, _, _, rfl, hn1, cl, T.na_Node_held, rfl, N.hd, _, rfl, hN1.held, _, _, rfl, rfl, _, rfl, ite2 (fun c1 => ?_) (fun c1 => ?_)⟩
  ·have c1 : (64 : Int) ≤ (((kvsOf Z).length : Nat) : Int) := of_decide_eq_true c1
   rw [if_pos (by omega)] at k
   exact k.stay hN hp s1
  have c1 : ¬ (64 : Int) ≤ (((kvsOf Z).length : Nat) : Int) := fun z => c1 (decide_eq_true z)
  rw [if_neg (by omega)] at k
  refine ⟨_, rfl, _, rfl, nd, _, dn, _, _, rfl, hn1, cl, T.na_Node_held, rfl, _, rfl, N.hd, _, rfl, DPut.t (k := keyOf y.source y.number) hN1.held ht1 (small_len (by omega)), ?_⟩
  rw [putK_new _ hnone]
  have hk3 : ∀ b o, H b = some o → b ≠ N.hd → b ≠ N.ar → b ≠ N.kn → (upd H1 N.hd (.dT (kvsOf Z ++ [(keyOf y.source y.number, V.ref p)]))) b = some o := fun b o e n1 _ _ => by rw [upd_ne n1]; exact s1 _ _ e
  have hhd3 : (upd H1 N.hd (.dT (kvsOf Z ++ [(keyOf y.source y.number, V.ref p)]))) N.hd = some (.dT (kvsOf (Z ++ [(p, ⟨y, leg, 0⟩)]))) := by
   rw [upd_same]
   unfold kvsOf
   rw [List.map_append]
   rfl
  have har3 : (upd H1 N.hd (.dT (kvsOf Z ++ [(keyOf y.source y.number, V.ref p)]))) N.ar = some (.lst (refs Za)) := by
   rw [upd_ne (ne_of hN1.arr hN1.held (by intro q; cases q))]
   exact hN1.arr
  have hkn3 : (upd H1 N.hd (.dT (kvsOf Z ++ [(keyOf y.source y.number, V.ref p)]))) N.kn = some (.dT (knsOf a.knows)) := by
   rw [upd_ne (Ne.symm hN.hk)]
   exact hN1.kn
  generalize upd H1 N.hd (.dT (kvsOf Z ++ [(keyOf y.source y.number, V.ref p)])) = H3 at hk3 hkn3 har3 hhd3 ⊢
  have gk : ∀ b o, hid N H b = some o → (∀ kvs, o ≠ .dT kvs) → hid N H3 b = some o := fun b o e n => by
   obtain ⟨q1, q2, q3⟩ := hid_get e
   exact hid_of (hk3 b o q1 (ne_of q1 hN.held (n _)) q2 (ne_of q1 hN.kn (n _))) q2 q3
  have gp3 := gk _ _ gp fun _ q => by cases q
  have hN3 : NodeAt t H3 nd N (Z ++ [(p, ⟨y, leg, 0⟩)]) Za { a with held := a.held ++ [⟨y, leg, 0⟩] } := by
   refine hN.step (fun b o e n1 n2 n3 _ => hk3 b o e n1 n2 n3) hhd3 (fun z hz => ?_) (by rw [List.map_append, hN.he]; rfl) har3 (hN.kz hk3 hN.gaz) hN.ae hkn3 rfl rfl rfl rfl
   rcases List.mem_append.mp hz with hz | hz
   ·exact hN.kz hk3 hN.ghz z hz
   ·rcases List.mem_singleton.mp hz with rfl
    exact ⟨dx, d, gp3, gk _ _ gd fun _ q => by cases q⟩
  exact k H3 _ _ hN3 (hid_le _ _ gp3) (keep_foot fun b o e n1 n2 n3 _ => hk3 b o e n1 n2 n3)
def spTake_in (t : Adr) : Sp := fun vs H Q _ => ∃ (nd p dx d : Addr) (N : NA) (Z Za : PZ) (a : Sr36.Abs) (y : Sr36.Parcel) (leg : Nat), vs = [.ref nd, .ref p] ∧ NodeAt t H nd N Z Za a ∧ AInv a ∧ hid N H p = some (oPar t dx d y leg) ∧ hid N H d = some (.lst (nsV y.data)) ∧ (∀ z ∈ Z, z.1 ≠ p) ∧
 inEnd t nd N H (takeA a y leg).2 p (oPar t dx d y leg) (Q (.bl (takeA a y leg).1))
theorem ok_Node_take_in (T : Tx K mg t) : FnOk P w K mg base CX0 3 t.f_Node_take_in t.d_Node_take_in ["self", "parcel"] (spTake_in t) := by
 have G_Node_take_as_arrived : FnOk P w K mg base CX0 2 t.f_Node_take_as_arrived t.d_Node_take_as_arrived ["self", "parcel"] (spArr t) := ok_Node_take_as_arrived T
 have G_Node_take_to_hold : FnOk P w K mg base CX0 2 t.f_Node_take_to_hold t.d_Node_take_to_hold ["self", "parcel"] (spHold t) := ok_Node_take_to_hold T
 refine T.fn_Node_take_in.ok sc_Node_take_in (fun vs H Q E h => ?_) (fun cdv A outer s H vs Q E hr h => ?_)
 ·obtain ⟨nd, p, dx, d, N, Z, Za, a, y, leg, rfl, _⟩ := h
  rfl
 ·obtain ⟨nd, p, dx, d, N, Z, Za, a, y, leg, rfl, hN, hA, gp, gd, hpz, k⟩ := h
  have cl := T.cl_Node
  have clP := T.cl_Parcel
  obtain ⟨dn, hn⟩ := hN.obj
  have hp := hid_le _ _ gp
  have no : (y.end_ < a.now ∨ (y.source = a.me ∧ a.own < y.number)) → Q (.bl false) H := fun z => by
   unfold takeA at k
   rw [if_pos z] at k
   exact k.stay hN hp (Same.refl H)
  refine ⟨_, (pss_cons (ps_if (pt_cmpR op_lt (pe_fld (pv 1) rfl) (pe_fld (pv 0) rfl) (nomark _)) (pss_one (ps_ret pe_bl)) pss_nil)
   (pss_cons (ps_if (pw_and (pt_cmpR op_eq (pe_fld (pv 1) rfl) (pe_fld (pv 0) rfl) (nomark _)) (pw_and1 (pt_cmpR op_gt (pe_fld (pv 1) rfl) (pe_fld (pv 0) rfl) (nomark _)))).pt (pss_one (ps_ret pe_bl)) pss_nil)
   (pss_cons (ps_if (pt_cmpR op_eq (pe_fld (pv 1) rfl) (pe_fld (pv 0) rfl) (nomark _)) (pss_one (ps_ret (pe_meth (pv 0) T.cl_Node T.me_Node_take_as_arrived G_Node_take_as_arrived (hr.mono (by decide)) T.bi_Node_take_as_arrived .nil pass0 (pa_cons (pv 1) pa_nil)))) pss_nil)
   (pss_one (ps_ret (pe_meth (pv 0) T.cl_Node T.me_Node_take_to_hold G_Node_take_to_hold (hr.mono (by decide)) T.bi_Node_take_to_hold .nil pass0 (pa_cons (pv 1) pa_nil))))))), ?_⟩
  refine ⟨_, rfl, p, _, dx, _, _, rfl, hp, clP, T.na_Parcel_end, rfl, _, rfl, nd, _, dn, _, _, rfl, hn, cl, T.na_Node_time, rfl, _, _, rfl, rfl, _, rfl, ite2 (fun c => ?_) (fun c1 => ?_)⟩
  ·have c : (y.end_ : Int) < (a.now : Int) := of_decide_eq_true c
   exact no (.inl (by omega))
  have c1 : ¬ (y.end_ : Int) < (a.now : Int) := fun z => c1 (decide_eq_true z)
  refine ⟨_, rfl, p, _, dx, _, _, rfl, hp, clP, T.na_Parcel_source, rfl, _, rfl, nd, _, dn, _, _, rfl, hn, cl, T.na_Node_me, rfl, rfl, _, rfl, ite2 (fun c2 => ?_) (fun c2 => ?_)⟩
  ·rw [dI, decide_eq_true_eq] at c2
   have c2 : (y.source : Int) = (a.me : Int) := c2
   refine ⟨_, rfl, p, _, dx, _, _, rfl, hp, clP, T.na_Parcel_number, rfl, _, rfl, nd, _, dn, _, _, rfl, hn, cl, T.na_Node_own_count, rfl, _, _, rfl, rfl, _, rfl, ite2 (fun c => ?_) (fun c3 => ?_)⟩
   ·have c : (a.own : Int) < (y.number : Int) := of_decide_eq_true c
    exact no (.inr ⟨by omega, by omega⟩)
   have c3 : ¬ (a.own : Int) < (y.number : Int) := fun z => c3 (decide_eq_true z)
   unfold takeA at k
   rw [if_neg (show ¬ (y.end_ < a.now ∨ (y.source = a.me ∧ a.own < y.number)) by omega)] at k
   refine ⟨_, rfl, p, _, dx, _, _, rfl, hp, clP, T.na_Parcel_to, rfl, _, rfl, nd, _, dn, _, _, rfl, hn, cl, T.na_Node_me, rfl, rfl, _, rfl, ite2 (fun c4 => ?_) (fun c4 => ?_)⟩
   ·rw [dI, decide_eq_true_eq] at c4
    have c4 : (y.to_ : Int) = (a.me : Int) := c4
    rw [if_pos (by omega)] at k
    exact ⟨_, rfl, nd, dn, _, rfl, hn, rfl, _, rfl, nd, p, dx, d, N, Z, Za, a, y, leg, rfl, hN, hA, gp, gd, k⟩
   ·rw [dI, decide_eq_true_eq] at c4
    have c4 : ¬ (y.to_ : Int) = (a.me : Int) := c4
    rw [if_neg (by omega)] at k
    exact ⟨_, rfl, nd, dn, _, rfl, hn, rfl, _, rfl, nd, p, dx, d, N, Z, Za, a, y, leg, rfl, hN, hA, gp, gd, hpz, k⟩
  ·rw [dI, decide_eq_true_eq] at c2
   have c2 : ¬ (y.source : Int) = (a.me : Int) := c2
   refine iteF ?_
   unfold takeA at k
   rw [if_neg (show ¬ (y.end_ < a.now ∨ (y.source = a.me ∧ a.own < y.number)) by omega)] at k
   refine ⟨_, rfl, p, _, dx, _, _, rfl, hp, clP, T.na_Parcel_to, rfl, _, rfl, nd, _, dn, _, _, rfl, hn, cl, T.na_Node_me, rfl, rfl, _, rfl, ite2 (fun c4 => ?_) (fun c4 => ?_)⟩
   ·rw [dI, decide_eq_true_eq] at c4
    have c4 : (y.to_ : Int) = (a.me : Int) := c4
    rw [if_pos (by omega)] at k
    exact ⟨_, rfl, nd, dn, _, rfl, hn, rfl, _, rfl, nd, p, dx, d, N, Z, Za, a, y, leg, rfl, hN, hA, gp, gd, k⟩
   ·rw [dI, decide_eq_true_eq] at c4
    have c4 : ¬ (y.to_ : Int) = (a.me : Int) := c4
    rw [if_neg (by omega)] at k
    exact ⟨_, rfl, nd, dn, _, rfl, hn, rfl, _, rfl, nd, p, dx, d, N, Z, Za, a, y, leg, rfl, hN, hA, gp, gd, hpz, k⟩
def keptA (a : Sr36.Abs) (s n leg : Nat) : Sr36.Abs := { a with held := a.held.filter fun h => !(Sr36.isOne h.parcel s n && h.leg + 1 == leg) }
def spHear_kept (t : Adr) : Sp := fun vs H Q _ => ∃ (nd p dx : Addr) (N : NA) (Z Za : PZ) (a : Sr36.Abs) (s n leg : Nat), vs = [.ref nd, .ref p] ∧ NodeAt t H nd N Z Za a ∧ AInv a ∧ H p = some (.ins t.c_Kept dx (fKept s n leg)) ∧
 ∀ (H' : Hp) (Z' Za' : PZ), NodeAt t H' nd N Z' Za' (keptA a s n leg) → NKeep t (foot nd N) H H' → Q .non H'
theorem ok_Node_hear_kept (T : Tx K mg t) : FnOk P w K mg base CX0 2 t.f_Node_hear_kept t.d_Node_hear_kept ["self", "kept"] (spHear_kept t) := by
 have G_key_of : FnOk P w K mg base CX0 1 t.f_key_of t.d_key_of ["parcel"] (spKey K) := ok_key_of T
 refine T.fn_Node_hear_kept.ok sc_Node_hear_kept (fun vs H Q E h => ?_) (fun cdv A outer s0 H vs Q E hr h => ?_)
 ·obtain ⟨nd, p, dx, N, Z, Za, a, s, n, leg, rfl, _⟩ := h
  rfl
 ·obtain ⟨nd, p, dx, N, Z, Za, a, s, n, leg, rfl, hN, hA, hp, k⟩ := h
  have hu := hu_of hr
  have cl := T.cl_Node
  have clP := T.cl_Parcel
  have clK := T.cl_Kept
  obtain ⟨dn, hn⟩ := hN.obj
  have no : ∀ {H' : Hp}, (∀ z ∈ Z, ¬ (z.2.parcel.source = s ∧ z.2.parcel.number = n ∧ z.2.leg + 1 = leg)) → Same H H' → Q .non H' := fun z s1 => by
   have e : keptA a s n leg = a := by
    unfold keptA
    have : (a.held.filter fun h => !(Sr36.isOne h.parcel s n && h.leg + 1 == leg)) = a.held := by
     rw [List.filter_eq_self]
     intro h hh
     rw [← hN.he] at hh
     obtain ⟨g, hg, rfl⟩ := List.mem_map.mp hh
     rw [Bool.not_eq_true', Bool.eq_false_iff]
     intro q
     unfold Sr36.isOne at q
     simp only [Bool.and_eq_true, beq_iff_eq] at q
     exact z g hg ⟨q.1.1, q.1.2, q.2⟩
    rw [this]
   rw [e] at k
   exact k _ Z Za (hN.same s1) (NKeep.of_same s1)
  refine ⟨_, (pss_cons (ps_set (i := 2) sc_Node_hear_kept.nd rfl (by first | exact Or.inl rfl | exact Or.inr rfl) (pe_call G_key_of (hr.mono (by decide)) (by rfl) T.g_key_of T.kp_key_of T.bi_key_of .nil pass0 (pa_cons (pv 1) pa_nil)))
   (pss_one (ps_if (pw_and (pt_cmp (pc_din hu (pv 2) (pe_fld (pv 0) rfl))) (pw_and1 (pt_cmpR op_eq (pe_op op_add (pe_fld (pe_dget hu (pe_fld (pv 0) rfl) (pv 2) (fun _ _ => rfl)) rfl) pe_int) (pe_fld (pv 1) rfl) (nomark _)))).pt (pss_one (ps_expr (pe_dpopT hu (pe_fld (pv 0) rfl) (pv 2) ⟨rfl, rfl, rfl, rfl⟩))) pss_nil))), ?_⟩
  refine ⟨_, rfl, p, t.c_Kept, dx, _, _, _, rfl, hp, clK, T.na_Kept_source, T.na_Kept_number, rfl, rfl, fun r hr0 => ?_⟩
  have s1 := same_fresh (o := .tup [.int (s : Int), .int (n : Int)]) hr0
  have ht1 : (upd H r (.tup [.int (s : Int), .int (n : Int)])) r = some (.tup [.int (s : Int), .int (n : Int)]) := upd_same
  generalize hH1 : upd H r (.tup [.int (s : Int), .int (n : Int)]) = H1 at s1 ht1 ⊢
  have hn1 := s1 _ _ hn
  have hN1 := hN.same s1
  have hp1 := s1 _ _ hp
  have hg := DGet.t (k := keyOf s n) hN1.held ht1
  refine ⟨_, rfl, _, rfl, nd, _, dn, _, _, rfl, hn1, cl, T.na_Node_held, rfl, N.hd, _, rfl, hg, _, rfl, ite2 (fun c => ?_) (fun c => ?_)⟩
  ·cases hv : valV (kvsOf Z) (keyOf s n) with
   | none => rw [hv] at c; cases c
   | some v =>
    obtain ⟨z, hz, rfl, z1, z2⟩ := held_at hv
    obtain ⟨dz, dd, gz, gdd⟩ := hN1.ghz z hz
    have hz1 := hid_le _ _ gz
    rw [hv] at hg
    refine ⟨_, rfl, nd, _, dn, _, _, rfl, hn1, cl, T.na_Node_held, rfl, _, rfl, N.hd, _, rfl, hg, z.1, _, dz, _, _, rfl, hz1, clP, T.na_Parcel_leg, rfl, _, _, rfl, rfl, _, rfl, p, _, dx, _, _, rfl, hp1, clK, T.na_Kept_leg, rfl, rfl, _, rfl, ite2 (fun c2 => ?_) (fun c2 => ?_)⟩
    ·rw [dI, decide_eq_true_eq] at c2
     have c2 : (z.2.leg : Int) + 1 = (leg : Int) := c2
     refine ⟨_, rfl, nd, _, dn, _, _, rfl, hn1, cl, T.na_Node_held, rfl, N.hd, rfl, .inr ⟨_, .inl hN1.held⟩, _, rfl, _, keyOf s n, r, _, hN1.held, rfl, ht1, hv, ?_⟩
     rw [drop_held]
     have hk3 : ∀ b o, H b = some o → b ≠ N.hd → b ≠ N.ar → b ≠ N.kn → (upd H1 N.hd (.dT (kvsOf (Z.filter fun z => !(Sr36.isOne z.2.parcel s n))))) b = some o := fun b o e n1 _ _ => by rw [upd_ne n1]; exact s1 _ _ e
     have har3 : (upd H1 N.hd (.dT (kvsOf (Z.filter fun z => !(Sr36.isOne z.2.parcel s n))))) N.ar = some (.lst (refs Za)) := by
      rw [upd_ne (ne_of hN1.arr hN1.held (by intro q; cases q))]
      exact hN1.arr
     have hkn3 : (upd H1 N.hd (.dT (kvsOf (Z.filter fun z => !(Sr36.isOne z.2.parcel s n))))) N.kn = some (.dT (knsOf a.knows)) := by
      rw [upd_ne (Ne.symm hN.hk)]
      exact hN1.kn
     have ef : (Z.filter fun z => !(Sr36.isOne z.2.parcel s n)).map (·.2) = (keptA a s n leg).held := by
      unfold keptA
      rw [← hN.he, List.filter_map]
      congr 1
      refine List.filter_congr fun g hg => ?_
      show (!(Sr36.isOne g.2.parcel s n)) = !(Sr36.isOne g.2.parcel s n && g.2.leg + 1 == leg)
      by_cases c : Sr36.isOne g.2.parcel s n = true
      ·have c' := c
       unfold Sr36.isOne at c'
       rw [Bool.and_eq_true, beq_iff_eq, beq_iff_eq] at c'
       have e := key_unique hN.he hA.keys hg hz (by rw [z1]; exact c'.1) (by rw [z2]; exact c'.2)
       subst e
       rw [c, show (g.2.leg + 1 == leg) = true from beq_iff_eq.mpr (by omega)]
       rfl
      ·rw [Bool.eq_false_iff.mpr c]
       rfl
     refine k _ _ Za (hN.step (fun b o e n1 n2 n3 _ => hk3 b o e n1 n2 n3) upd_same (fun g hg => hN.kz hk3 hN.ghz g (List.mem_filter.mp hg).1) ef har3 (hN.kz hk3 hN.gaz) hN.ae hkn3 rfl rfl rfl rfl) (keep_foot fun b o e n1 n2 n3 _ => hk3 b o e n1 n2 n3)
    ·rw [dI, decide_eq_true_eq] at c2
     have c2 : ¬ (z.2.leg : Int) + 1 = (leg : Int) := c2
     refine no (fun g hg q => ?_) s1
     have e := key_unique hN.he hA.keys hg hz (by rw [z1]; exact q.1) (by rw [z2]; exact q.2.1)
     subst e
     omega
  ·refine iteF (no (fun g hg q => c ?_) s1)
   rw [held_has hN.he, List.any_eq_true]
   refine ⟨g.2, by rw [← hN.he]; exact List.mem_map.mpr ⟨g, hg, rfl⟩, ?_⟩
   unfold Sr36.isOne
   rw [Bool.and_eq_true, beq_iff_eq, beq_iff_eq]
   exact ⟨q.1, q.2.1⟩
end
end Pp
end
section
namespace Pp
open PySem PySem.Spec PyProof.Rows L2
section
variable {P : Program} {w : World} {K : PySem.W.Frag} {mg : Str → Option Value} {base : Heap} {t : Adr}
theorem mine_jn (a : Sr36.Abs) (k : Nat) : (a.mine k).isSome = jn a.plan.list a.me k := by
 unfold Sr36.Abs.mine jn
 cases a.plan.list[k]? with
 | none => rfl
 | some x =>
  dsimp only
  unfold Sr35.other
  by_cases c1 : x.a = a.me
  ·rw [if_pos c1, decide_eq_true (Or.inl c1.symm)]
   rfl
  ·rw [if_neg c1]
   by_cases c2 : x.b = a.me
   ·rw [if_pos c2, decide_eq_true (Or.inr c2.symm)]
    rfl
   ·rw [if_neg c2, decide_eq_false (fun z => z.elim (fun q => c1 q.symm) (fun q => c2 q.symm))]
    rfl
theorem mine_at {a : Sr36.Abs} {k : Nat} {x : Sr35.Pass} (h : a.mine k = some x) : a.plan.list[k]? = some x := by
 unfold Sr36.Abs.mine at h
 cases hl : a.plan.list[k]? with
 | none => rw [hl] at h; cases h
 | some y =>
  rw [hl] at h
  dsimp only at h
  split at h
  ·exact h
  ·cases h
def spOwn (t : Adr) : Sp := fun vs H Q _ => ∃ (nd : Addr) (N : NA) (Z Za : PZ) (a : Sr36.Abs) (k : Nat), vs = [.ref nd, .int k] ∧ NodeAt t H nd N Z Za a ∧ AInv a ∧ (∀ x pa, a.mine k = some x → PassAt t H pa k x → Q (.ref pa) H) ∧ (a.mine k = none → Q .non H)
theorem ok_Node_own_pass (T : Tx K mg t) : FnOk P w K mg base CX0 1 t.f_Node_own_pass t.d_Node_own_pass ["self", "number"] (spOwn t) := by
 refine T.fn_Node_own_pass.ok sc_Node_own_pass (fun vs H Q E h => ?_) (fun cdv A outer s H vs Q E hr h => ?_)
 ·obtain ⟨nd, N, Z, Za, a, k, rfl, _⟩ := h
  rfl
 ·obtain ⟨nd, N, Z, Za, a, k, rfl, hN, hA, ky, kn⟩ := h
  have cl := T.cl_Node
  obtain ⟨dn, hn⟩ := hN.obj
  obtain ⟨dpl, lp, lo, hpl, hlo⟩ := hN.plan.obj
  obtain ⟨lm, hlm⟩ : ∃ lm, N.ls[a.me]? = some lm := ⟨_, List.getElem?_eq_getElem (by rw [hN.plan.len]; exact hA.me)⟩
  have hmine := hN.plan.of _ _ hlm
  refine ⟨_, (pss_cons (ps_for PassesOwn.never rfl (pi_list (pe_ix ix_list (pe_fld (pe_fld (pv 0) rfl) rfl) (pe_fld (pv 0) rfl) (fun _ _ => rfl))) (pg_name (i := 2) sc_Node_own_pass.nd rfl (by first | exact Or.inl rfl | exact Or.inr rfl)) (pss_one (ps_if (pt_cmpR op_eq (pe_fld (pv 2) rfl) (pv 1) (nomark _)) (pss_one (ps_ret (pv 2))) pss_nil)))
   (pss_one (ps_ret pe_non))), ?_⟩
  refine ⟨_, rfl, nd, _, dn, _, _, rfl, hn, cl, T.na_Node_plan, rfl, N.pl, _, dpl, _, _, rfl, hpl, T.cl_Plan, T.na_Plan_passes_of, rfl, _, rfl, nd, _, dn, _, _, rfl, hn, cl, T.na_Node_me, rfl, lo, _, _, V.ref lm, rfl, rfl, SqL.of hlo, atI_nat (by rw [List.getElem?_map, hlm]; rfl), lm, rfl, ⟨_, SqL.of hmine⟩,
   for_list (K := K) (a := lm) (xs := refsOf N.as (mineIx a.plan.list a.me)) (fun j σ H' => (∃ v2 : Option V, σ = [some (.ref nd), some (.int k), v2]) ∧ H' = H ∧ ∀ i, i < j → (mineIx a.plan.list a.me)[i]? ≠ some k) ⟨⟨none, rfl⟩, rfl, fun i h => by omega⟩ (fun j σ H' _ hI => by rw [hI.2.1]; exact SqL.of hmine) ?_ ?_⟩
  ·rintro j y σ H' hj ⟨⟨v2, rfl⟩, rfl, hno⟩
   unfold refsOf at hj
   rw [List.getElem?_map] at hj
   cases hi : (mineIx a.plan.list a.me)[j]? with
   | none => rw [hi] at hj; cases hj
   | some q =>
   rw [hi] at hj
   cases hj
   have hm := List.mem_filter.mp (List.mem_of_getElem? hi)
   have hql := List.mem_range.mp hm.1
   obtain ⟨x, hx⟩ : ∃ x, a.plan.list[q]? = some x := ⟨_, List.getElem?_eq_getElem hql⟩
   obtain ⟨pa, e1, e2, dp, hpa⟩ := hN.plan.pas.get hx
   subst e2
   refine ⟨_, rfl, _, _, dp, _, _, rfl, hpa, T.cl_Pass, T.na_Pass_number, rfl, _, rfl, rfl, _, rfl, ite2 (fun c => ?_) (fun c => ?_)⟩
   ·rw [dI, decide_eq_true_eq] at c
    have c : (q : Int) = (k : Int) := c
    have c : q = k := by omega
    subst c
    cases hmi : a.mine q with
    | none =>
     have := mine_jn a q
     rw [hmi, hm.2] at this
     cases this
    | some x' =>
     have := mine_at hmi
     rw [hx] at this
     cases this
     exact ⟨_, rfl, ky x _ hmi ⟨dp, hpa⟩⟩
   ·rw [dI, decide_eq_true_eq] at c
    have c : ¬ (q : Int) = (k : Int) := c
    refine ⟨⟨_, rfl⟩, rfl, fun i h e => ?_⟩
    rcases Nat.lt_or_ge i j with h2 | h2
    ·exact hno i h2 e
    ·have : i = j := by omega
     subst this
     rw [hi] at e
     have := Option.some.inj e
     omega
  ·rintro σ H' ⟨⟨v2, rfl⟩, rfl, hno⟩
   refine kn ?_
   cases hmi : a.mine k with
   | none => rfl
   | some x =>
    exfalso
    have h1 := mine_jn a k
    rw [hmi] at h1
    have h2 : k ∈ mineIx a.plan.list a.me := List.mem_filter.mpr ⟨List.mem_range.mpr (List.getElem?_eq_some_iff.mp (mine_at hmi)).1, h1.symm⟩
    obtain ⟨i, hi⟩ := List.getElem?_of_mem h2
    refine hno i ?_ hi
    unfold refsOf
    rw [List.length_map]
    exact (List.getElem?_eq_some_iff.mp hi).1
theorem not_foot {H : Hp} {nd b : Addr} {N : NA} {Z Za : PZ} {a : Sr36.Abs} {o : HO} (hN : NodeAt t H nd N Z Za a) (h : H b = some o) (h1 : ∀ C d pl me ti ow hd ar kn, o ≠ .ins C d (fNode pl me ti ow hd ar kn)) (h2 : ∀ kvs, o ≠ .dT kvs) (h3 : b ≠ N.ar) : b ∉ foot nd N := fun q => by
 obtain ⟨dn, hn⟩ := hN.obj
 rcases List.mem_cons.mp q with z | q
 ·exact ne_of h hn (h1 _ _ _ _ _ _ _ _ _) z
 rcases List.mem_cons.mp q with z | q
 ·exact ne_of h hN.held (h2 _) z
 rcases List.mem_cons.mp q with z | q
 ·exact h3 z
 rcases List.mem_cons.mp q with z | q
 ·exact ne_of h hN.kn (h2 _) z
 cases q
theorem NKeep.pass {H H' : Hp} {nd pa : Addr} {N : NA} {Z Za : PZ} {a : Sr36.Abs} {k : Nat} {x : Sr35.Pass} (kk : NKeep t (foot nd N) H H') (hN : NodeAt t H nd N Z Za a) (h : PassAt t H pa k x) : PassAt t H' pa k x := by
 obtain ⟨dp, h⟩ := h
 refine ⟨dp, kk _ _ h (not_foot hN h (fun _ _ _ _ _ _ _ _ _ q => ?_) (fun _ q => by cases q) (ne_of h hN.arr (by intro q; cases q))) (np_head (by decide))⟩
 injection q with _ _ q
 injection q with q _
 injection q with q _
 exact absurd q (by decide)
def evsOf (a : Sr36.Abs) (k : Nat) (x : Sr35.Pass) (y : Sr36.Parcel) (leg : Nat) : List Sr36.Ev := if (takeA a y leg).1 = true then a.answer k x y.source y.number leg else []
def spHear_parcel (t : Adr) : Sp := fun vs H Q _ => ∃ (nd pa p dx d : Addr) (N : NA) (Z Za : PZ) (a : Sr36.Abs) (k : Nat) (x : Sr35.Pass) (y : Sr36.Parcel) (leg : Nat), vs = [.ref nd, .ref pa, .ref p] ∧ NodeAt t H nd N Z Za a ∧ AInv a ∧ PassAt t H pa k x ∧ hid N H p = some (oPar t dx d y leg) ∧ hid N H d = some (.lst (nsV y.data)) ∧ (∀ z ∈ Z, z.1 ≠ p) ∧
 ∀ (H' : Hp) (Z' Za' : PZ) (l : Addr), NodeAt t H' nd N Z' Za' (takeA a y leg).2 → NKeep t (foot nd N) H H' → H' l = some (.lst (((evsOf a k x y leg).flatMap Sr36Neutral.told).map V.int)) → Q (.ref l) H'
theorem takeA_now (a : Sr36.Abs) (y : Sr36.Parcel) (leg : Nat) : (takeA a y leg).2.now = a.now := by
 unfold takeA arrA holdA
 split
 ·rfl
 ·split
  ·split
   ·rfl
   ·split <;> rfl
  ·split
   ·rfl
   ·split <;> rfl
theorem kept_len (s n leg : Nat) : (Sr36.bytesOf (.kept s n leg)).length = 12 := by
 unfold Sr36.bytesOf
 simp only [List.length_append, le_len, List.length_cons, List.length_nil]
theorem ok_Node_hear_parcel (T : Tx K mg t) : FnOk P w K mg base CX0 4 t.f_Node_hear_parcel t.d_Node_hear_parcel ["self", "by", "parcel"] (spHear_parcel t) := by
 have G_Node_take_in : FnOk P w K mg base CX0 3 t.f_Node_take_in t.d_Node_take_in ["self", "parcel"] (spTake_in t) := ok_Node_take_in T
 have G_Pass_is_open_at : FnOk P w K mg base CX0 1 t.f_Pass_is_open_at t.d_Pass_is_open_at ["self", "time"] (spPass_open t) := ok_Pass_is_open_at T
 have G_told_by : FnOk P w K mg base CX0 1 t.f_told_by t.d_told_by ["by", "message"] (spTold t) := ok_told_by T
 have G_kept_message : FnOk P w K mg base CX0 2 t.f_kept_message t.d_kept_message ["parcel"] (spKmsg t) := ok_kept_message T
 refine T.fn_Node_hear_parcel.ok sc_Node_hear_parcel (fun vs H Q E h => ?_) (fun cdv A outer s H vs Q E hr h => ?_)
 ·obtain ⟨nd, pa, p, dx, d, N, Z, Za, a, k, x, y, leg, rfl, _⟩ := h
  rfl
 ·obtain ⟨nd, pa, p, dx, d, N, Z, Za, a, k, x, y, leg, rfl, hN, hA, hpa, gp, gd, hpz, q⟩ := h
  have cl := T.cl_Node
  obtain ⟨dn, hn⟩ := hN.obj
  refine ⟨_, (pss_cons (ps_if (pw_and (pt_val (pe_meth (pv 0) T.cl_Node T.me_Node_take_in G_Node_take_in (hr.mono (by decide)) T.bi_Node_take_in .nil pass0 (pa_cons (pv 2) pa_nil))) (pw_and1 (pt_val (pe_meth (pv 1) T.cl_Pass T.me_Pass_is_open_at G_Pass_is_open_at (hr.mono (by decide)) T.bi_Pass_is_open_at .nil pass0 (pa_cons (pe_fld (pv 0) rfl) pa_nil))))).pt (pss_one (ps_ret (pe_call G_told_by (hr.mono (by decide)) (by rfl) T.g_told_by T.kp_told_by T.bi_told_by .nil pass0 (pa_cons (pv 1) (pa_cons (pe_call G_kept_message (hr.mono (by decide)) (by rfl) T.g_kept_message T.kp_kept_message T.bi_kept_message .nil pass0 (pa_cons (pv 2) pa_nil)) pa_nil))))) pss_nil)
   (pss_one (ps_ret (pe_lst pa_nil)))), ?_⟩
  refine ⟨_, rfl, nd, dn, _, rfl, hn, rfl, _, rfl, nd, p, dx, d, N, Z, Za, a, y, leg, rfl, hN, hA, gp, gd, hpz, fun H1 Z1 Za1 hN1 hp1 k1 => ⟨_, rfl, ite2 (fun c => ?_) (fun c => ?_)⟩⟩
  ·obtain ⟨dn1, hn1⟩ := hN1.obj
   obtain ⟨dp, hpa1⟩ := k1.pass hN hpa
   refine ⟨_, rfl, pa, dp, _, rfl, hpa1, rfl, _, rfl, nd, _, dn1, _, _, rfl, hn1, cl, T.na_Node_time, rfl, pa, dp, _, _, _, _, _, _, _, rfl, hpa1, _, rfl, ite2 (fun c2 => ?_) (fun c2 => ?_)⟩
   ·rw [decide_eq_true_eq, takeA_now] at c2
    refine ⟨_, rfl, _, rfl, p, dx, d, _, _, _, _, _, _, rfl, hp1, fun H2 lm s2 hm => ?_⟩
    refine ⟨pa, lm, k, x, _, rfl, ⟨dp, s2 _ _ hpa1⟩, hm, by rw [kept_len]; omega, fun H3 l3 s3 hl3 => ?_⟩
    refine q H3 Z1 Za1 l3 (hN1.same (s2.trans s3)) (k1.trans (NKeep.of_same (s2.trans s3))) ?_
    rw [hl3]
    unfold evsOf Sr36.Abs.answer
    have eo : Sr36.openAt x a.now = true := by
     unfold Sr36.openAt
     rw [Bool.and_eq_true, decide_eq_true_eq, decide_eq_true_eq]
     omega
    rw [if_pos c, if_pos eo]
    rw [List.flatMap_cons, List.flatMap_nil, List.append_nil, told_send, nsV_int]
    rfl
   ·rw [decide_eq_true_eq, takeA_now] at c2
    refine ⟨Nat.zero_le _, fun l hl => q _ Z1 Za1 l (hN1.same (same_fresh hl)) (k1.trans (NKeep.of_same (same_fresh hl))) ?_⟩
    rw [upd_same]
    unfold evsOf Sr36.Abs.answer
    have eo : ¬ Sr36.openAt x a.now = true := by
     unfold Sr36.openAt
     rw [Bool.and_eq_true, decide_eq_true_eq, decide_eq_true_eq]
     omega
    rw [if_pos c, if_neg eo]
    rfl
  ·refine iteF ⟨Nat.zero_le _, fun l hl => q _ Z1 Za1 l (hN1.same (same_fresh hl)) (k1.trans (NKeep.of_same (same_fresh hl))) ?_⟩
   rw [upd_same]
   unfold evsOf
   rw [if_neg c]
   rfl
def msgOpt (ys : List Nat) : Option (List Nat) := if ys.length ≤ 64 then some ys else none
theorem msg_bind (n : Nat) (b : List Nat) : (msgOpt b).bind (Sr36.messageOf n) = Sr36.messageOf n b := by
 unfold msgOpt
 by_cases c : b.length ≤ 64
 ·rw [if_pos c]
  rfl
 ·rw [if_neg c, msg_eq]
  have h1 : ¬ isPM n b = true := fun z => by
   unfold isPM isP at z
   rw [Bool.and_eq_true, decide_eq_true_eq, decide_eq_true_eq] at z
   have h := z.2.2.2.2.1
   have e3 : (pOf b).data.length = b.length - 16 := List.length_drop
   omega
  have h2 : ¬ isKM n b = true := fun z => by
   unfold isKM at z
   rw [Bool.and_eq_true, decide_eq_true_eq] at z
   have := z.1.1
   omega
  rw [if_neg h1, if_neg h2]
  rfl
def spHear (t : Adr) : Sp := fun vs H Q _ => ∃ (nd lm : Addr) (N : NA) (Z Za : PZ) (a : Sr36.Abs) (k : Nat) (b : List Nat), vs = [.ref nd, .int k, .ref lm] ∧ NodeAt t H nd N Z Za a ∧ AInv a ∧ H lm = some (.lst (nsV b)) ∧ lm ≠ N.ar ∧ lm ≠ N.tl ∧ (∀ x ∈ b, x < 256) ∧
 nodeEnd t nd N H (a.heard k (msgOpt b)).1 (Sr36Neutral.given (a.heard k (msgOpt b)).2.1 ++ (a.heard k (msgOpt b)).2.2.flatMap Sr36Neutral.told) Q
theorem ok_Node_hear (T : Tx K mg t) : FnOk P w K mg base CX0 5 t.f_Node_hear t.d_Node_hear ["self", "pass_number", "message"] (spHear t) := by
 have G_Node_own_pass : FnOk P w K mg base CX0 1 t.f_Node_own_pass t.d_Node_own_pass ["self", "number"] (spOwn t) := ok_Node_own_pass T
 have G_parcel_from : FnOk P w K mg base CX0 3 t.f_parcel_from t.d_parcel_from ["message", "plan"] (spPF t) := ok_parcel_from T
 have G_kept_from : FnOk P w K mg base CX0 3 t.f_kept_from t.d_kept_from ["message", "plan"] (spKF t) := ok_kept_from T
 have G_Node_hear_parcel : FnOk P w K mg base CX0 4 t.f_Node_hear_parcel t.d_Node_hear_parcel ["self", "by", "parcel"] (spHear_parcel t) := ok_Node_hear_parcel T
 have G_Node_hear_kept : FnOk P w K mg base CX0 2 t.f_Node_hear_kept t.d_Node_hear_kept ["self", "kept"] (spHear_kept t) := ok_Node_hear_kept T
 refine T.fn_Node_hear.ok sc_Node_hear (fun vs H Q E h => ?_) (fun cdv A outer s H vs Q E hr h => ?_)
 ·obtain ⟨nd, lm, N, Z, Za, a, k, b, rfl, _⟩ := h
  rfl
 ·obtain ⟨nd, lm, N, Z, Za, a, k, b, rfl, hN, hA, hm, hma, hmt, hb, q⟩ := h
  have cl := T.cl_Node
  obtain ⟨dn, hn⟩ := hN.obj
  obtain ⟨dpl, lp, lo, hpl, _⟩ := hN.plan.obj
  refine ⟨_, (pss_cons (ps_set (i := 3) sc_Node_hear.nd rfl (by first | exact Or.inl rfl | exact Or.inr rfl) (pe_meth (pv 0) T.cl_Node T.me_Node_own_pass G_Node_own_pass (hr.mono (by decide)) T.bi_Node_own_pass .nil pass0 (pa_cons (pv 1) pa_nil)))
   (pss_cons (ps_if (pt_cmp (pc_isN (pv 3))) (pss_one (ps_ret (pe_lst (pa_cons (pk (by rfl) T.k_NOT_AS_TOLD) pa_nil)))) pss_nil)
   (pss_cons (ps_set (i := 4) sc_Node_hear.nd rfl (by first | exact Or.inl rfl | exact Or.inr rfl) (pe_call G_parcel_from (hr.mono (by decide)) (by rfl) T.g_parcel_from T.kp_parcel_from T.bi_parcel_from .nil pass0 (pa_cons (pv 2) (pa_cons (pe_fld (pv 0) rfl) pa_nil))))
   (pss_cons (ps_if (pt_cmp (pc_notN (pv 4))) (pss_one (ps_ret (pe_op op_cat (pe_lst (pa_cons (pk (by rfl) T.k_DONE) pa_nil)) (pe_meth (pv 0) T.cl_Node T.me_Node_hear_parcel G_Node_hear_parcel (hr.mono (by decide)) T.bi_Node_hear_parcel .nil pass0 (pa_cons (pv 3) (pa_cons (pv 4) pa_nil)))))) pss_nil)
   (pss_cons (ps_set (i := 5) sc_Node_hear.nd rfl (by first | exact Or.inl rfl | exact Or.inr rfl) (pe_call G_kept_from (hr.mono (by decide)) (by rfl) T.g_kept_from T.kp_kept_from T.bi_kept_from .nil pass0 (pa_cons (pv 2) (pa_cons (pe_fld (pv 0) rfl) pa_nil))))
   (pss_cons (ps_if (pt_cmp (pc_isN (pv 5))) (pss_one (ps_ret (pe_lst (pa_cons (pk (by rfl) T.k_NO_MESSAGE) pa_nil)))) pss_nil)
   (pss_cons (ps_expr (pe_meth (pv 0) T.cl_Node T.me_Node_hear_kept G_Node_hear_kept (hr.mono (by decide)) T.bi_Node_hear_kept .nil pass0 (pa_cons (pv 5) pa_nil)))
   (pss_one (ps_ret (pe_lst (pa_cons (pk (by rfl) T.k_DONE) pa_nil))))))))))), ?_⟩
  refine ⟨_, rfl, nd, dn, _, rfl, hn, rfl, _, rfl, nd, N, Z, Za, a, k, rfl, hN, hA, fun x pa hx hpa => ?_, fun hx => ?_⟩
  rotate_left
  ·refine ⟨_, rfl, _, rfl, iteT ⟨(by show 1 ≤ sizeLine; decide), fun l hl => ?_⟩⟩
   unfold Sr36.Abs.heard at q
   rw [hx] at q
   exact nodeEnd.stay q hN (same_fresh hl) upd_same (hN.tl_ne hl)
  refine ⟨_, rfl, _, rfl, iteF ?_⟩
  unfold Sr36.Abs.heard at q
  rw [hx] at q
  dsimp only at q
  rw [msg_bind, msg_eq] at q
  refine ⟨_, rfl, _, rfl, nd, _, dn, _, _, rfl, hn, cl, T.na_Node_plan, rfl, lm, N.pl, dpl, lp, lo, a.plan.n, b, rfl, hm, hb, hpl, fun z H1 s1 => ?_, fun z H1 p dx d s1 hp0 hd0 hp1 hd1 => ?_⟩
  ·rw [if_neg (by rw [z]; exact Bool.false_ne_true)] at q
   refine ⟨_, rfl, _, rfl, iteF ?_⟩
   have hN1 := hN.same s1
   refine ⟨_, rfl, _, rfl, nd, _, dn, _, _, rfl, s1 _ _ hn, cl, T.na_Node_plan, rfl, lm, N.pl, dpl, lp, lo, a.plan.n, b, rfl, s1 _ _ hm, hb, s1 _ _ hpl, fun z2 H2 s2 => ?_, fun z2 H2 p dx s2 hp2 => ?_⟩
   ·rw [if_neg (by rw [z2]; exact Bool.false_ne_true)] at q
    have hN2 := hN1.same s2
    exact ⟨_, rfl, _, rfl, iteT ⟨(by show 1 ≤ sizeLine; decide), fun l hl => nodeEnd.stay q hN ((s1.trans s2).trans (same_fresh hl)) upd_same (hN2.tl_ne hl)⟩⟩
   ·rw [if_pos z2] at q
    have hN2 := hN1.same s2
    obtain ⟨dn2, hn2⟩ := hN2.obj
    refine ⟨_, rfl, _, rfl, iteF ?_⟩
    refine ⟨_, rfl, nd, dn2, _, rfl, hn2, rfl, _, rfl, nd, p, dx, N, Z, Za, a, _, _, _, rfl, hN2, hA, hp2, fun H3 Z3 Za3 hN3 k3 => ?_⟩
    exact ⟨(by show 1 ≤ sizeLine; decide), fun l hl => q _ l N Z3 Za3 (hN3.same (same_fresh hl)) upd_same (hN3.tl_ne hl) (((NKeep.of_same (s1.trans s2)).trans k3).trans (NKeep.of_same (same_fresh hl))) Fresh.refl rfl⟩
  ·rw [if_pos z] at q
   dsimp only at q
   rw [hears_eq] at q
   refine ⟨_, rfl, _, rfl, iteT ?_⟩
   have hN1 := hN.same s1
   refine ⟨(by show 1 ≤ sizeLine; decide), fun l0 hl0 => ?_⟩
   have s2 := same_fresh (o := .lst [V.int 0]) hl0
   have h0 : (upd H1 l0 (.lst [V.int 0])) l0 = some (.lst [V.int 0]) := upd_same
   generalize upd H1 l0 (.lst [V.int 0]) = H2 at s2 h0 ⊢
   have hN2 := hN1.same s2
   obtain ⟨dn2, hn2⟩ := hN2.obj
   have sA := s1.trans s2
   obtain ⟨ts, htl⟩ := hN.tl
   have gp2 : hid N H2 p = some (oPar t dx d (pOf b) (lOf b)) := hid_of (s2 _ _ hp1) (Ne.symm (ne_of_none hN.arr hp0)) (Ne.symm (ne_of_none htl hp0))
   have gd2 : hid N H2 d = some (.lst (nsV (pOf b).data)) := hid_of (s2 _ _ hd1) (Ne.symm (ne_of_none hN.arr hd0)) (Ne.symm (ne_of_none htl hd0))
   have hpa2 : PassAt t H2 pa k x := let ⟨dp, h⟩ := hpa; ⟨dp, sA _ _ h⟩
   have hpz : ∀ z ∈ Z, z.1 ≠ p := fun z hz => by
    obtain ⟨dz, dd, h1, _⟩ := hN.hz z hz
    exact ne_of_none h1 hp0
   refine ⟨_, rfl, nd, dn2, _, rfl, hn2, rfl, _, rfl, _, rfl, nd, pa, p, dx, d, N, Z, Za, a, k, x, pOf b, lOf b, rfl, hN2, hA, hpa2, gp2, gd2, hpz, fun H3 Z3 Za3 l3 hN3 k3 hl3 => ?_⟩
   have h03 : H3 l0 = some (.lst [V.int 0]) := k3 _ _ h0 (not_foot hN2 h0 (fun _ _ _ _ _ _ _ _ _ q => by cases q) (fun _ q => by cases q) (Ne.symm (ne_of_none hN1.arr hl0))) np_lst
   refine ⟨l0, l3, _, _, rfl, rfl, h03, hl3, ?_, fun l4 hl4 => ?_⟩
   ·rw [List.length_map]
    have : ((evsOf a k x (pOf b) (lOf b)).flatMap Sr36Neutral.told).length ≤ 14 := by
     unfold evsOf Sr36.Abs.answer
     split
     ·split
      ·rw [List.flatMap_cons, List.flatMap_nil, List.append_nil, told_send, List.length_cons, List.length_cons, List.length_map, kept_len]
       exact Nat.le_refl _
      ·exact Nat.zero_le _
     ·exact Nat.zero_le _
    show 1 + _ ≤ sizeLine
    exact small_le (by omega)
   ·refine q _ l4 N Z3 Za3 (hN3.same (same_fresh hl4)) ?_ (hN3.tl_ne hl4) (((NKeep.of_same sA).trans k3).trans (NKeep.of_same (same_fresh hl4))) Fresh.refl rfl
    rw [upd_same]
    show _ = some (HO.lst (([0] ++ _ : List Int).map V.int))
    rw [List.map_append]
    rfl
def spRead (t : Adr) : Sp := fun vs H Q _ => ∃ (nd : Addr) (N : NA) (Z Za : PZ) (a : Sr36.Abs), vs = [.ref nd] ∧ NodeAt t H nd N Z Za a ∧ AInv a ∧ nodeEnd t nd N H a.read.1 (Sr36Neutral.given a.read.2) Q
theorem ok_Node_read (T : Tx K mg t) : FnOk P w K mg base CX0 1 t.f_Node_read t.d_Node_read ["self"] (spRead t) := by
 refine T.fn_Node_read.ok sc_Node_read (fun vs H Q E h => ?_) (fun cdv A outer s H vs Q E hr h => ?_)
 ·obtain ⟨nd, N, Z, Za, a, rfl, _⟩ := h
  rfl
 ·obtain ⟨nd, N, Z, Za, a, rfl, hN, hA, q⟩ := h
  have cl := T.cl_Node
  have clP := T.cl_Parcel
  obtain ⟨dn, hn⟩ := hN.obj
  refine ⟨_, (pss_cons (ps_if (pt_not (pt_truth (pe_fld (pv 0) rfl) (fun _ => rfl))) (pss_one (ps_ret (pe_lst (pa_cons pe_int pa_nil)))) pss_nil)
   (pss_cons (ps_set (i := 1) sc_Node_read.nd rfl (by first | exact Or.inl rfl | exact Or.inr rfl) (pe_bm PySem.F.plainAttrs_list PySem.F.slot_list_pop PySem.F.type_list_pop mt_popAt (pe_fld (pv 0) rfl) (pa_cons pe_int pa_nil)))
   (pss_one (ps_ret (pe_op op_cat (pe_lst (pa_cons (pe_op op_add (pe_callB call_len_seq (by rfl) T.b_len bt_len (pa_cons (pe_fld (pv 1) rfl) pa_nil)) pe_int) (pa_cons (pe_fld (pv 1) rfl) (pa_cons (pe_fld (pv 1) rfl) (pa_cons (pe_fld (pv 1) rfl) pa_nil))))) (pe_fld (pv 1) rfl)))))), ?_⟩
  refine ⟨_, rfl, nd, _, dn, _, _, rfl, hn, cl, T.na_Node_arrived, rfl, _, .inl ⟨_, SqL.of hN.arr, rfl⟩, ite2 (fun c => ?_) (fun c => ?_)⟩
  ·have hZ : Za = [] := by
    cases Za with
    | nil => rfl
    | cons z Za => cases c
   subst hZ
   have ha : a.arrived = [] := hN.ae.symm
   unfold Sr36.Abs.read at q
   rw [ha] at q
   exact ⟨(by show 1 ≤ sizeLine; decide), fun l hl => nodeEnd.stay q hN (same_fresh hl) upd_same (hN.tl_ne hl)⟩
  cases Za with
  | nil => exact absurd rfl c
  | cons z Za =>
  have ha : a.arrived = z.2.parcel :: Za.map (fun z => z.2.parcel) := hN.ae.symm
  unfold Sr36.Abs.read at q
  rw [ha] at q
  obtain ⟨dz, dd, gz, gd⟩ := hN.gaz z List.mem_cons_self
  have hz := hid_le _ _ gz
  have hd := hid_le _ _ gd
  have hdl : z.2.parcel.data.length ≤ 48 := (hA.ap z.2.parcel (by rw [ha]; exact List.mem_cons_self)).2
  have hix : seqIndex? 0 (refs (z :: Za)).length = some 0 := by
   unfold seqIndex?
   have : (refs (z :: Za)).length = (refs Za).length + 1 := rfl
   rw [this]
   simp
  refine ⟨_, rfl, nd, _, dn, _, _, rfl, hn, cl, T.na_Node_arrived, rfl, .inl ⟨rfl, _, SqL.of hN.arr⟩, N.ar, _, 0, 0, V.ref z.1, rfl, rfl, hN.arr, by decide, by decide, hix, rfl, ?_⟩
  have k1 : ∀ b o, H b = some o → b ≠ N.ar → (upd H N.ar (.lst ((refs (z :: Za)).eraseIdx 0))) b = some o := fun b o e ne => by rw [upd_ne ne]; exact e
  have ha1 : (upd H N.ar (.lst ((refs (z :: Za)).eraseIdx 0))) N.ar = some (.lst (refs Za)) := upd_same
  generalize upd H N.ar (.lst ((refs (z :: Za)).eraseIdx 0)) = H1 at k1 ha1 ⊢
  have hz1 := k1 _ _ hz (hid_get gz).2.1
  have hd1 := k1 _ _ hd (hid_get gd).2.1
  have hk : ∀ b o, H b = some o → b ≠ N.hd → b ≠ N.ar → b ≠ N.kn → H1 b = some o := fun b o e _ n _ => k1 b o e n
  have hN1 : NodeAt t H1 nd N Z Za { a with arrived := Za.map fun z => z.2.parcel } := hN.step (fun b o e n1 n2 n3 _ => hk b o e n1 n2 n3) (k1 _ _ hN.held (ne_of hN.held hN.arr (by intro q; cases q))) (hN.kz hk hN.ghz) hN.he ha1 (hN.kz hk fun g hg => hN.gaz g (List.mem_cons_of_mem _ hg)) rfl (k1 _ _ hN.kn (ne_of hN.kn hN.arr (by intro q; cases q))) rfl rfl rfl rfl
  refine ⟨_, rfl, z.1, _, dz, _, _, rfl, hz1, clP, T.na_Parcel_data, rfl, dd, _, rfl, .inl (SqL.of hd1), _, _, rfl, rfl, _, rfl, z.1, _, dz, _, _, rfl, hz1, clP, T.na_Parcel_source, rfl, _, rfl, z.1, _, dz, _, _, rfl, hz1, clP, T.na_Parcel_number, rfl, _, rfl, z.1, _, dz, _, _, rfl, hz1, clP, T.na_Parcel_end, rfl, (by show 4 ≤ sizeLine; decide), fun l0 hl0 => ?_⟩
  have s2 := same_fresh (o := .lst [V.int ((((nsV z.2.parcel.data).length : Nat) : Int) + 1), V.int z.2.parcel.source, V.int z.2.parcel.number, V.int z.2.parcel.end_]) hl0
  refine ⟨_, rfl, z.1, _, dz, _, _, rfl, s2 _ _ hz1, clP, T.na_Parcel_data, rfl, l0, dd, _, _, rfl, rfl, upd_same, s2 _ _ hd1, ?_, fun l2 hl2 => ?_⟩
  ·rw [nsV_len]
   show 4 + _ ≤ sizeLine
   exact small_le (by omega)
  have sA := s2.trans (same_fresh (o := .lst ([V.int ((((nsV z.2.parcel.data).length : Nat) : Int) + 1), V.int z.2.parcel.source, V.int z.2.parcel.number, V.int z.2.parcel.end_] ++ nsV z.2.parcel.data)) hl2)
  refine q _ l2 N Z Za (hN1.same sA) ?_ ((hN1.same s2).tl_ne hl2) ((keep_foot fun b o e n1 n2 n3 _ => hk b o e n1 n2 n3).trans (NKeep.of_same sA)) Fresh.refl rfl
  rw [upd_same, nsV_len, nsV_int]
  show _ = some (HO.lst (([((z.2.parcel.data.length + 1 : Nat) : Int)] ++ ([(z.2.parcel.source : Int), (z.2.parcel.number : Int), (z.2.parcel.end_ : Int)] ++ Sr36Neutral.ints z.2.parcel.data)).map V.int))
  rw [List.map_append, List.map_append]
  rfl
def spState (t : Adr) : Sp := fun vs H Q _ => ∃ (nd : Addr) (N : NA) (Z Za : PZ) (a : Sr36.Abs), vs = [.ref nd] ∧ NodeAt t H nd N Z Za a ∧ nodeEnd t nd N H a [0, (a.now : Int), a.held.length, a.arrived.length, a.knows.length] Q
theorem ok_Node_state (T : Tx K mg t) : FnOk P w K mg base CX0 1 t.f_Node_state t.d_Node_state ["self"] (spState t) := by
 refine T.fn_Node_state.ok sc_Node_state (fun vs H Q E h => ?_) (fun cdv A outer s H vs Q E hr h => ?_)
 ·obtain ⟨nd, N, Z, Za, a, rfl, _⟩ := h
  rfl
 ·obtain ⟨nd, N, Z, Za, a, rfl, hN, q⟩ := h
  have cl := T.cl_Node
  obtain ⟨dn, hn⟩ := hN.obj
  have h1 : (kvsOf Z).length = a.held.length := by unfold kvsOf; rw [List.length_map, ← hN.he, List.length_map]
  have h2 : (refs Za).length = a.arrived.length := by rw [← hN.ae]; unfold refs; rw [List.length_map, List.length_map]
  have h3 : (knsOf a.knows).length = a.knows.length := by unfold knsOf; rw [List.length_map]
  refine ⟨_, (pss_one (ps_ret (pe_lst (pa_cons (pk (by rfl) T.k_DONE) (pa_cons (pe_fld (pv 0) rfl) (pa_cons (pe_callB call_lenT (by rfl) T.b_len bt_len (pa_cons (pe_fld (pv 0) rfl) pa_nil)) (pa_cons (pe_callB call_len_seq (by rfl) T.b_len bt_len (pa_cons (pe_fld (pv 0) rfl) pa_nil)) (pa_cons (pe_callB call_lenT (by rfl) T.b_len bt_len (pa_cons (pe_fld (pv 0) rfl) pa_nil)) pa_nil)))))))), ?_⟩
  refine ⟨_, rfl, nd, _, dn, _, _, rfl, hn, cl, T.na_Node_time, rfl, _, rfl, nd, _, dn, _, _, rfl, hn, cl, T.na_Node_held, rfl, N.hd, _, rfl, hN.held, _, rfl, nd, _, dn, _, _, rfl, hn, cl, T.na_Node_arrived, rfl, N.ar, _, rfl, .inl (SqL.of hN.arr), _, rfl, nd, _, dn, _, _, rfl, hn, cl, T.na_Node_known, rfl, N.kn, _, rfl, hN.kn, (by show 5 ≤ sizeLine; decide), fun l hl => ?_⟩
  refine nodeEnd.stay q hN (same_fresh hl) ?_ (hN.tl_ne hl)
  rw [upd_same, h1, h2, h3]
  rfl
end
end Pp
end
section
namespace Pp
open PySem PySem.Spec PyProof.Rows L2
def fLine (lc : Addr) (p : Int) (nv : V) : List (Str × V) := [("calls", .ref lc), ("place", .int p), ("node", nv)]
def CallsAt (K : PySem.W.Frag) (H : Hp) (lc : Addr) (L : List Int) : Prop := (∃ o, H lc = some (.frz o (.lst (L.map V.int)))) ∨ ∀ H' : Hp, SqL K H' lc (L.map V.int)
theorem CallsAt.sq {K : PySem.W.Frag} {H : Hp} {lc : Addr} {L : List Int} (h : CallsAt K H lc L) : SqL K H lc (L.map V.int) := by
 rcases h with ⟨o, h⟩ | h
 ·exact .inl (.inr ⟨o, h⟩)
 ·exact h H
theorem CallsAt.keep {K : PySem.W.Frag} {H H' : Hp} {lc : Addr} {L : List Int} (h : CallsAt K H lc L) (k : ∀ o u, H lc = some (.frz o u) → H' lc = some (.frz o u)) : CallsAt K H' lc L := by
 rcases h with ⟨o, h⟩ | h
 ·exact .inl ⟨o, k _ _ h⟩
 ·exact .inr h
theorem callsAt_of {K : PySem.W.Frag} {H : Hp} {lc : Addr} {L : List Int} (hO : OnlyF H) (h : SqL K H lc (L.map V.int)) : CallsAt K H lc L := by
 rcases h with h | h
 ·rcases h with h | ⟨o, h⟩
  ·rcases hO lc with q | ⟨o, u, q⟩
   ·rw [q] at h
    cases h
   ·rw [q] at h
    cases h
  ·exact .inl ⟨o, h⟩
 ·exact .inr fun _ => .inr h
theorem get_of_drop {α : Type} {L R : List α} {p : Nat} {x : α} (h : L.drop p = x :: R) : L[p]? = some x ∧ L.drop (p + 1) = R ∧ p < L.length := by
 have h1 : p < L.length := by
  rcases Nat.lt_or_ge p L.length with q | q
  ·exact q
  ·rw [List.drop_eq_nil_of_le q] at h
   cases h
 rw [List.drop_eq_getElem_cons h1] at h
 injection h with h2 h3
 exact ⟨by rw [List.getElem?_eq_getElem h1, h2], h3, h1⟩
section
variable {P : Program} {w : World} {K : PySem.W.Frag} {mg : Str → Option Value} {base : Heap} {t : Adr}
def spLine_init (t : Adr) : Sp := fun vs H Q _ => ∃ (ln dx lc : Addr), vs = [.ref ln, .ref lc] ∧ H ln = some (.ins t.c_Line dx []) ∧ Q .non (upd H ln (.ins t.c_Line dx (fLine lc 0 .non)))
theorem ok_Line_init (T : Tx K mg t) : FnOk P w K mg base CX0 1 t.f_Line_init t.d_Line_init ["self", "calls"] (spLine_init t) := by
 refine T.fn_Line_init.ok sc_Line_init (fun vs H Q E h => ?_) (fun cdv A outer s H vs Q E hr h => ?_)
 ·obtain ⟨ln, dx, lc, rfl, _⟩ := h
  rfl
 ·obtain ⟨ln, dx, lc, rfl, hl, q⟩ := h
  have cl := T.cl_Line
  refine ⟨_, (pss_cons (ps_fld (pv 0) (pv 1) rfl)
   (pss_cons (ps_fld (pv 0) pe_int rfl)
   (pss_one (ps_fld (pv 0) pe_non rfl)))), ?_⟩
  refine ⟨_, rfl, _, rfl, ln, _, dx, _, rfl, hl, cl, T.na_Line_calls, fl 0 rfl, ?_⟩
  refine ⟨_, rfl, ln, _, dx, _, rfl, upd_same, cl, T.na_Line_place, fl 1 rfl, ?_⟩
  rw [upd_upd]
  refine ⟨_, rfl, ln, _, dx, _, rfl, upd_same, cl, T.na_Line_node, fl 2 rfl, ?_⟩
  rw [upd_upd]
  exact q
def spHas_more (t : Adr) (K : PySem.W.Frag) : Sp := fun vs H Q _ => ∃ (ln dx lc : Addr) (p : Nat) (nv : V) (L : List Int), vs = [.ref ln] ∧ H ln = some (.ins t.c_Line dx (fLine lc p nv)) ∧ CallsAt K H lc L ∧ Q (.bl (decide (p < L.length))) H
theorem ok_Line_has_more (T : Tx K mg t) : FnOk P w K mg base CX0 1 t.f_Line_has_more t.d_Line_has_more ["self"] (spHas_more t K) := by
 refine T.fn_Line_has_more.ok sc_Line_has_more (fun vs H Q E h => ?_) (fun cdv A outer s H vs Q E hr h => ?_)
 ·obtain ⟨ln, dx, lc, p, nv, L, rfl, _⟩ := h
  rfl
 ·obtain ⟨ln, dx, lc, p, nv, L, rfl, hl, hc, q⟩ := h
  have cl := T.cl_Line
  refine ⟨_, (pss_one (ps_ret (pe_cmpR op_lt (pe_fld (pv 0) rfl) (pe_callB call_len_seq (by rfl) T.b_len bt_len (pa_cons (pe_fld (pv 0) rfl) pa_nil)) (nomark _)))), ?_⟩
  refine ⟨_, rfl, ln, _, dx, _, _, rfl, hl, cl, T.na_Line_place, rfl, _, rfl, ln, _, dx, _, _, rfl, hl, cl, T.na_Line_calls, rfl, lc, _, rfl, .inl hc.sq, _, _, rfl, rfl, ?_⟩
  show Q (.bl (decide ((p : Int) < (((L.map V.int).length : Nat) : Int)))) H
  rw [List.length_map, show decide ((p : Int) < ((L.length : Nat) : Int)) = decide (p < L.length) from decide_eq_decide.mpr (by omega)]
  exact q
def spTake (t : Adr) (K : PySem.W.Frag) : Sp := fun vs H Q _ => ∃ (ln dx lc : Addr) (p : Nat) (nv : V) (L R : List Int) (i : Int), vs = [.ref ln] ∧ H ln = some (.ins t.c_Line dx (fLine lc p nv)) ∧ CallsAt K H lc L ∧ L.drop p = i :: R ∧
 Q (.int i) (upd H ln (.ins t.c_Line dx (fLine lc ((p + 1 : Nat) : Int) nv)))
theorem ok_Line_take_number (T : Tx K mg t) : FnOk P w K mg base CX0 1 t.f_Line_take_number t.d_Line_take_number ["self"] (spTake t K) := by
 refine T.fn_Line_take_number.ok sc_Line_take_number (fun vs H Q E h => ?_) (fun cdv A outer s H vs Q E hr h => ?_)
 ·obtain ⟨ln, dx, lc, p, nv, L, R, i, rfl, _⟩ := h
  rfl
 ·obtain ⟨ln, dx, lc, p, nv, L, R, i, rfl, hl, hc, hd, q⟩ := h
  have cl := T.cl_Line
  obtain ⟨g1, g2, g3⟩ := get_of_drop hd
  refine ⟨_, (pss_cons (ps_set (i := 1) sc_Line_take_number.nd rfl (by first | exact Or.inl rfl | exact Or.inr rfl) (pe_ix ix_list (pe_fld (pv 0) rfl) (pe_fld (pv 0) rfl) (fun _ _ => rfl)))
   (pss_cons (ps_fld (pv 0) (pe_op op_add (pe_fld (pv 0) rfl) pe_int) rfl)
   (pss_one (ps_ret (pv 1))))), ?_⟩
  refine ⟨_, rfl, ln, _, dx, _, _, rfl, hl, cl, T.na_Line_calls, rfl, _, rfl, ln, _, dx, _, _, rfl, hl, cl, T.na_Line_place, rfl, lc, _, _, _, rfl, rfl, hc.sq, atI_nat (j := p) (by rw [List.getElem?_map, g1]; rfl), ?_⟩
  refine ⟨_, rfl, ln, _, dx, _, _, rfl, hl, cl, T.na_Line_place, rfl, _, _, rfl, rfl, _, rfl, ln, _, dx, _, rfl, hl, cl, T.na_Line_place, fl 3 rfl, ?_⟩
  refine ⟨_, rfl, ?_⟩
  show Q (.int i) (upd H ln (.ins t.c_Line dx (fLine lc ((p : Int) + 1) nv)))
  exact q
def spTake_row (t : Adr) (K : PySem.W.Frag) : Sp := fun vs H Q _ => ∃ (ln dx lc : Addr) (p : Nat) (nv : V) (L R row : List Int), vs = [.ref ln] ∧ H ln = some (.ins t.c_Line dx (fLine lc p nv)) ∧ CallsAt K H lc L ∧ L.drop p = (row.length : Int) :: (row ++ R) ∧
 ∀ (H' : Hp) (l : Addr), (∀ b o, H b = some o → b ≠ ln → H' b = some o) → H l = none → H' ln = some (.ins t.c_Line dx (fLine lc ((p + 1 + row.length : Nat) : Int) nv)) → H' l = some (.lst (row.map V.int)) → Q (.ref l) H'
theorem cut_row {L R row : List Int} {p : Nat} (h : L.drop p = row ++ R) (hp : p ≤ L.length) : cutV (L.map V.int) (some (p : Int)) (some ((p + row.length : Nat) : Int)) = row.map V.int := by
 have hl : L.length = p + row.length + R.length := by
  have := congrArg List.length h
  rw [List.length_drop, List.length_append] at this
  omega
 unfold cutV
 rw [List.length_map, HT.sIx_nat, HT.sIx_nat, Nat.min_eq_left (by omega), Nat.min_eq_left (by omega), Nat.add_sub_cancel_left, ← List.map_drop, h, List.map_append, List.take_append_of_le_length (by rw [List.length_map]; exact Nat.le_refl _), List.take_of_length_le (by rw [List.length_map]; exact Nat.le_refl _)]
theorem ok_Line_take_row (T : Tx K mg t) : FnOk P w K mg base CX0 2 t.f_Line_take_row t.d_Line_take_row ["self"] (spTake_row t K) := by
 have G_Line_take_number : FnOk P w K mg base CX0 1 t.f_Line_take_number t.d_Line_take_number ["self"] (spTake t K) := ok_Line_take_number T
 refine T.fn_Line_take_row.ok sc_Line_take_row (fun vs H Q E h => ?_) (fun cdv A outer s H vs Q E hr h => ?_)
 ·obtain ⟨ln, dx, lc, p, nv, L, R, row, rfl, _⟩ := h
  rfl
 ·obtain ⟨ln, dx, lc, p, nv, L, R, row, rfl, hl, hc, hd, q⟩ := h
  have cl := T.cl_Line
  obtain ⟨g1, g2, g3⟩ := get_of_drop hd
  refine ⟨_, (pss_cons (ps_set (i := 1) sc_Line_take_row.nd rfl (by first | exact Or.inl rfl | exact Or.inr rfl) (pe_meth0 (pv 0) T.cl_Line T.me_Line_take_number G_Line_take_number (hr.mono (by decide)) T.bi_Line_take_number .nil pass0))
   (pss_cons (ps_set (i := 2) sc_Line_take_row.nd rfl (by first | exact Or.inl rfl | exact Or.inr rfl) (pe_slice sl_list (pe_fld (pv 0) rfl) (po_some (pe_fld (pv 0) rfl)) (po_some (pe_op op_add (pe_fld (pv 0) rfl) (pv 1)))))
   (pss_cons (ps_fld (pv 0) (pe_op op_add (pe_fld (pv 0) rfl) (pv 1)) rfl)
   (pss_one (ps_ret (pv 2)))))), ?_⟩
  refine ⟨_, rfl, ln, dx, _, rfl, hl, rfl, ln, dx, lc, p, nv, L, _, _, rfl, hl, hc, hd, ?_⟩
  have hc1 : CallsAt K (upd H ln (.ins t.c_Line dx (fLine lc ((p + 1 : Nat) : Int) nv))) lc L := hc.keep fun o u e => by rw [upd_ne (ne_of e hl (by intro z; cases z))]; exact e
  have hn1 : (upd H ln (.ins t.c_Line dx (fLine lc ((p + 1 : Nat) : Int) nv))) ln = some (.ins t.c_Line dx (fLine lc ((p + 1 : Nat) : Int) nv)) := upd_same
  have ep : ((p + 1 : Nat) : Int) + (row.length : Int) = ((p + 1 + row.length : Nat) : Int) := by omega
  refine ⟨_, rfl, ln, _, dx, _, _, rfl, hn1, cl, T.na_Line_calls, rfl, _, rfl, ln, _, dx, _, _, rfl, hn1, cl, T.na_Line_place, rfl, _, rfl, _, rfl, ln, _, dx, _, _, rfl, hn1, cl, T.na_Line_place, rfl, _, rfl, _, _, rfl, rfl, _, rfl, lc, _, rfl, hc1.sq, fun l hl1 => ?_⟩
  have hlln : l ≠ ln := fun z => by rw [z, upd_same] at hl1; cases hl1
  have hn2 : ∀ o, (upd (upd H ln (.ins t.c_Line dx (fLine lc ((p + 1 : Nat) : Int) nv))) l o) ln = some (.ins t.c_Line dx (fLine lc ((p + 1 : Nat) : Int) nv)) := fun o => by rw [upd_ne (Ne.symm hlln)]; exact hn1
  refine ⟨_, rfl, ln, _, dx, _, _, rfl, hn2 _, cl, T.na_Line_place, rfl, _, rfl, _, _, rfl, rfl, _, rfl, ln, _, dx, _, rfl, hn2 _, cl, T.na_Line_place, fl 3 rfl, ?_⟩
  refine ⟨_, rfl, q _ l (fun b o e ne => ?_) ?_ ?_ ?_⟩
  ·have hbl : b ≠ l := fun z => by
    subst z
    rw [upd_ne ne, e] at hl1
    cases hl1
   rw [upd_ne ne, upd_ne hbl, upd_ne ne]
   exact e
  ·rw [upd_ne hlln] at hl1
   exact hl1
  ·rw [upd_same, ← ep]
   rfl
  ·rw [upd_ne hlln, upd_same, ep, cut_row (R := R) g2 (by omega)]
end
end Pp
end
section
namespace Pp
open PySem PySem.Spec PyProof.Rows L2
def NLine (o : HO) : Prop := ∀ (C dx lc : Addr) (p : Int) (nv : V), o ≠ .ins C dx (fLine lc p nv)
theorem nl_lst {xs : List V} : NLine (.lst xs) := fun _ _ _ _ _ q => by cases q
theorem nl_dT {kvs : List (List Key × V)} : NLine (.dT kvs) := fun _ _ _ _ _ q => by cases q
theorem nl_frz {o : Obj} {u : HO} : NLine (.frz o u) := fun _ _ _ _ _ q => by cases q
theorem nl_head {C dx : Addr} {k : Str} {v : V} {fs : List (Str × V)} (h : k ≠ "calls") : NLine (.ins C dx ((k, v) :: fs)) := fun _ _ _ _ _ q => by
 injection q with _ _ q
 injection q with q _
 injection q with q _
 exact h q
theorem ne_line {H : Hp} {b ln C dx lc : Addr} {p : Int} {nv : V} {o : HO} (h : H b = some o) (hl : H ln = some (.ins C dx (fLine lc p nv))) (n : NLine o) : b ≠ ln := ne_of h hl (n _ _ _ _ _)
theorem ParcelsAt.keep {t : Adr} {H H' : Hp} {Z : PZ} (h : ParcelsAt t H Z) (k : ∀ b o, H b = some o → NLine o → H' b = some o) : ParcelsAt t H' Z := fun z hz => let ⟨dx, d, h1, h2⟩ := h z hz; ⟨dx, d, k _ _ h1 (nl_head (by decide)), k _ _ h2 nl_lst⟩
theorem NodeAt.keepL {t : Adr} {H H' : Hp} {nd : Addr} {N : NA} {Z Za : PZ} {a : Sr36.Abs} (h : NodeAt t H nd N Z Za a) (k : ∀ b o, H b = some o → NLine o → H' b = some o) : NodeAt t H' nd N Z Za a := by
 have gk : ∀ b o, hid N H b = some o → NLine o → hid N H' b = some o := fun b o e n => let ⟨h1, h2, h3⟩ := hid_get e; hid_of (k b o h1 n) h2 h3
 obtain ⟨dx, h1⟩ := h.obj
 obtain ⟨ts, h2⟩ := h.tl
 exact ⟨⟨dx, k _ _ h1 (nl_head (by decide))⟩, h.gplan.keep (fun b d n lp lo e => gk _ _ e (nl_head (by decide))) (fun b d k a c tk be en e => gk _ _ e (nl_head (by decide))) (fun b xs e => gk _ _ e nl_lst), k _ _ h.held nl_dT, h.ghz.keep gk, h.he, k _ _ h.arr nl_lst, h.gaz.keep gk, h.ae, k _ _ h.kn nl_dT, h.hk, ⟨ts, k _ _ h2 nl_lst⟩, h.ta⟩
theorem NodeAt.retl {t : Adr} {H : Hp} {nd : Addr} {N : NA} {Z Za : PZ} {a : Sr36.Abs} (h : NodeAt t H nd N Z Za a) (ys : List V) : NodeAt t (upd H N.tl (.lst ys)) nd N Z Za a := by
 have e : hid N (upd H N.tl (.lst ys)) = hid N H := by
  funext b
  unfold hid
  split
  ·rfl
  ·rename_i c
   rw [upd_ne fun q => c (.inr q)]
 obtain ⟨dx, h1⟩ := h.obj
 obtain ⟨ts, h2⟩ := h.tl
 refine ⟨⟨dx, ?_⟩, by rw [e]; exact h.gplan, ?_, by rw [e]; exact h.ghz, h.he, ?_, by rw [e]; exact h.gaz, h.ae, ?_, h.hk, ⟨ys, upd_same⟩, h.ta⟩
 ·rw [upd_ne (ne_of h1 h2 (by intro q; cases q))]
  exact h1
 ·rw [upd_ne (ne_of h.held h2 (by intro q; cases q))]
  exact h.held
 ·rw [upd_ne h.ta]
  exact h.arr
 ·rw [upd_ne (ne_of h.kn h2 (by intro q; cases q))]
  exact h.kn
def NodeSt (t : Adr) (H : Hp) (tl : Addr) (nv : V) : Sr36Neutral.S → Prop
 | none => nv = .non
 | some a => ∃ nd N Z Za, nv = .ref nd ∧ N.tl = tl ∧ NodeAt t H nd N Z Za a ∧ AInv a
theorem NodeSt.keepL {t : Adr} {H H' : Hp} {tl : Addr} {nv : V} {s : Sr36Neutral.S} (h : NodeSt t H tl nv s) (k : ∀ b o, H b = some o → NLine o → H' b = some o) : NodeSt t H' tl nv s := by
 cases s with
 | none => exact h
 | some a =>
  obtain ⟨nd, N, Z, Za, h1, h2, h3, h4⟩ := h
  exact ⟨nd, N, Z, Za, h1, h2, h3.keepL k, h4⟩
theorem NodeSt.retl {t : Adr} {H : Hp} {tl : Addr} {nv : V} {s : Sr36Neutral.S} (h : NodeSt t H tl nv s) (ys : List V) : NodeSt t (upd H tl (.lst ys)) tl nv s := by
 cases s with
 | none => exact h
 | some a =>
  obtain ⟨nd, N, Z, Za, h1, h2, h3, h4⟩ := h
  subst h2
  exact ⟨nd, N, Z, Za, h1, rfl, h3.retl ys, h4⟩
structure LineAt (t : Adr) (K : PySem.W.Frag) (H : Hp) (ln lc tl : Addr) (L : List Int) (p : Nat) (s : Sr36Neutral.S) (xs : List V) : Prop where
 obj : ∃ dx nv, H ln = some (.ins t.c_Line dx (fLine lc p nv)) ∧ NodeSt t H tl nv s
 calls : CallsAt K H lc L
 tl : H tl = some (.lst xs)
theorem LineAt.retl {t : Adr} {K : PySem.W.Frag} {H : Hp} {ln lc tl : Addr} {L : List Int} {p : Nat} {s : Sr36Neutral.S} {xs : List V} (h : LineAt t K H ln lc tl L p s xs) (ys : List V) : LineAt t K (upd H tl (.lst ys)) ln lc tl L p s ys := by
 obtain ⟨dx, nv, h1, h2⟩ := h.obj
 exact ⟨⟨dx, nv, by rw [upd_ne (ne_of h1 h.tl (by intro q; cases q))]; exact h1, h2.retl ys⟩, h.calls.keep (fun o u e => by rw [upd_ne (ne_of e h.tl (by intro q; cases q))]; exact e), upd_same⟩
theorem LineAt.move {t : Adr} {K : PySem.W.Frag} {H H' : Hp} {ln lc tl dx : Addr} {L : List Int} {p p' : Nat} {s : Sr36Neutral.S} {xs : List V} {nv : V} (h : LineAt t K H ln lc tl L p s xs) (h1 : H ln = some (.ins t.c_Line dx (fLine lc p nv))) (h2 : H' ln = some (.ins t.c_Line dx (fLine lc p' nv))) (k : ∀ b o, H b = some o → b ≠ ln → H' b = some o) : LineAt t K H' ln lc tl L p' s xs := by
 obtain ⟨dx', nv', h3, h4⟩ := h.obj
 have e := Option.some.inj (h1.symm.trans h3)
 injection e with e1 e2 e3
 unfold fLine at e3
 simp only [List.cons.injEq, Prod.mk.injEq, true_and, and_true] at e3
 subst e3
 have kl : ∀ b o, H b = some o → NLine o → H' b = some o := fun b o e n => k b o e (ne_line e h1 n)
 exact ⟨⟨dx, nv, h2, h4.keepL kl⟩, h.calls.keep fun o u e => kl _ _ e nl_frz, kl _ _ h.tl nl_lst⟩
def lineEnd (t : Adr) (K : PySem.W.Frag) (ln lc tl : Addr) (L : List Int) (p : Nat) (s : Sr36Neutral.S) (xs : List V) (ans : List Int) (Q : VK) : Prop := ∀ (H' : Hp) (l : Addr), LineAt t K H' ln lc tl L p s xs → H' l = some (.lst (ans.map V.int)) → l ≠ tl → Q (.ref l) H'
section
variable {P : Program} {w : World} {K : PySem.W.Frag} {mg : Str → Option Value} {base : Heap} {t : Adr}
theorem LineAt.node {H H' : Hp} {ln lc tl nd : Addr} {L : List Int} {p : Nat} {a a' : Sr36.Abs} {xs : List V} {N N' : NA} {Z Za Z' Za' : PZ} {dx : Addr} (h : LineAt t K H ln lc tl L p (some a) xs) (h1 : H ln = some (.ins t.c_Line dx (fLine lc p (.ref nd)))) (hN : NodeAt t H nd N Z Za a) (htl : N.tl = tl)
  (hN' : NodeAt t H' nd N' Z' Za' a') (hA : AInv a') (k : NKeep t (foot nd N) H H') (e : N'.tl = N.tl) : LineAt t K H' ln lc tl L p (some a') xs := by
 obtain ⟨dn, hn⟩ := hN.obj
 have hf : ∀ b o, H b = some o → (∀ C d fs, o ≠ .ins C d fs) → (∀ kvs, o ≠ .dT kvs) → b ≠ N.ar → b ∉ foot nd N := fun b o e n1 n2 n3 q => by
  rcases List.mem_cons.mp q with rfl | q
  ·rw [hn] at e
   exact n1 _ _ _ (Option.some.inj e).symm
  rcases List.mem_cons.mp q with rfl | q
  ·rw [hN.held] at e
   exact n2 _ (Option.some.inj e).symm
  rcases List.mem_cons.mp q with rfl | q
  ·exact n3 rfl
  rcases List.mem_cons.mp q with rfl | q
  ·rw [hN.kn] at e
   exact n2 _ (Option.some.inj e).symm
  cases q
 refine ⟨⟨dx, .ref nd, k _ _ h1 (fun q => ?_) (np_head (by decide)), nd, N', Z', Za', rfl, e.trans htl, hN', hA⟩, h.calls.keep fun o u e => k _ _ e (hf _ _ e (fun _ _ _ z => by cases z) (fun _ z => by cases z) fun z => ?_) np_frz, k _ _ h.tl (hf _ _ h.tl (fun _ _ _ z => by cases z) (fun _ z => by cases z) fun z => hN.ta (by rw [htl]; exact z.symm)) np_lst⟩
 ·rcases List.mem_cons.mp q with z | q
  ·exact ne_line hn h1 (nl_head (by decide)) z.symm
  rcases List.mem_cons.mp q with z | q
  ·exact ne_line hN.held h1 nl_dT z.symm
  rcases List.mem_cons.mp q with z | q
  ·exact ne_line hN.arr h1 nl_lst z.symm
  rcases List.mem_cons.mp q with z | q
  ·exact ne_line hN.kn h1 nl_dT z.symm
  cases q
 ·subst z
  rw [hN.arr] at e
  cases e
def spAput (t : Adr) (K : PySem.W.Frag) : Sp := fun vs H Q _ => ∃ (ln lc tl : Addr) (L R l : List Int) (p to e : Nat) (a : Sr36.Abs) (xs : List V), vs = [.ref ln] ∧ LineAt t K H ln lc tl L p (some a) xs ∧ L.drop p = (to : Int) :: (e : Int) :: (l.length : Int) :: (l ++ R) ∧
 l.length ≤ 60 ∧ (∀ x ∈ l, 0 ≤ x) ∧ lineEnd t K ln lc tl L (p + 3 + l.length) (some (a.put to e (dataOpt (l.map Int.toNat))).1) xs (numOf (a.put to e (dataOpt (l.map Int.toNat))).2) Q
theorem nsV_of {l : List Int} (h : ∀ x ∈ l, 0 ≤ x) : l.map V.int = nsV (l.map Int.toNat) := by
 unfold nsV
 rw [List.map_map]
 refine List.map_congr_left fun x hx => ?_
 show V.int x = V.int ((x.toNat : Nat) : Int)
 rw [Int.toNat_of_nonneg (h x hx)]
theorem ok_Line_answer_put (T : Tx K mg t) : FnOk P w K mg base CX0 4 t.f_Line_answer_put t.d_Line_answer_put ["self"] (spAput t K) := by
 have G_Line_take_number : FnOk P w K mg base CX0 1 t.f_Line_take_number t.d_Line_take_number ["self"] (spTake t K) := ok_Line_take_number T
 have G_Line_take_row : FnOk P w K mg base CX0 2 t.f_Line_take_row t.d_Line_take_row ["self"] (spTake_row t K) := ok_Line_take_row T
 have G_Node_put : FnOk P w K mg base CX0 3 t.f_Node_put t.d_Node_put ["self", "to", "end", "data"] (spPut t) := ok_Node_put T
 refine T.fn_Line_answer_put.ok sc_Line_answer_put (fun vs H Q E h => ?_) (fun cdv A outer s H vs Q E hr h => ?_)
 ·obtain ⟨ln, lc, tl, L, R, l, p, to, e, a, xs, rfl, _⟩ := h
  rfl
 ·obtain ⟨ln, lc, tl, L, R, l, p, to, e, a, xs, rfl, hL, hd, hll, hpos, k⟩ := h
  have cl := T.cl_Line
  obtain ⟨dx, nv, h1, hS⟩ := hL.obj
  obtain ⟨nd, N, Z, Za, rfl, htl, hN, hA⟩ := hS
  obtain ⟨_, hd1, _⟩ := get_of_drop hd
  obtain ⟨_, hd2, _⟩ := get_of_drop hd1
  refine ⟨_, (pss_cons (ps_set (i := 1) sc_Line_answer_put.nd rfl (by first | exact Or.inl rfl | exact Or.inr rfl) (pe_meth0 (pv 0) T.cl_Line T.me_Line_take_number G_Line_take_number (hr.mono (by decide)) T.bi_Line_take_number .nil pass0))
   (pss_cons (ps_set (i := 2) sc_Line_answer_put.nd rfl (by first | exact Or.inl rfl | exact Or.inr rfl) (pe_meth0 (pv 0) T.cl_Line T.me_Line_take_number G_Line_take_number (hr.mono (by decide)) T.bi_Line_take_number .nil pass0))
   (pss_one (ps_ret (pe_meth (pe_fld (pv 0) rfl) T.cl_Node T.me_Node_put G_Node_put (hr.mono (by decide)) T.bi_Node_put .nil pass0 (pa_cons (pv 1) (pa_cons (pv 2) (pa_cons (pe_meth0 (pv 0) T.cl_Line T.me_Line_take_row G_Line_take_row (hr.mono (by decide)) T.bi_Line_take_row .nil pass0) pa_nil)))))))), ?_⟩
  refine ⟨_, rfl, ln, dx, _, rfl, h1, rfl, ln, dx, lc, p, _, L, _, _, rfl, h1, hL.calls, hd, ?_⟩
  have hL1 := hL.move h1 (upd_same (H := H) (o := .ins t.c_Line dx (fLine lc ((p + 1 : Nat) : Int) (.ref nd)))) fun b o e ne => by rw [upd_ne ne]; exact e
  refine ⟨_, rfl, ln, dx, _, rfl, upd_same, rfl, ln, dx, lc, p + 1, _, L, _, _, rfl, upd_same, hL1.calls, hd1, ?_⟩
  rw [upd_upd]
  have hL2 := hL.move h1 (upd_same (H := H) (o := .ins t.c_Line dx (fLine lc ((p + 1 + 1 : Nat) : Int) (.ref nd)))) fun b o e ne => by rw [upd_ne ne]; exact e
  have h2 : (upd H ln (.ins t.c_Line dx (fLine lc ((p + 1 + 1 : Nat) : Int) (.ref nd)))) ln = some (.ins t.c_Line dx (fLine lc ((p + 1 + 1 : Nat) : Int) (.ref nd))) := upd_same
  have hN2 : NodeAt t (upd H ln (.ins t.c_Line dx (fLine lc ((p + 1 + 1 : Nat) : Int) (.ref nd)))) nd N Z Za a := hN.keepL fun b o e n => by rw [upd_ne (ne_line e h1 n)]; exact e
  obtain ⟨dn, hn2⟩ := hN2.obj
  refine ⟨_, rfl, ln, _, dx, _, _, rfl, h2, cl, T.na_Line_node, rfl, nd, dn, _, rfl, hn2, rfl, _, rfl, _, rfl, _, rfl, ln, dx, _, rfl, h2, rfl, ln, dx, lc, p + 1 + 1, _, L, R, l, rfl, h2, hL2.calls, hd2, fun H3 lr k3 hlr0 h3 hlr => ?_⟩
  have hN3 : NodeAt t H3 nd N Z Za a := hN2.keepL fun b o e n => k3 b o e (ne_line e h2 n)
  have hL3 : LineAt t K H3 ln lc tl L (p + 1 + 1 + 1 + l.length) (some a) xs := hL2.move h2 h3 k3
  refine ⟨nd, lr, N, Z, Za, a, to, e, l.map Int.toNat, rfl, hN3, hA, by rw [← nsV_of hpos]; exact hlr, by rw [List.length_map]; omega, fun H4 l4 N4 Z4 Za4 hN4 hl4 ne4 k4 f4 t4 => ?_⟩
  refine k H4 l4 (hL3.node h3 hN3 htl hN4 (hA.put _ _ _ fun ys e => ?_) k4 t4) hl4 (by rw [← htl]; exact ne4)
  unfold dataOpt at e
  split at e
  ·rename_i c
   cases e
   exact c
  ·cases e
theorem tick_inv {a b : Sr36.Abs} {evs : List Sr36.Ev} {ans : Sr36.Ans} (h : AInv a) (hS : Sr36Neutral.reckon (some a) .tick = some (evs, some b, ans)) : AInv b := by
 have e3 : Sr35.LAST = 1000000 := rfl
 simp only [Sr36Neutral.reckon] at hS
 split at hS
 ·simp only [Option.some.injEq, Prod.mk.injEq] at hS
  rw [← hS.2.1]
  exact h
 ·split at hS
  ·split at hS
   ·cases hS
   ·split at hS
    ·cases hS
    ·rename_i l b' hSe
     simp only [Option.some.injEq, Prod.mk.injEq] at hS
     rw [← hS.2.1]
     exact AInv.sends (h.later (by omega)) hSe
  ·cases hS
def spAstart (t : Adr) (K : PySem.W.Frag) : Sp := fun vs H Q _ => ∃ (ln lc tl : Addr) (L R l : List Int) (p n i : Nat) (s : Sr36Neutral.S) (xs : List V), vs = [.ref ln] ∧ LineAt t K H ln lc tl L p s xs ∧ L.drop p = (n : Int) :: (i : Int) :: (l.length : Int) :: (l ++ R) ∧
 l.length ≤ 780 ∧ Sr36Neutral.okPasses l = true ∧ ((Sr35.good (Sr36Neutral.plan n l) = false ∨ (Sr36Neutral.plan n l).n ≤ i → lineEnd t K ln lc tl L (p + 3 + l.length) s xs [-22] Q) ∧
  (Sr35.good (Sr36Neutral.plan n l) = true → i < (Sr36Neutral.plan n l).n → lineEnd t K ln lc tl L (p + 3 + l.length) (some (Sr36.fresh (Sr36Neutral.plan n l) i)) xs [0] Q))
theorem ok_Line_answer_start (T : Tx K mg t) : FnOk P w K mg base CX0 6 t.f_Line_answer_start t.d_Line_answer_start ["self"] (spAstart t K) := by
 have G_Line_take_number : FnOk P w K mg base CX0 1 t.f_Line_take_number t.d_Line_take_number ["self"] (spTake t K) := ok_Line_take_number T
 have G_Line_take_row : FnOk P w K mg base CX0 2 t.f_Line_take_row t.d_Line_take_row ["self"] (spTake_row t K) := ok_Line_take_row T
 have G_plan_of : FnOk P w K mg base CX0 5 t.f_plan_of t.d_plan_of ["node_count", "numbers"] (spPlan_of t) := ok_plan_of T
 have G_Plan_has_node : FnOk P w K mg base CX0 1 t.f_Plan_has_node t.d_Plan_has_node ["self", "node"] (spHas t) := ok_Plan_has_node T
 have G_Node_init : FnOk P w K mg base CX0 1 t.f_Node_init t.d_Node_init ["self", "plan", "me"] (spNode_init t) := ok_Node_init T
 refine T.fn_Line_answer_start.ok sc_Line_answer_start (fun vs H Q E h => ?_) (fun cdv A outer s0 H vs Q E hr h => ?_)
 ·obtain ⟨ln, lc, tl, L, R, l, p, n, i, s, xs, rfl, _⟩ := h
  rfl
 ·obtain ⟨ln, lc, tl, L, R, l, p, n, i, s, xs, rfl, hL, hd, hll, hok, kn, ky⟩ := h
  have cl := T.cl_Line
  obtain ⟨dx, nv, h1, hS⟩ := hL.obj
  obtain ⟨_, hd1, _⟩ := get_of_drop hd
  obtain ⟨_, hd2, _⟩ := get_of_drop hd1
  have hfl : (flat6 (Sr36Neutral.passes l)) = l := Sn.passes_flat hok
  have hpl := Sn.passes_len hok hll
  have hgood : Sr35.good (Sr36Neutral.plan n l) = goodIt n (Sr36Neutral.passes l) := by
   rw [Sn.good_plan]
   rfl
  refine ⟨_, (pss_cons (ps_set (i := 1) sc_Line_answer_start.nd rfl (by first | exact Or.inl rfl | exact Or.inr rfl) (pe_meth0 (pv 0) T.cl_Line T.me_Line_take_number G_Line_take_number (hr.mono (by decide)) T.bi_Line_take_number .nil pass0))
   (pss_cons (ps_set (i := 2) sc_Line_answer_start.nd rfl (by first | exact Or.inl rfl | exact Or.inr rfl) (pe_meth0 (pv 0) T.cl_Line T.me_Line_take_number G_Line_take_number (hr.mono (by decide)) T.bi_Line_take_number .nil pass0))
   (pss_cons (ps_set (i := 3) sc_Line_answer_start.nd rfl (by first | exact Or.inl rfl | exact Or.inr rfl) (pe_call G_plan_of (hr.mono (by decide)) (by rfl) T.g_plan_of T.kp_plan_of T.bi_plan_of .nil pass0 (pa_cons (pv 1) (pa_cons (pe_meth0 (pv 0) T.cl_Line T.me_Line_take_row G_Line_take_row (hr.mono (by decide)) T.bi_Line_take_row .nil pass0) pa_nil))))
   (pss_cons (ps_if (pw_or (pt_cmp (pc_isN (pv 3))) (pw_or1 (pt_not (pt_val (pe_meth (pv 3) T.cl_Plan T.me_Plan_has_node G_Plan_has_node (hr.mono (by decide)) T.bi_Plan_has_node .nil pass0 (pa_cons (pv 2) pa_nil)))))).pt (pss_one (ps_ret (pe_lst (pa_cons (pk (by rfl) T.k_NOT_AS_TOLD) pa_nil)))) pss_nil)
   (pss_cons (ps_fld (pv 0) (pe_make T.mk_Node G_Node_init (hr.mono (by decide)) (by rfl) T.gC_Node T.bi_Node_init .nil pass0 (pa_cons (pv 3) (pa_cons (pv 2) pa_nil))) rfl)
   (pss_one (ps_ret (pe_lst (pa_cons (pk (by rfl) T.k_DONE) pa_nil))))))))), ?_⟩
  refine ⟨_, rfl, ln, dx, _, rfl, h1, rfl, ln, dx, lc, p, _, L, _, _, rfl, h1, hL.calls, hd, ?_⟩
  have hL1 := hL.move h1 (upd_same (H := H) (o := .ins t.c_Line dx (fLine lc ((p + 1 : Nat) : Int) nv))) fun b o e ne => by rw [upd_ne ne]; exact e
  refine ⟨_, rfl, ln, dx, _, rfl, upd_same, rfl, ln, dx, lc, p + 1, _, L, _, _, rfl, upd_same, hL1.calls, hd1, ?_⟩
  rw [upd_upd]
  have hL2 := hL.move h1 (upd_same (H := H) (o := .ins t.c_Line dx (fLine lc ((p + 1 + 1 : Nat) : Int) nv))) fun b o e ne => by rw [upd_ne ne]; exact e
  have h2 : (upd H ln (.ins t.c_Line dx (fLine lc ((p + 1 + 1 : Nat) : Int) nv))) ln = some (.ins t.c_Line dx (fLine lc ((p + 1 + 1 : Nat) : Int) nv)) := upd_same
  refine ⟨_, rfl, _, rfl, ln, dx, _, rfl, h2, rfl, ln, dx, lc, p + 1 + 1, _, L, R, l, rfl, h2, hL2.calls, hd2, fun H3 lr k3 hlr0 h3 hlr => ?_⟩
  have hL3 : LineAt t K H3 ln lc tl L (p + 1 + 1 + 1 + l.length) s xs := hL2.move h2 h3 k3
  have same : ∀ {H' : Hp}, Same H3 H' → LineAt t K H' ln lc tl L (p + 1 + 1 + 1 + l.length) s xs := fun s4 => hL3.move h3 (s4 _ _ h3) fun b o e _ => s4 _ _ e
  refine ⟨lr, n, Sr36Neutral.passes l, rfl, by rw [hfl]; exact hlr, by omega, fun g H4 s4 => ?_, fun g H4 pl as ls s4 hP => ?_⟩
  ·refine ⟨_, rfl, _, rfl, iteT ?_⟩
   refine iteT ?_
   exact ⟨(by show 1 ≤ sizeLine; decide), fun l' hl' => kn (.inl (hgood.trans g)) _ l' (same (s4.trans (same_fresh hl'))) upd_same (Ne.symm (ne_of_none (s4 _ _ hL3.tl) hl'))⟩
  ·obtain ⟨dpl, lp, lo, hpl4, _⟩ := hP.obj
   have hpl4 := hidL_le _ _ hpl4
   have hq : (Sr36Neutral.passes l).length ≤ 128 := by
    unfold goodIt at g
    simp only [Bool.and_eq_true, decide_eq_true_eq] at g
    exact g.2.2.1
   have en : (Sr36Neutral.plan n l).n = n := rfl
   refine ⟨_, rfl, _, rfl, iteF ?_⟩
   refine ⟨_, rfl, pl, dpl, _, rfl, hpl4, rfl, _, rfl, pl, dpl, lp, lo, n, i, rfl, hpl4, _, rfl, ite2 (fun c => ?_) (fun c => ?_)⟩
   ·rw [Bool.not_eq_true', decide_eq_false_iff_not] at c
    exact ⟨(by show 1 ≤ sizeLine; decide), fun l' hl' => kn (.inr (by omega)) _ l' (same (s4.trans (same_fresh hl'))) upd_same (Ne.symm (ne_of_none (s4 _ _ hL3.tl) hl'))⟩
   have c : (i : Int) < (n : Int) := by
    rw [Bool.not_eq_true', decide_eq_false_iff_not, Classical.not_not] at c
    exact c
   refine ⟨_, rfl, _, rfl, fun x dxn hx hdx hne => ?_⟩
   have s5 : Same H4 (upd (upd H4 dxn (.own x)) x (.ins t.c_Node dxn [])) := same_over (same_fresh hdx) hx
   refine ⟨x, dxn, pl, i, rfl, upd_same, fun H5 hd ar kn0 e1 e2 e3 e4 k5 f1 f2 f3 hne2 => ⟨rfl, ?_⟩⟩
   have k45 : ∀ b o, H4 b = some o → H5 b = some o := fun b o e => k5 b o (s5 _ _ e) (ne_of_none e hx)
   have h5 := k45 _ _ (s4 _ _ h3)
   refine ⟨_, rfl, ln, _, dx, _, rfl, h5, cl, T.na_Line_node, fl 3 rfl, ?_⟩
   refine ⟨(by show 1 ≤ sizeLine; decide), fun l' hl' => ?_⟩
   have a4 : H4 ar = none := s5.free f2
   have s7 := same_fresh (o := .lst [V.int 0]) hl'
   have h7 : (upd (upd H5 ln (.ins t.c_Line dx (putF "node" (V.ref x) (fLine lc ((p + 1 + 1 + 1 + l.length : Nat) : Int) nv)))) l' (.lst [V.int 0])) ln = some (.ins t.c_Line dx (fLine lc ((p + 1 + 1 + 1 + l.length : Nat) : Int) (.ref x))) := s7 _ _ upd_same
   have k7 : ∀ b o, H5 b = some o → NLine o → (upd (upd H5 ln (.ins t.c_Line dx (putF "node" (V.ref x) (fLine lc ((p + 1 + 1 + 1 + l.length : Nat) : Int) nv)))) l' (.lst [V.int 0])) b = some o := fun b o e n => s7 _ _ (by rw [upd_ne (ne_line e h5 n)]; exact e)
   have hl'tl : l' ≠ tl := fun z => by
    subst z
    rw [upd_ne (ne_line (k45 _ _ (s4 _ _ hL3.tl)) h5 nl_lst), k45 _ _ (s4 _ _ hL3.tl)] at hl'
    cases hl'
   have hl7 : (upd (upd H5 ln (.ins t.c_Line dx (putF "node" (V.ref x) (fLine lc ((p + 1 + 1 + 1 + l.length : Nat) : Int) nv)))) l' (.lst [V.int 0])) l' = some (.lst [V.int 0]) := upd_same
   generalize upd (upd H5 ln (.ins t.c_Line dx (putF "node" (V.ref x) (fLine lc ((p + 1 + 1 + 1 + l.length : Nat) : Int) nv)))) l' (.lst [V.int 0]) = H7 at h7 k7 hl7 ⊢
   have htl3 := hL3.tl
   have htl4 := s4 _ _ htl3
   have gk : ∀ b o, hidL H3 H4 b = some o → NLine o → hid ⟨pl, hd, ar, kn0, as, ls, tl⟩ H7 b = some o := fun b o e n => by
    obtain ⟨q1, q2⟩ := hidL_get e
    exact hid_of (k7 _ _ (k45 _ _ q1) n) (ne_of_none q1 a4) fun z => q2 xs (by rw [z]; exact htl3)
   have hP7 : PlanAt t (hid ⟨pl, hd, ar, kn0, as, ls, tl⟩ H7) pl n (Sr36Neutral.passes l) as ls := hP.keep (fun b d n lp lo e => gk _ _ e (nl_head (by decide))) (fun b d k a c tk be en e => gk _ _ e (nl_head (by decide))) fun b xs e => gk _ _ e nl_lst
   rw [← Sn.plan_list n l hq] at hP7
   have hN7 : NodeAt t H7 x ⟨pl, hd, ar, kn0, as, ls, tl⟩ [] [] (Sr36.fresh (Sr36Neutral.plan n l) i) := ⟨⟨dxn, k7 _ _ e1 (nl_head (by decide))⟩, hP7, k7 _ _ e2 nl_dT, (fun z hz => by cases hz), rfl, k7 _ _ e3 nl_lst, (fun z hz => by cases hz), rfl, k7 _ _ e4 nl_dT, hne2, ⟨xs, k7 _ _ (k45 _ _ htl4) nl_lst⟩, Ne.symm (ne_of_none htl4 a4)⟩
   have hA7 : AInv (Sr36.fresh (Sr36Neutral.plan n l) i) := AInv.fresh (hgood.trans g) (by omega) (by rw [Sn.plan_list n l hq]; rfl)
   exact ky (hgood.trans g) (by omega) H7 l' ⟨⟨dx, .ref x, h7, x, _, _, _, rfl, rfl, hN7, hA7⟩, hL3.calls.keep fun o u e => k7 _ _ (k45 _ _ (s4 _ _ e)) nl_frz, k7 _ _ (k45 _ _ htl4) nl_lst⟩ hl7 hl'tl
end
end Pp
end
section
namespace Pp
open PySem PySem.Spec PyProof.Rows L2
theorem flat_start (n i : Int) (l : List Int) (r : List Sr36Neutral.Call) : PyFlat.put ([[0, n, i], l] :: r) = 0 :: n :: i :: (l.length : Int) :: (l ++ PyFlat.put r) := by
 simp [PyFlat.put, PyFlat.put1, PyFlat.putRows, PyFlat.putRow]
theorem flat_put (to e : Int) (l : List Int) (r : List Sr36Neutral.Call) : PyFlat.put ([[1, to, e], l] :: r) = 1 :: to :: e :: (l.length : Int) :: (l ++ PyFlat.put r) := by
 simp [PyFlat.put, PyFlat.put1, PyFlat.putRows, PyFlat.putRow]
theorem flat_heard (k : Int) (l : List Int) (r : List Sr36Neutral.Call) : PyFlat.put ([[3, k], l] :: r) = 3 :: k :: (l.length : Int) :: (l ++ PyFlat.put r) := by
 simp [PyFlat.put, PyFlat.put1, PyFlat.putRows, PyFlat.putRow]
theorem flat_one (k : Int) (r : List Sr36Neutral.Call) : PyFlat.put ([[k]] :: r) = k :: PyFlat.put r := by
 simp [PyFlat.put, PyFlat.put1, PyFlat.putRows]
theorem nat_of {z : Int} {b : Nat} (h : Sr36Neutral.natural z b = true) : ∃ n : Nat, z = (n : Int) ∧ z.toNat = n := by
 unfold Sr36Neutral.natural at h
 simp only [Bool.and_eq_true, decide_eq_true_eq] at h
 exact ⟨z.toNat, (Int.toNat_of_nonneg h.1).symm, rfl⟩
theorem nats_pos {l : List Int} (h : (l.all fun (x : Int) => Sr36Neutral.natural x 8) = true) : ∀ x ∈ l, 0 ≤ x ∧ x < 256 := fun x hx => by
 have := List.all_eq_true.mp h x hx
 unfold Sr36Neutral.natural at this
 simp only [Bool.and_eq_true, decide_eq_true_eq] at this
 omega
theorem tried_start {s s' : Sr36Neutral.S} {n i : Int} {l ans : List Int} (h : Sr36Neutral.tried s [[0, n, i], l] = some (s', ans)) :
  ((Sr35.good (Sr36Neutral.plan n l) = false ∨ (Sr36Neutral.plan n l).n ≤ i.toNat) ∧ s' = s ∧ ans = [-22]) ∨ (Sr35.good (Sr36Neutral.plan n l) = true ∧ i.toNat < (Sr36Neutral.plan n l).n ∧ s' = some (Sr36.fresh (Sr36Neutral.plan n l) i.toNat) ∧ ans = [0]) := by
 simp only [Sr36Neutral.tried, Sr36Neutral.callOf, Option.bind_some, Sr36Neutral.reckon] at h
 split at h
 ·rename_i c
  simp only [Option.map_some, Option.some.injEq, Prod.mk.injEq] at h
  exact .inl ⟨c, h.1.symm, h.2.symm⟩
 ·rename_i c
  simp only [Option.map_some, Option.some.injEq, Prod.mk.injEq] at h
  refine .inr ⟨?_, ?_, h.1.symm, h.2.symm⟩
  ·cases hg : Sr35.good (Sr36Neutral.plan n l) with
   | true => rfl
   | false => exact absurd (.inl hg) c
  ·exact Nat.lt_of_not_le fun q => c (.inr q)
theorem put_num (a : Sr36.Abs) (to e : Nat) (d : Option (List Nat)) : Sr36Neutral.given (a.put to e d).2 = numOf (a.put to e d).2 := by
 unfold Sr36.Abs.put
 split
 ·rfl
 ·split
  ·rfl
  ·split <;> rfl
theorem tried_put {s s' : Sr36Neutral.S} {to e : Int} {l ans : List Int} (h : Sr36Neutral.tried s [[1, to, e], l] = some (s', ans)) :
  ∃ a, s = some a ∧ s' = some (a.put to.toNat e.toNat (dataOpt (l.map Int.toNat))).1 ∧ ans = numOf (a.put to.toNat e.toNat (dataOpt (l.map Int.toNat))).2 := by
 have ed : (if l.length ≤ Sr36.MOST then some (Sr36Neutral.nats l) else none) = dataOpt (l.map Int.toNat) := by
  unfold dataOpt Sr36Neutral.nats
  rw [List.length_map]
 cases s with
 | none => cases h
 | some a =>
  simp only [Sr36Neutral.tried, Sr36Neutral.callOf, Option.bind_some, Sr36Neutral.reckon, ed, Option.map_some, Option.some.injEq, Prod.mk.injEq] at h
  refine ⟨a, rfl, h.1.symm, ?_⟩
  rw [← h.2, put_num]
  simp
theorem tried_tick {s s' : Sr36Neutral.S} {ans : List Int} (h : Sr36Neutral.tried s [[2]] = some (s', ans)) :
  ∃ a b evs an, s = some a ∧ Sr36Neutral.reckon (some a) .tick = some (evs, some b, an) ∧ s' = some b ∧ ans = Sr36Neutral.given an ++ evs.flatMap Sr36Neutral.told := by
 cases s with
 | none => cases h
 | some a =>
  simp only [Sr36Neutral.tried, Sr36Neutral.callOf, Option.bind_some] at h
  cases hr : Sr36Neutral.reckon (some a) .tick with
  | none => rw [hr] at h; cases h
  | some y =>
   obtain ⟨evs, b, an⟩ := y
   rw [hr] at h
   simp only [Option.map_some, Option.some.injEq, Prod.mk.injEq] at h
   have hb : ∃ b', b = some b' := by
    simp only [Sr36Neutral.reckon] at hr
    split at hr
    ·simp only [Option.some.injEq, Prod.mk.injEq] at hr
     exact ⟨a, hr.2.1.symm⟩
    ·split at hr
     ·split at hr
      ·cases hr
      ·split at hr
       ·cases hr
       ·simp only [Option.some.injEq, Prod.mk.injEq] at hr
        exact ⟨_, hr.2.1.symm⟩
     ·cases hr
   obtain ⟨b', rfl⟩ := hb
   exact ⟨a, b', evs, an, rfl, hr, h.1.symm, h.2.symm⟩
theorem tried_heard {s s' : Sr36Neutral.S} {k : Int} {l ans : List Int} (h : Sr36Neutral.tried s [[3, k], l] = some (s', ans)) :
  ∃ a, s = some a ∧ s' = some (a.heard k.toNat (msgOpt (l.map Int.toNat))).1 ∧ ans = Sr36Neutral.given (a.heard k.toNat (msgOpt (l.map Int.toNat))).2.1 ++ (a.heard k.toNat (msgOpt (l.map Int.toNat))).2.2.flatMap Sr36Neutral.told := by
 have ed : (if l.length ≤ 16 + Sr36.MOST then some (Sr36Neutral.nats l) else none) = msgOpt (l.map Int.toNat) := by
  unfold msgOpt Sr36Neutral.nats
  rw [List.length_map]
  rfl
 cases s with
 | none => cases h
 | some a =>
  simp only [Sr36Neutral.tried, Sr36Neutral.callOf, Option.bind_some, Sr36Neutral.reckon, ed, Option.map_some, Option.some.injEq, Prod.mk.injEq] at h
  exact ⟨a, rfl, h.1.symm, h.2.symm⟩
theorem tried_read {s s' : Sr36Neutral.S} {ans : List Int} (h : Sr36Neutral.tried s [[4]] = some (s', ans)) : ∃ a, s = some a ∧ s' = some a.read.1 ∧ ans = Sr36Neutral.given a.read.2 := by
 cases s with
 | none => cases h
 | some a =>
  simp only [Sr36Neutral.tried, Sr36Neutral.callOf, Option.bind_some, Sr36Neutral.reckon, Option.map_some, Option.some.injEq, Prod.mk.injEq] at h
  refine ⟨a, rfl, h.1.symm, ?_⟩
  rw [← h.2]
  simp
theorem tried_state {s s' : Sr36Neutral.S} {ans : List Int} (h : Sr36Neutral.tried s [[5]] = some (s', ans)) : ∃ a, s = some a ∧ s' = some a ∧ ans = [0, (a.now : Int), a.held.length, a.arrived.length, a.knows.length] := by
 cases s with
 | none => cases h
 | some a =>
  simp only [Sr36Neutral.tried, Sr36Neutral.callOf, Option.bind_some, Sr36Neutral.reckon, Option.map_some, Option.some.injEq, Prod.mk.injEq] at h
  refine ⟨a, rfl, h.1.symm, ?_⟩
  rw [← h.2]
  rfl
section
variable {P : Program} {w : World} {K : PySem.W.Frag} {mg : Str → Option Value} {base : Heap} {t : Adr}
def spCall (t : Adr) (K : PySem.W.Frag) : Sp := fun vs H Q _ => ∃ (ln lc tl : Addr) (L : List Int) (p : Nat) (s s' : Sr36Neutral.S) (c : Sr36Neutral.Call) (r : List Sr36Neutral.Call) (xs : List V) (ans : List Int), vs = [.ref ln] ∧ LineAt t K H ln lc tl L p s xs ∧ L.drop p = PyFlat.put (c :: r) ∧
 Sn.Form c ∧ Sr36Neutral.tried s c = some (s', ans) ∧ lineEnd t K ln lc tl L (p + (PyFlat.put1 c).length) s' xs ans Q
def spAnswers (K : PySem.W.Frag) : Sp := fun vs H Q _ => ∃ (lc : Addr) (L : List Int), vs = [.ref lc] ∧ CallsAt K H lc L ∧ PySr36.answers_asked L = true ∧ ∀ (H' : Hp) (l : Addr), H' l = some (.lst ((PySr36.answers L).map V.int)) → Q (.ref l) H'
theorem put1_ne {c : Sr36Neutral.Call} (h : Sn.Form c) : 0 < (PyFlat.put1 c).length := by
 cases h <;> (simp only [PyFlat.put1, List.length_append, List.length_cons]; omega)
theorem ok_answers (T : Tx K mg t) (G_Line_answer_call : FnOk P w K mg base CX0 7 t.f_Line_answer_call t.d_Line_answer_call ["self"] (spCall t K)) : FnOk P w K mg base CX0 8 t.f_answers t.d_answers ["calls"] (spAnswers K) := by
 have G_Line_init : FnOk P w K mg base CX0 1 t.f_Line_init t.d_Line_init ["self", "calls"] (spLine_init t) := ok_Line_init T
 have G_Line_has_more : FnOk P w K mg base CX0 1 t.f_Line_has_more t.d_Line_has_more ["self"] (spHas_more t K) := ok_Line_has_more T
 refine T.fn_answers.ok sc_answers (fun vs H Q E h => ?_) (fun cdv A outer s0 H vs Q E hr h => ?_)
 ·obtain ⟨lc, L, rfl, _⟩ := h
  rfl
 ·obtain ⟨lc, L, rfl, hC, hask, k⟩ := h
  obtain ⟨cs, hcs, hput, hform, hlen, hmay, hans, hal⟩ := Sn.asked_of hask
  refine ⟨_, (pss_cons (ps_set (i := 1) sc_answers.nd rfl (by first | exact Or.inl rfl | exact Or.inr rfl) (pe_make T.mk_Line G_Line_init (hr.mono (by decide)) (by rfl) T.gC_Line T.bi_Line_init .nil pass0 (pa_cons (pv 0) pa_nil)))
   (pss_cons (ps_set (i := 2) sc_answers.nd rfl (by first | exact Or.inl rfl | exact Or.inr rfl) (pe_lst pa_nil))
   (pss_cons (ps_while PassesOwn.never (pt_val (pe_meth0 (pv 1) T.cl_Line T.me_Line_has_more G_Line_has_more (hr.mono (by decide)) T.bi_Line_has_more .nil pass0)) (pss_cons (ps_set (i := 3) sc_answers.nd rfl (by first | exact Or.inl rfl | exact Or.inr rfl) (pe_meth0 (pv 1) T.cl_Line T.me_Line_answer_call G_Line_answer_call (hr.mono (by decide)) T.bi_Line_answer_call .nil pass0))
   (pss_cons (ps_expr (pe_bm PySem.F.plainAttrs_list PySem.F.slot_list_append PySem.F.type_list_append mt_append (pv 2) (pa_cons (pe_callB call_len_seq (by rfl) T.b_len bt_len (pa_cons (pv 3) pa_nil)) pa_nil)))
   (pss_one (ps_expr (pe_bm PySem.F.plainAttrs_list PySem.F.slot_list_extend PySem.F.type_list_extend mt_extend (pv 2) (pa_cons (pv 3) pa_nil)))))))
   (pss_one (ps_ret (pv 2)))))), ?_⟩
  refine ⟨_, rfl, fun ln dx hln hdx hne => ⟨ln, dx, lc, rfl, upd_same, rfl, ?_⟩⟩
  rw [upd_upd]
  have s1 : Same H (upd (upd H dx (.own ln)) ln (.ins t.c_Line dx (fLine lc 0 .non))) := same_over (same_fresh hdx) hln
  refine ⟨Nat.zero_le _, fun tl htl => ?_⟩
  have s2 := same_fresh (o := .lst []) htl
  have hL0 : LineAt t K (upd (upd (upd H dx (.own ln)) ln (.ins t.c_Line dx (fLine lc 0 .non))) tl (.lst [])) ln lc tl L 0 none [] := ⟨⟨dx, .non, s2 _ _ upd_same, rfl⟩, hC.keep fun o u e => s2 _ _ (s1 _ _ e), upd_same⟩
  refine ⟨fun m σ H' => ∃ (v3 : Option V) (r : List Sr36Neutral.Call) (s : Sr36Neutral.S) (p : Nat) (out : List Int), σ = [some (.ref lc), some (.ref ln), some (.ref tl), v3] ∧ LineAt t K H' ln lc tl L p s (out.map V.int) ∧ L.drop p = PyFlat.put r ∧ (∀ c ∈ r, Sn.Form c) ∧ Sr36Neutral.may s r = true ∧
   out ++ PyFlat.told (PyFlat.played Sr36Neutral.step s r) = PySr36.answers L ∧ m = r.length, ?_, fun m σ H' hI => ?_⟩
  ·exact ⟨_, none, cs, none, 0, [], rfl, hL0, hput, hform, hmay, hans.symm, rfl⟩
  ·obtain ⟨v3, r, s, p, out, rfl, hL, hd, hf, hm, ho, rfl⟩ := hI
   obtain ⟨dx', nv, h1, hS⟩ := hL.obj
   refine ⟨_, rfl, ln, dx', _, rfl, h1, rfl, ln, dx', lc, p, nv, L, rfl, h1, hL.calls, _, rfl, ite2 (fun c => ?_) (fun c => ?_)⟩
   ·have c : p < L.length := of_decide_eq_true c
    cases r with
    | nil =>
     exfalso
     have := congrArg List.length hd
     rw [List.length_drop] at this
     have e0 : (PyFlat.put []).length = 0 := rfl
     omega
    | cons c0 r =>
     obtain ⟨s', ans, t1, t2, t3⟩ := Sn.may_cons hm
     refine ⟨_, fun σ' H2 h2 => h2, ?_⟩
     refine ⟨_, rfl, ln, dx', _, rfl, h1, rfl, ln, lc, tl, L, p, s, s', c0, r, _, ans, rfl, hL, hd, hf c0 List.mem_cons_self, t1, fun H2 l hL2 hl2 hne2 => ?_⟩
     have hda : PyFlat.told (PyFlat.played Sr36Neutral.step s (c0 :: r)) = ((ans.length : Int) :: ans) ++ PyFlat.told (PyFlat.played Sr36Neutral.step s' r) := Sn.told_cons t3
     have hsz : out.length + (1 + ans.length) ≤ 1001000 := by
      have := congrArg List.length ho
      rw [hda, List.length_append, List.length_append, List.length_cons] at this
      omega
     have szl : sizeLine = 16777216 := sizeLine_eq
     refine ⟨_, rfl, .inl ⟨rfl, _, SqL.of hL2.tl⟩, _, rfl, l, _, rfl, .inl (SqL.of hl2), tl, _, _, rfl, rfl, hL2.tl, ?_, ?_⟩
     ·rw [List.length_map]
      omega
     have hL3 := hL2.retl (out.map V.int ++ [V.int ((ans.map V.int).length : Nat)])
     have hl3 : (upd H2 tl (.lst (out.map V.int ++ [V.int ((ans.map V.int).length : Nat)]))) l = some (.lst (ans.map V.int)) := by rw [upd_ne hne2]; exact hl2
     refine ⟨_, rfl, .inl ⟨rfl, _, SqL.of hL3.tl⟩, _, rfl, tl, l, _, _, rfl, rfl, hL3.tl, hl3, ?_, ?_⟩
     ·rw [List.length_append, List.length_map, List.length_map]
      show out.length + 1 + ans.length ≤ sizeLine
      omega
     have hL4 := hL3.retl (out.map V.int ++ [V.int ((ans.map V.int).length : Nat)] ++ ans.map V.int)
     have eo : out.map V.int ++ [V.int ((ans.map V.int).length : Nat)] ++ ans.map V.int = (out ++ (((ans.length : Nat) : Int) :: ans)).map V.int := by
      rw [List.map_append, List.map_cons, List.append_assoc, List.length_map]
      rfl
     refine ⟨r.length, Nat.lt_succ_self _, some (.ref l), r, s', p + (PyFlat.put1 c0).length, out ++ (((ans.length : Nat) : Int) :: ans), rfl, by rw [← eo]; exact hL4, ?_, fun c hc => hf c (List.mem_cons_of_mem _ hc), t2, ?_, rfl⟩
     ·rw [← List.drop_drop, hd]
      show (PyFlat.put1 c0 ++ PyFlat.put r).drop _ = _
      rw [List.drop_left]
     ·rw [← ho, hda, List.append_assoc]
   ·have c : ¬ p < L.length := fun q => c (decide_eq_true q)
    have hr0 : r = [] := by
     cases r with
     | nil => rfl
     | cons c0 r =>
      exfalso
      have h2 := congrArg List.length hd
      rw [List.length_drop] at h2
      have h3 : (PyFlat.put (c0 :: r)).length = (PyFlat.put1 c0).length + (PyFlat.put r).length := List.length_append
      have h4 := put1_ne (hf c0 List.mem_cons_self)
      omega
    subst hr0
    have ho : out ++ [] = PySr36.answers L := ho
    rw [List.append_nil] at ho
    refine ⟨_, rfl, k _ tl ?_⟩
    rw [← ho]
    exact hL.tl
end
end Pp
end
section
namespace Pp
open PySem PySem.Spec PyProof.Rows L2
section
variable {P : Program} {w : World} {K : PySem.W.Frag} {mg : Str → Option Value} {base : Heap} {t : Adr}
def spAheard (t : Adr) (K : PySem.W.Frag) : Sp := fun vs H Q _ => ∃ (ln lc tl : Addr) (L R l : List Int) (p k : Nat) (a : Sr36.Abs) (xs : List V), vs = [.ref ln] ∧ LineAt t K H ln lc tl L p (some a) xs ∧ L.drop p = (k : Int) :: (l.length : Int) :: (l ++ R) ∧
 (∀ x ∈ l, 0 ≤ x ∧ x < 256) ∧ lineEnd t K ln lc tl L (p + 2 + l.length) (some (a.heard k (msgOpt (l.map Int.toNat))).1) xs (Sr36Neutral.given (a.heard k (msgOpt (l.map Int.toNat))).2.1 ++ (a.heard k (msgOpt (l.map Int.toNat))).2.2.flatMap Sr36Neutral.told) Q
theorem ok_Line_answer_heard (T : Tx K mg t) : FnOk P w K mg base CX0 6 t.f_Line_answer_heard t.d_Line_answer_heard ["self"] (spAheard t K) := by
 have G_Line_take_number : FnOk P w K mg base CX0 1 t.f_Line_take_number t.d_Line_take_number ["self"] (spTake t K) := ok_Line_take_number T
 have G_Line_take_row : FnOk P w K mg base CX0 2 t.f_Line_take_row t.d_Line_take_row ["self"] (spTake_row t K) := ok_Line_take_row T
 have G_Node_hear : FnOk P w K mg base CX0 5 t.f_Node_hear t.d_Node_hear ["self", "pass_number", "message"] (spHear t) := ok_Node_hear T
 refine T.fn_Line_answer_heard.ok sc_Line_answer_heard (fun vs H Q E h => ?_) (fun cdv A outer s H vs Q E hr h => ?_)
 ·obtain ⟨ln, lc, tl, L, R, l, p, k, a, xs, rfl, _⟩ := h
  rfl
 ·obtain ⟨ln, lc, tl, L, R, l, p, k, a, xs, rfl, hL, hd, hpos, q⟩ := h
  have cl := T.cl_Line
  obtain ⟨dx, nv, h1, hS⟩ := hL.obj
  obtain ⟨nd, N, Z, Za, rfl, htl, hN, hA⟩ := hS
  obtain ⟨_, hd1, _⟩ := get_of_drop hd
  refine ⟨_, (pss_cons (ps_set (i := 1) sc_Line_answer_heard.nd rfl (by first | exact Or.inl rfl | exact Or.inr rfl) (pe_meth0 (pv 0) T.cl_Line T.me_Line_take_number G_Line_take_number (hr.mono (by decide)) T.bi_Line_take_number .nil pass0))
   (pss_one (ps_ret (pe_meth (pe_fld (pv 0) rfl) T.cl_Node T.me_Node_hear G_Node_hear (hr.mono (by decide)) T.bi_Node_hear .nil pass0 (pa_cons (pv 1) (pa_cons (pe_meth0 (pv 0) T.cl_Line T.me_Line_take_row G_Line_take_row (hr.mono (by decide)) T.bi_Line_take_row .nil pass0) pa_nil)))))), ?_⟩
  refine ⟨_, rfl, ln, dx, _, rfl, h1, rfl, ln, dx, lc, p, _, L, _, _, rfl, h1, hL.calls, hd, ?_⟩
  have hL2 := hL.move h1 (upd_same (H := H) (o := .ins t.c_Line dx (fLine lc ((p + 1 : Nat) : Int) (.ref nd)))) fun b o e ne => by rw [upd_ne ne]; exact e
  have h2 : (upd H ln (.ins t.c_Line dx (fLine lc ((p + 1 : Nat) : Int) (.ref nd)))) ln = some (.ins t.c_Line dx (fLine lc ((p + 1 : Nat) : Int) (.ref nd))) := upd_same
  have hN2 : NodeAt t (upd H ln (.ins t.c_Line dx (fLine lc ((p + 1 : Nat) : Int) (.ref nd)))) nd N Z Za a := hN.keepL fun b o e n => by rw [upd_ne (ne_line e h1 n)]; exact e
  obtain ⟨dn, hn2⟩ := hN2.obj
  refine ⟨_, rfl, ln, _, dx, _, _, rfl, h2, cl, T.na_Line_node, rfl, nd, dn, _, rfl, hn2, rfl, _, rfl, _, rfl, ln, dx, _, rfl, h2, rfl, ln, dx, lc, p + 1, _, L, R, l, rfl, h2, hL2.calls, hd1, fun H3 lr k3 hlr0 h3 hlr => ?_⟩
  have hN3 : NodeAt t H3 nd N Z Za a := hN2.keepL fun b o e n => k3 b o e (ne_line e h2 n)
  have hL3 : LineAt t K H3 ln lc tl L (p + 1 + 1 + l.length) (some a) xs := hL2.move h2 h3 k3
  obtain ⟨ts, htl2⟩ := hN2.tl
  refine ⟨nd, lr, N, Z, Za, a, k, l.map Int.toNat, rfl, hN3, hA, by rw [← nsV_of fun x hx => (hpos x hx).1]; exact hlr, Ne.symm (ne_of_none hN2.arr hlr0), Ne.symm (ne_of_none htl2 hlr0), fun x hx => ?_, fun H4 l4 N4 Z4 Za4 hN4 hl4 ne4 k4 f4 t4 => ?_⟩
  ·obtain ⟨z, hz, rfl⟩ := List.mem_map.mp hx
   have := hpos z hz
   omega
  ·exact q H4 l4 (hL3.node h3 hN3 htl hN4 (hA.heard _ _) k4 t4) hl4 (by rw [← htl]; exact ne4)
theorem ok_Line_answer_call (T : Tx K mg t) : FnOk P w K mg base CX0 7 t.f_Line_answer_call t.d_Line_answer_call ["self"] (spCall t K) := by
 have G_Line_take_number : FnOk P w K mg base CX0 1 t.f_Line_take_number t.d_Line_take_number ["self"] (spTake t K) := ok_Line_take_number T
 have G_Line_answer_start : FnOk P w K mg base CX0 6 t.f_Line_answer_start t.d_Line_answer_start ["self"] (spAstart t K) := ok_Line_answer_start T
 have G_Line_answer_put : FnOk P w K mg base CX0 4 t.f_Line_answer_put t.d_Line_answer_put ["self"] (spAput t K) := ok_Line_answer_put T
 have G_Line_answer_heard : FnOk P w K mg base CX0 6 t.f_Line_answer_heard t.d_Line_answer_heard ["self"] (spAheard t K) := ok_Line_answer_heard T
 have G_Node_tick : FnOk P w K mg base CX0 6 t.f_Node_tick t.d_Node_tick ["self"] (spTick t) := ok_Node_tick T
 have G_Node_read : FnOk P w K mg base CX0 1 t.f_Node_read t.d_Node_read ["self"] (spRead t) := ok_Node_read T
 have G_Node_state : FnOk P w K mg base CX0 1 t.f_Node_state t.d_Node_state ["self"] (spState t) := ok_Node_state T
 refine T.fn_Line_answer_call.ok sc_Line_answer_call (fun vs H Q E h => ?_) (fun cdv A outer s0 H vs Q E hr h => ?_)
 ·obtain ⟨ln, lc, tl, L, p, s, s', c, r, xs, ans, rfl, _⟩ := h
  rfl
 ·obtain ⟨ln, lc, tl, L, p, s, s', c, r, xs, ans, rfl, hL, hd, hF, hT, k⟩ := h
  have cl := T.cl_Line
  obtain ⟨dx, nv, h1, hS⟩ := hL.obj
  refine ⟨_, (pss_cons (ps_set (i := 1) sc_Line_answer_call.nd rfl (by first | exact Or.inl rfl | exact Or.inr rfl) (pe_meth0 (pv 0) T.cl_Line T.me_Line_take_number G_Line_take_number (hr.mono (by decide)) T.bi_Line_take_number .nil pass0))
   (pss_cons (ps_if (pt_cmpR op_eq (pv 1) (pk (by rfl) T.k_CALL_START) (nomark _)) (pss_one (ps_ret (pe_meth0 (pv 0) T.cl_Line T.me_Line_answer_start G_Line_answer_start (hr.mono (by decide)) T.bi_Line_answer_start .nil pass0))) pss_nil)
   (pss_cons (ps_if (pt_cmpR op_eq (pv 1) (pk (by rfl) T.k_CALL_PUT) (nomark _)) (pss_one (ps_ret (pe_meth0 (pv 0) T.cl_Line T.me_Line_answer_put G_Line_answer_put (hr.mono (by decide)) T.bi_Line_answer_put .nil pass0))) pss_nil)
   (pss_cons (ps_if (pt_cmpR op_eq (pv 1) (pk (by rfl) T.k_CALL_TICK) (nomark _)) (pss_one (ps_ret (pe_meth0 (pe_fld (pv 0) rfl) T.cl_Node T.me_Node_tick G_Node_tick (hr.mono (by decide)) T.bi_Node_tick .nil pass0))) pss_nil)
   (pss_cons (ps_if (pt_cmpR op_eq (pv 1) (pk (by rfl) T.k_CALL_HEARD) (nomark _)) (pss_one (ps_ret (pe_meth0 (pv 0) T.cl_Line T.me_Line_answer_heard G_Line_answer_heard (hr.mono (by decide)) T.bi_Line_answer_heard .nil pass0))) pss_nil)
   (pss_cons (ps_if (pt_cmpR op_eq (pv 1) (pk (by rfl) T.k_CALL_READ) (nomark _)) (pss_one (ps_ret (pe_meth0 (pe_fld (pv 0) rfl) T.cl_Node T.me_Node_read G_Node_read (hr.mono (by decide)) T.bi_Node_read .nil pass0))) pss_nil)
   (pss_cons (ps_if (pt_cmpR op_eq (pv 1) (pk (by rfl) T.k_CALL_STATE) (nomark _)) (pss_one (ps_ret (pe_meth0 (pe_fld (pv 0) rfl) T.cl_Node T.me_Node_state G_Node_state (hr.mono (by decide)) T.bi_Node_state .nil pass0))) pss_nil)
   (pss_one ps_never)))))))), ?_⟩
  have mv : ∀ {H' : Hp}, H' = upd H ln (.ins t.c_Line dx (fLine lc ((p + 1 : Nat) : Int) nv)) → LineAt t K H' ln lc tl L (p + 1) s xs ∧ H' ln = some (.ins t.c_Line dx (fLine lc ((p + 1 : Nat) : Int) nv)) := fun e => by
   subst e
   exact ⟨hL.move h1 upd_same fun b o e ne => by rw [upd_ne ne]; exact e, upd_same⟩
  cases hF with
  | start n i l a1 a2 a3 a4 =>
   rw [flat_start] at hd
   obtain ⟨_, hd1, _⟩ := get_of_drop hd
   refine ⟨_, rfl, ln, dx, _, rfl, h1, rfl, ln, dx, lc, p, nv, L, _, _, rfl, h1, hL.calls, hd, ?_⟩
   generalize hH1 : upd H ln _ = H1
   obtain ⟨hL1, h2⟩ := mv hH1.symm
   obtain ⟨n, rfl, en⟩ := nat_of a1
   obtain ⟨i, rfl, ei⟩ := nat_of a2
   refine ⟨_, rfl, rfl, _, rfl, iteT ?_⟩
   refine ⟨_, rfl, ln, dx, _, rfl, h2, rfl, ln, lc, tl, L, _, l, p + 1, n, i, s, xs, rfl, hL1, hd1, a4, a3, fun q => ?_, fun q1 q2 => ?_⟩
   ·rcases tried_start hT with ⟨_, rfl, rfl⟩ | ⟨g1, g2, _, _⟩
    ·rw [show p + (PyFlat.put1 [[0, (n : Int), (i : Int)], l]).length = p + 1 + 3 + l.length from by simp [PyFlat.put1, PyFlat.putRows, PyFlat.putRow]; omega] at k
     exact k
    ·exfalso
     rcases q with q | q
     ·rw [q] at g1
      cases g1
     ·rw [ei] at g2
      omega
   ·rcases tried_start hT with ⟨g1, _, _⟩ | ⟨_, _, rfl, rfl⟩
    ·exfalso
     rcases g1 with g | g
     ·rw [g] at q1
      cases q1
     ·rw [ei] at g
      omega
    ·rw [show p + (PyFlat.put1 [[0, (n : Int), (i : Int)], l]).length = p + 1 + 3 + l.length from by simp [PyFlat.put1, PyFlat.putRows, PyFlat.putRow]; omega] at k
     exact k
  | put to e l a1 a2 a3 a4 =>
   rw [flat_put] at hd
   obtain ⟨_, hd1, _⟩ := get_of_drop hd
   refine ⟨_, rfl, ln, dx, _, rfl, h1, rfl, ln, dx, lc, p, nv, L, _, _, rfl, h1, hL.calls, hd, ?_⟩
   generalize hH1 : upd H ln _ = H1
   obtain ⟨hL1, h2⟩ := mv hH1.symm
   obtain ⟨to, rfl, en⟩ := nat_of a1
   obtain ⟨e, rfl, ei⟩ := nat_of a2
   obtain ⟨a, rfl, rfl, rfl⟩ := tried_put hT
   refine ⟨_, rfl, rfl, _, rfl, iteF ?_⟩
   refine ⟨_, rfl, rfl, _, rfl, iteT ?_⟩
   refine ⟨_, rfl, ln, dx, _, rfl, h2, rfl, ln, lc, tl, L, _, l, p + 1, to, e, a, xs, rfl, hL1, hd1, a4, fun x hx => (nats_pos a3 x hx).1, ?_⟩
   rw [show p + (PyFlat.put1 [[1, (to : Int), (e : Int)], l]).length = p + 1 + 3 + l.length from by simp [PyFlat.put1, PyFlat.putRows, PyFlat.putRow]; omega] at k
   exact k
  | tick =>
   rw [flat_one] at hd
   refine ⟨_, rfl, ln, dx, _, rfl, h1, rfl, ln, dx, lc, p, nv, L, _, _, rfl, h1, hL.calls, hd, ?_⟩
   generalize hH1 : upd H ln _ = H1
   obtain ⟨hL1, h2⟩ := mv hH1.symm
   obtain ⟨a, b, evs, an, rfl, hR, rfl, rfl⟩ := tried_tick hT
   obtain ⟨nd, N, Z, Za, rfl, htl, hN, hA⟩ := hS
   have hN1 : NodeAt t H1 nd N Z Za a := by
    rw [← hH1]
    exact hN.keepL fun b o e n => by rw [upd_ne (ne_line e h1 n)]; exact e
   obtain ⟨dn, hn1⟩ := hN1.obj
   refine ⟨_, rfl, rfl, _, rfl, iteF ?_⟩
   refine ⟨_, rfl, rfl, _, rfl, iteF ?_⟩
   refine ⟨_, rfl, rfl, _, rfl, iteT ?_⟩
   refine ⟨_, rfl, ln, _, dx, _, _, rfl, h2, cl, T.na_Line_node, rfl, nd, dn, _, rfl, hn1, rfl, nd, N, Z, Za, a, b, evs, an, rfl, hN1, hA, hR, fun H4 l4 N4 Z4 Za4 hN4 hl4 ne4 k4 f4 t4 => ?_⟩
   exact k H4 l4 (hL1.node h2 hN1 htl hN4 (tick_inv hA hR) k4 t4) hl4 (by rw [← htl]; exact ne4)
  | heard kk l a1 a2 a3 =>
   rw [flat_heard] at hd
   obtain ⟨_, hd1, _⟩ := get_of_drop hd
   refine ⟨_, rfl, ln, dx, _, rfl, h1, rfl, ln, dx, lc, p, nv, L, _, _, rfl, h1, hL.calls, hd, ?_⟩
   generalize hH1 : upd H ln _ = H1
   obtain ⟨hL1, h2⟩ := mv hH1.symm
   obtain ⟨kk, rfl, en⟩ := nat_of a1
   obtain ⟨a, rfl, rfl, rfl⟩ := tried_heard hT
   refine ⟨_, rfl, rfl, _, rfl, iteF ?_⟩
   refine ⟨_, rfl, rfl, _, rfl, iteF ?_⟩
   refine ⟨_, rfl, rfl, _, rfl, iteF ?_⟩
   refine ⟨_, rfl, rfl, _, rfl, iteT ?_⟩
   refine ⟨_, rfl, ln, dx, _, rfl, h2, rfl, ln, lc, tl, L, _, l, p + 1, kk, a, xs, rfl, hL1, hd1, nats_pos a2, ?_⟩
   rw [show p + (PyFlat.put1 [[3, (kk : Int)], l]).length = p + 1 + 2 + l.length from by simp [PyFlat.put1, PyFlat.putRows, PyFlat.putRow]; omega] at k
   exact k
  | read =>
   rw [flat_one] at hd
   refine ⟨_, rfl, ln, dx, _, rfl, h1, rfl, ln, dx, lc, p, nv, L, _, _, rfl, h1, hL.calls, hd, ?_⟩
   generalize hH1 : upd H ln _ = H1
   obtain ⟨hL1, h2⟩ := mv hH1.symm
   obtain ⟨a, rfl, rfl, rfl⟩ := tried_read hT
   obtain ⟨nd, N, Z, Za, rfl, htl, hN, hA⟩ := hS
   have hN1 : NodeAt t H1 nd N Z Za a := by
    rw [← hH1]
    exact hN.keepL fun b o e n => by rw [upd_ne (ne_line e h1 n)]; exact e
   obtain ⟨dn, hn1⟩ := hN1.obj
   refine ⟨_, rfl, rfl, _, rfl, iteF ?_⟩
   refine ⟨_, rfl, rfl, _, rfl, iteF ?_⟩
   refine ⟨_, rfl, rfl, _, rfl, iteF ?_⟩
   refine ⟨_, rfl, rfl, _, rfl, iteF ?_⟩
   refine ⟨_, rfl, rfl, _, rfl, iteT ?_⟩
   refine ⟨_, rfl, ln, _, dx, _, _, rfl, h2, cl, T.na_Line_node, rfl, nd, dn, _, rfl, hn1, rfl, nd, N, Z, Za, a, rfl, hN1, hA, fun H4 l4 N4 Z4 Za4 hN4 hl4 ne4 k4 f4 t4 => ?_⟩
   exact k H4 l4 (hL1.node h2 hN1 htl hN4 hA.read k4 t4) hl4 (by rw [← htl]; exact ne4)
  | state =>
   rw [flat_one] at hd
   refine ⟨_, rfl, ln, dx, _, rfl, h1, rfl, ln, dx, lc, p, nv, L, _, _, rfl, h1, hL.calls, hd, ?_⟩
   generalize hH1 : upd H ln _ = H1
   obtain ⟨hL1, h2⟩ := mv hH1.symm
   obtain ⟨a, rfl, rfl, rfl⟩ := tried_state hT
   obtain ⟨nd, N, Z, Za, rfl, htl, hN, hA⟩ := hS
   have hN1 : NodeAt t H1 nd N Z Za a := by
    rw [← hH1]
    exact hN.keepL fun b o e n => by rw [upd_ne (ne_line e h1 n)]; exact e
   obtain ⟨dn, hn1⟩ := hN1.obj
   refine ⟨_, rfl, rfl, _, rfl, iteF ?_⟩
   refine ⟨_, rfl, rfl, _, rfl, iteF ?_⟩
   refine ⟨_, rfl, rfl, _, rfl, iteF ?_⟩
   refine ⟨_, rfl, rfl, _, rfl, iteF ?_⟩
   refine ⟨_, rfl, rfl, _, rfl, iteF ?_⟩
   refine ⟨_, rfl, rfl, _, rfl, iteT ?_⟩
   refine ⟨_, rfl, ln, _, dx, _, _, rfl, h2, cl, T.na_Line_node, rfl, nd, dn, _, rfl, hn1, rfl, nd, N, Z, Za, a, rfl, hN1, fun H4 l4 N4 Z4 Za4 hN4 hl4 ne4 k4 f4 t4 => ?_⟩
   exact k H4 l4 (hL1.node h2 hN1 htl hN4 hA k4 t4) hl4 (by rw [← htl]; exact ne4)
end
end Pp
end
namespace Pp
open PySem PySem.Spec PyProof.Rows L2 PySem.W
def fnO (x qual : Str) (st : Stmt) (dV : Value) (a b : Option Addr) (s : Array (Option Value)) (d e g h i j : Value) : Obj := ⟨d, a, .func (PySem.W.fnOf x qual (defArgs st) (defBody st) (defScope st) dV e g h b i j), s⟩
theorem tx_fun {K : PySem.W.Frag} {x qual : Str} {st : Stmt} {f : Addr} (ps : List Str) {a b : Option Addr} {s : Array (Option Value)} {d e g h i j : Value}
  (l : K.lookup f = some (fnO x qual st .none a b s d e g h i j)) (c : PySem.W.codeIn K i qual = true) (k : PySem.W.keepIn K (.ref f) = true)
  (hb : ∀ (kV doc pm : Value) (an : Option Addr) (cdv ct : Value) (us : List Value), us.length = ps.length → bindArgs (PySem.W.fnOf x qual (defArgs st) (defBody st) (defScope st) .none kV doc pm an cdv ct) ⟨us, []⟩ = pure (ps.zip us)) :
  ∃ fd : FuncData, Fun K x qual st f fd ∧ Binds K fd ps [] ∧ ∀ (s : Shared) (us : List Value), us.length = ps.length → BindsTo s fd ⟨us, []⟩ (ps.zip us) := ⟨_, fun_mk l c k, (fun_mk l c k).binds hb, fun _ us hl => .of_eq (hb _ _ _ _ _ _ us hl)⟩
theorem tx_funD {K : PySem.W.Frag} {x qual : Str} {st : Stmt} {f T : Addr} (ps : List Str) {a b : Option Addr} {s : Array (Option Value)} {d e g h i j : Value} {dc v : Value} {dd : Option Addr} {dn : Nat} {dsl : Array (Option Value)}
  (l : K.lookup f = some (fnO x qual st (.ref T) a b s d e g h i j)) (c : PySem.W.codeIn K i qual = true) (hd : K.lookup T = some ⟨dc, dd, .seq #[v] dn, dsl⟩)
  (h1 : ∀ us : List Value, us.length = ps.length → ∃ kk : Option (Array Value) → Sem (List (Str × Value)), bindArgs (PySem.W.fnOf x qual (defArgs st) (defBody st) (defScope st) (.ref T) e g h b i j) ⟨us, []⟩ = seqItems? (.ref T) >>= kk ∧ kk (some #[v]) = pure (ps.zip us))
  (h2 : ∀ us : List Value, us.length + 1 = ps.length → ∃ kk : Option (Array Value) → Sem (List (Str × Value)), bindArgs (PySem.W.fnOf x qual (defArgs st) (defBody st) (defScope st) (.ref T) e g h b i j) ⟨us, []⟩ = seqItems? (.ref T) >>= kk ∧ kk (some #[v]) = pure (ps.zip (us ++ [v]))) :
  ∃ fd : FuncData, FunD K x qual st f fd ∧ Binds K fd ps [] ∧ Binds K fd ps [v] := by
 refine ⟨_, ⟨d, .ref T, a, e, g, h, b, i, j, s, rfl, l, c⟩, fun s us X hl => ?_, fun s us X hl => ?_⟩
 ·rw [List.append_nil] at hl ⊢
  obtain ⟨kk, e1, e2⟩ := h1 us hl
  exact PySem.W.binds_K X rfl hd rfl e1 e2
 ·rw [List.length_append] at hl
  obtain ⟨kk, e1, e2⟩ := h2 us hl
  exact PySem.W.binds_K X rfl hd rfl e1 e2
theorem all_mk {K : PySem.W.Frag} {hp : Heap} {mg : Str → Option Value} (X : K.In hp) (G : hp.Ns mainGlobals mg)
  {c1 c2 c3 c4 c5 c6 c7 f1 f2 f3 f4 f5 f6 f7 f8 f9 f10 f11 f12 f13 f14 f15 f16 f17 f18 f19 f20 f21 f22 f23 f24 f25 f26 f27 f28 f29 f30 f31 f32 f33 f34 f35 f36 f37 f38 f39 f40 f41 f42 f43 f44 f45 f46 f47 f48 f49 f50 f51 f52 f53 f54 f55 f56 f57 : Addr} {a1 b1 a2 b2 a3 b3 a4 b4 a5 b5 a6 b6 a7 b7 a8 b8 a9 b9 a10 b10 a11 b11 a12 b12 a13 b13 a14 b14 a15 b15 a16 b16 a17 b17 a18 b18 a19 b19 a20 b20 a21 b21 a22 b22 a23 b23 a24 b24 a25 b25 a26 b26 a27 b27 a28 b28 a29 b29 a30 b30 a31 b31 a32 b32 a33 b33 a34 b34 a35 b35 a36 b36 a37 b37 a38 b38 a39 b39 a40 b40 a41 b41 a42 b42 a43 b43 a44 b44 a45 b45 a46 b46 a47 b47 a48 b48 a49 b49 a50 b50 a51 b51 a52 b52 a53 b53 a54 b54 a55 b55 a56 b56 a57 b57 : Option Addr} {s1 s2 s3 s4 s5 s6 s7 s8 s9 s10 s11 s12 s13 s14 s15 s16 s17 s18 s19 s20 s21 s22 s23 s24 s25 s26 s27 s28 s29 s30 s31 s32 s33 s34 s35 s36 s37 s38 s39 s40 s41 s42 s43 s44 s45 s46 s47 s48 s49 s50 s51 s52 s53 s54 s55 s56 s57 : Array (Option Value)} {d1 e1 g1 h1 i1 j1 d2 e2 g2 h2 i2 j2 d3 e3 g3 h3 i3 j3 d4 e4 g4 h4 i4 j4 d5 e5 g5 h5 i5 j5 d6 e6 g6 h6 i6 j6 d7 e7 g7 h7 i7 j7 d8 e8 g8 h8 i8 j8 d9 e9 g9 h9 i9 j9 d10 e10 g10 h10 i10 j10 d11 e11 g11 h11 i11 j11 d12 e12 g12 h12 i12 j12 d13 e13 g13 h13 i13 j13 d14 e14 g14 h14 i14 j14 d15 e15 g15 h15 i15 j15 d16 e16 g16 h16 i16 j16 d17 e17 g17 h17 i17 j17 d18 e18 g18 h18 i18 j18 d19 e19 g19 h19 i19 j19 d20 e20 g20 h20 i20 j20 d21 e21 g21 h21 i21 j21 d22 e22 g22 h22 i22 j22 d23 e23 g23 h23 i23 j23 d24 e24 g24 h24 i24 j24 d25 e25 g25 h25 i25 j25 d26 e26 g26 h26 i26 j26 d27 e27 g27 h27 i27 j27 d28 e28 g28 h28 i28 j28 d29 e29 g29 h29 i29 j29 d30 e30 g30 h30 i30 j30 d31 e31 g31 h31 i31 j31 d32 e32 g32 h32 i32 j32 d33 e33 g33 h33 i33 j33 d34 e34 g34 h34 i34 j34 d35 e35 g35 h35 i35 j35 d36 e36 g36 h36 i36 j36 d37 e37 g37 h37 i37 j37 d38 e38 g38 h38 i38 j38 d39 e39 g39 h39 i39 j39 d40 e40 g40 h40 i40 j40 d41 e41 g41 h41 i41 j41 d42 e42 g42 h42 i42 j42 d43 e43 g43 h43 i43 j43 d44 e44 g44 h44 i44 j44 d45 e45 g45 h45 i45 j45 d46 e46 g46 h46 i46 j46 d47 e47 g47 h47 i47 j47 d48 e48 g48 h48 i48 j48 d49 e49 g49 h49 i49 j49 d50 e50 g50 h50 i50 j50 d51 e51 g51 h51 i51 j51 d52 e52 g52 h52 i52 j52 d53 e53 g53 h53 i53 j53 d54 e54 g54 h54 i54 j54 d55 e55 g55 h55 i55 j55 d56 e56 g56 h56 i56 j56 d57 e57 g57 h57 i57 j57 : Value}
  {dt_Parcel_init : Addr} {dc_Parcel_init : Value} {dd_Parcel_init : Option Addr} {dn_Parcel_init : Nat} {du_Parcel_init : Tok} {ds_Parcel_init : Array (Option Value)}
  {u1 u2 u3 u4 u5 u6 u7 u8 u9 u10 u11 u12 u13 u14 u15 u16 u17 u18 u19 u20 u21 u22 u23 u24 u25 u26 u27 : Tok}
  (x1 : nsIn K mainGlobals "Parcel" = some (some (.ref c1)))
  (x2 : plainGet K c1 Str.empty = true)
  (x3 : hasDictIn K c1 = true)
  (x4 : plainOver K c1 = true)
  (x5 : findIn K (.ref c1) "__setattr__" = some (some (.builtin "object.__setattr__")))
  (x6 : makesIn K c1 = true)
  (x7 : keepIn K (.ref c1) = true)
  (x8 : findIn K (.ref c1) "source" = some none)
  (x9 : findIn K (.ref c1) "number" = some none)
  (x10 : findIn K (.ref c1) "to" = some none)
  (x11 : findIn K (.ref c1) "end" = some none)
  (x12 : findIn K (.ref c1) "data" = some none)
  (x13 : findIn K (.ref c1) "leg" = some none)
  (x14 : findIn K (.ref c1) "waits_till" = some none)
  (x15 : nsIn K mainGlobals "Pass" = some (some (.ref c2)))
  (x16 : plainGet K c2 Str.empty = true)
  (x17 : hasDictIn K c2 = true)
  (x18 : plainOver K c2 = true)
  (x19 : findIn K (.ref c2) "__setattr__" = some (some (.builtin "object.__setattr__")))
  (x20 : makesIn K c2 = true)
  (x21 : keepIn K (.ref c2) = true)
  (x22 : findIn K (.ref c2) "number" = some none)
  (x23 : findIn K (.ref c2) "a" = some none)
  (x24 : findIn K (.ref c2) "b" = some none)
  (x25 : findIn K (.ref c2) "takes" = some none)
  (x26 : findIn K (.ref c2) "begins" = some none)
  (x27 : findIn K (.ref c2) "ends" = some none)
  (x28 : nsIn K mainGlobals "Plan" = some (some (.ref c3)))
  (x29 : plainGet K c3 Str.empty = true)
  (x30 : hasDictIn K c3 = true)
  (x31 : plainOver K c3 = true)
  (x32 : findIn K (.ref c3) "__setattr__" = some (some (.builtin "object.__setattr__")))
  (x33 : makesIn K c3 = true)
  (x34 : keepIn K (.ref c3) = true)
  (x35 : findIn K (.ref c3) "node_count" = some none)
  (x36 : findIn K (.ref c3) "passes" = some none)
  (x37 : findIn K (.ref c3) "passes_of" = some none)
  (x38 : nsIn K mainGlobals "Kept" = some (some (.ref c4)))
  (x39 : plainGet K c4 Str.empty = true)
  (x40 : hasDictIn K c4 = true)
  (x41 : plainOver K c4 = true)
  (x42 : findIn K (.ref c4) "__setattr__" = some (some (.builtin "object.__setattr__")))
  (x43 : makesIn K c4 = true)
  (x44 : keepIn K (.ref c4) = true)
  (x45 : findIn K (.ref c4) "source" = some none)
  (x46 : findIn K (.ref c4) "number" = some none)
  (x47 : findIn K (.ref c4) "leg" = some none)
  (x48 : nsIn K mainGlobals "Way" = some (some (.ref c5)))
  (x49 : plainGet K c5 Str.empty = true)
  (x50 : hasDictIn K c5 = true)
  (x51 : plainOver K c5 = true)
  (x52 : findIn K (.ref c5) "__setattr__" = some (some (.builtin "object.__setattr__")))
  (x53 : makesIn K c5 = true)
  (x54 : keepIn K (.ref c5) = true)
  (x55 : findIn K (.ref c5) "at" = some none)
  (x56 : findIn K (.ref c5) "arrives" = some none)
  (x57 : findIn K (.ref c5) "first" = some none)
  (x58 : nsIn K mainGlobals "Node" = some (some (.ref c6)))
  (x59 : plainGet K c6 Str.empty = true)
  (x60 : hasDictIn K c6 = true)
  (x61 : plainOver K c6 = true)
  (x62 : findIn K (.ref c6) "__setattr__" = some (some (.builtin "object.__setattr__")))
  (x63 : makesIn K c6 = true)
  (x64 : keepIn K (.ref c6) = true)
  (x65 : findIn K (.ref c6) "plan" = some none)
  (x66 : findIn K (.ref c6) "me" = some none)
  (x67 : findIn K (.ref c6) "time" = some none)
  (x68 : findIn K (.ref c6) "own_count" = some none)
  (x69 : findIn K (.ref c6) "held" = some none)
  (x70 : findIn K (.ref c6) "arrived" = some none)
  (x71 : findIn K (.ref c6) "known" = some none)
  (x72 : nsIn K mainGlobals "Line" = some (some (.ref c7)))
  (x73 : plainGet K c7 Str.empty = true)
  (x74 : hasDictIn K c7 = true)
  (x75 : plainOver K c7 = true)
  (x76 : findIn K (.ref c7) "__setattr__" = some (some (.builtin "object.__setattr__")))
  (x77 : makesIn K c7 = true)
  (x78 : keepIn K (.ref c7) = true)
  (x79 : findIn K (.ref c7) "calls" = some none)
  (x80 : findIn K (.ref c7) "place" = some none)
  (x81 : findIn K (.ref c7) "node" = some none)
  (x82 : findIn K (.ref c1) "__init__" = some (some (.ref f1)))
  (x83 : isFn K (.ref f1) = true)
  (x84 : K.lookup f1 = some (fnO "__init__" "Parcel.__init__" s_Parcel_init (.ref dt_Parcel_init) a1 b1 s1 d1 e1 g1 h1 i1 j1))
  (x85 : K.lookup dt_Parcel_init = some ⟨dc_Parcel_init, dd_Parcel_init, .seq #[.int 0 du_Parcel_init] dn_Parcel_init, ds_Parcel_init⟩)
  (x86 : codeIn K i1 "Parcel.__init__" = true)
  (x87 : keepIn K (.ref f1) = true)
  (x88 : findIn K (.ref c1) "waits_at" = some (some (.ref f2)))
  (x89 : isFn K (.ref f2) = true)
  (x90 : K.lookup f2 = some (fnO "waits_at" "Parcel.waits_at" s_Parcel_waits_at .none a2 b2 s2 d2 e2 g2 h2 i2 j2))
  (x91 : codeIn K i2 "Parcel.waits_at" = true)
  (x92 : keepIn K (.ref f2) = true)
  (x93 : nsIn K mainGlobals "key_of" = some (some (.ref f3)))
  (x94 : K.lookup f3 = some (fnO "key_of" "key_of" s_key_of .none a3 b3 s3 d3 e3 g3 h3 i3 j3))
  (x95 : codeIn K i3 "key_of" = true)
  (x96 : keepIn K (.ref f3) = true)
  (x97 : nsIn K mainGlobals "rank" = some (some (.ref f4)))
  (x98 : K.lookup f4 = some (fnO "rank" "rank" s_rank .none a4 b4 s4 d4 e4 g4 h4 i4 j4))
  (x99 : codeIn K i4 "rank" = true)
  (x100 : keepIn K (.ref f4) = true)
  (x101 : nsIn K mainGlobals "in_order" = some (some (.ref f5)))
  (x102 : K.lookup f5 = some (fnO "in_order" "in_order" s_in_order .none a5 b5 s5 d5 e5 g5 h5 i5 j5))
  (x103 : codeIn K i5 "in_order" = true)
  (x104 : keepIn K (.ref f5) = true)
  (x105 : findIn K (.ref c2) "__init__" = some (some (.ref f6)))
  (x106 : isFn K (.ref f6) = true)
  (x107 : K.lookup f6 = some (fnO "__init__" "Pass.__init__" s_Pass_init .none a6 b6 s6 d6 e6 g6 h6 i6 j6))
  (x108 : codeIn K i6 "Pass.__init__" = true)
  (x109 : keepIn K (.ref f6) = true)
  (x110 : findIn K (.ref c2) "joins" = some (some (.ref f7)))
  (x111 : isFn K (.ref f7) = true)
  (x112 : K.lookup f7 = some (fnO "joins" "Pass.joins" s_Pass_joins .none a7 b7 s7 d7 e7 g7 h7 i7 j7))
  (x113 : codeIn K i7 "Pass.joins" = true)
  (x114 : keepIn K (.ref f7) = true)
  (x115 : findIn K (.ref c2) "other_end" = some (some (.ref f8)))
  (x116 : isFn K (.ref f8) = true)
  (x117 : K.lookup f8 = some (fnO "other_end" "Pass.other_end" s_Pass_other_end .none a8 b8 s8 d8 e8 g8 h8 i8 j8))
  (x118 : codeIn K i8 "Pass.other_end" = true)
  (x119 : keepIn K (.ref f8) = true)
  (x120 : findIn K (.ref c2) "is_open_at" = some (some (.ref f9)))
  (x121 : isFn K (.ref f9) = true)
  (x122 : K.lookup f9 = some (fnO "is_open_at" "Pass.is_open_at" s_Pass_is_open_at .none a9 b9 s9 d9 e9 g9 h9 i9 j9))
  (x123 : codeIn K i9 "Pass.is_open_at" = true)
  (x124 : keepIn K (.ref f9) = true)
  (x125 : findIn K (.ref c2) "soonest_sending" = some (some (.ref f10)))
  (x126 : isFn K (.ref f10) = true)
  (x127 : K.lookup f10 = some (fnO "soonest_sending" "Pass.soonest_sending" s_Pass_soonest_sending .none a10 b10 s10 d10 e10 g10 h10 i10 j10))
  (x128 : codeIn K i10 "Pass.soonest_sending" = true)
  (x129 : keepIn K (.ref f10) = true)
  (x130 : findIn K (.ref c3) "__init__" = some (some (.ref f11)))
  (x131 : isFn K (.ref f11) = true)
  (x132 : K.lookup f11 = some (fnO "__init__" "Plan.__init__" s_Plan_init .none a11 b11 s11 d11 e11 g11 h11 i11 j11))
  (x133 : codeIn K i11 "Plan.__init__" = true)
  (x134 : keepIn K (.ref f11) = true)
  (x135 : findIn K (.ref c3) "has_node" = some (some (.ref f12)))
  (x136 : isFn K (.ref f12) = true)
  (x137 : K.lookup f12 = some (fnO "has_node" "Plan.has_node" s_Plan_has_node .none a12 b12 s12 d12 e12 g12 h12 i12 j12))
  (x138 : codeIn K i12 "Plan.has_node" = true)
  (x139 : keepIn K (.ref f12) = true)
  (x140 : nsIn K mainGlobals "passes_at" = some (some (.ref f13)))
  (x141 : K.lookup f13 = some (fnO "passes_at" "passes_at" s_passes_at .none a13 b13 s13 d13 e13 g13 h13 i13 j13))
  (x142 : codeIn K i13 "passes_at" = true)
  (x143 : keepIn K (.ref f13) = true)
  (x144 : nsIn K mainGlobals "split_passes" = some (some (.ref f14)))
  (x145 : K.lookup f14 = some (fnO "split_passes" "split_passes" s_split_passes .none a14 b14 s14 d14 e14 g14 h14 i14 j14))
  (x146 : codeIn K i14 "split_passes" = true)
  (x147 : keepIn K (.ref f14) = true)
  (x148 : nsIn K mainGlobals "is_pass" = some (some (.ref f15)))
  (x149 : K.lookup f15 = some (fnO "is_pass" "is_pass" s_is_pass .none a15 b15 s15 d15 e15 g15 h15 i15 j15))
  (x150 : codeIn K i15 "is_pass" = true)
  (x151 : keepIn K (.ref f15) = true)
  (x152 : nsIn K mainGlobals "is_plan" = some (some (.ref f16)))
  (x153 : K.lookup f16 = some (fnO "is_plan" "is_plan" s_is_plan .none a16 b16 s16 d16 e16 g16 h16 i16 j16))
  (x154 : codeIn K i16 "is_plan" = true)
  (x155 : keepIn K (.ref f16) = true)
  (x156 : nsIn K mainGlobals "plan_of" = some (some (.ref f17)))
  (x157 : K.lookup f17 = some (fnO "plan_of" "plan_of" s_plan_of .none a17 b17 s17 d17 e17 g17 h17 i17 j17))
  (x158 : codeIn K i17 "plan_of" = true)
  (x159 : keepIn K (.ref f17) = true)
  (x160 : findIn K (.ref c4) "__init__" = some (some (.ref f18)))
  (x161 : isFn K (.ref f18) = true)
  (x162 : K.lookup f18 = some (fnO "__init__" "Kept.__init__" s_Kept_init .none a18 b18 s18 d18 e18 g18 h18 i18 j18))
  (x163 : codeIn K i18 "Kept.__init__" = true)
  (x164 : keepIn K (.ref f18) = true)
  (x165 : nsIn K mainGlobals "four_bytes" = some (some (.ref f19)))
  (x166 : K.lookup f19 = some (fnO "four_bytes" "four_bytes" s_four_bytes .none a19 b19 s19 d19 e19 g19 h19 i19 j19))
  (x167 : codeIn K i19 "four_bytes" = true)
  (x168 : keepIn K (.ref f19) = true)
  (x169 : nsIn K mainGlobals "number_at" = some (some (.ref f20)))
  (x170 : K.lookup f20 = some (fnO "number_at" "number_at" s_number_at .none a20 b20 s20 d20 e20 g20 h20 i20 j20))
  (x171 : codeIn K i20 "number_at" = true)
  (x172 : keepIn K (.ref f20) = true)
  (x173 : nsIn K mainGlobals "parcel_message" = some (some (.ref f21)))
  (x174 : K.lookup f21 = some (fnO "parcel_message" "parcel_message" s_parcel_message .none a21 b21 s21 d21 e21 g21 h21 i21 j21))
  (x175 : codeIn K i21 "parcel_message" = true)
  (x176 : keepIn K (.ref f21) = true)
  (x177 : nsIn K mainGlobals "kept_message" = some (some (.ref f22)))
  (x178 : K.lookup f22 = some (fnO "kept_message" "kept_message" s_kept_message .none a22 b22 s22 d22 e22 g22 h22 i22 j22))
  (x179 : codeIn K i22 "kept_message" = true)
  (x180 : keepIn K (.ref f22) = true)
  (x181 : nsIn K mainGlobals "parcel_from" = some (some (.ref f23)))
  (x182 : K.lookup f23 = some (fnO "parcel_from" "parcel_from" s_parcel_from .none a23 b23 s23 d23 e23 g23 h23 i23 j23))
  (x183 : codeIn K i23 "parcel_from" = true)
  (x184 : keepIn K (.ref f23) = true)
  (x185 : nsIn K mainGlobals "has_parcel_size" = some (some (.ref f24)))
  (x186 : K.lookup f24 = some (fnO "has_parcel_size" "has_parcel_size" s_has_parcel_size .none a24 b24 s24 d24 e24 g24 h24 i24 j24))
  (x187 : codeIn K i24 "has_parcel_size" = true)
  (x188 : keepIn K (.ref f24) = true)
  (x189 : nsIn K mainGlobals "is_parcel" = some (some (.ref f25)))
  (x190 : K.lookup f25 = some (fnO "is_parcel" "is_parcel" s_is_parcel .none a25 b25 s25 d25 e25 g25 h25 i25 j25))
  (x191 : codeIn K i25 "is_parcel" = true)
  (x192 : keepIn K (.ref f25) = true)
  (x193 : nsIn K mainGlobals "kept_from" = some (some (.ref f26)))
  (x194 : K.lookup f26 = some (fnO "kept_from" "kept_from" s_kept_from .none a26 b26 s26 d26 e26 g26 h26 i26 j26))
  (x195 : codeIn K i26 "kept_from" = true)
  (x196 : keepIn K (.ref f26) = true)
  (x197 : nsIn K mainGlobals "is_count" = some (some (.ref f27)))
  (x198 : K.lookup f27 = some (fnO "is_count" "is_count" s_is_count .none a27 b27 s27 d27 e27 g27 h27 i27 j27))
  (x199 : codeIn K i27 "is_count" = true)
  (x200 : keepIn K (.ref f27) = true)
  (x201 : findIn K (.ref c5) "__init__" = some (some (.ref f28)))
  (x202 : isFn K (.ref f28) = true)
  (x203 : K.lookup f28 = some (fnO "__init__" "Way.__init__" s_Way_init .none a28 b28 s28 d28 e28 g28 h28 i28 j28))
  (x204 : codeIn K i28 "Way.__init__" = true)
  (x205 : keepIn K (.ref f28) = true)
  (x206 : nsIn K mainGlobals "ways_from" = some (some (.ref f29)))
  (x207 : K.lookup f29 = some (fnO "ways_from" "ways_from" s_ways_from .none a29 b29 s29 d29 e29 g29 h29 i29 j29))
  (x208 : codeIn K i29 "ways_from" = true)
  (x209 : keepIn K (.ref f29) = true)
  (x210 : nsIn K mainGlobals "sooner_by_one_more" = some (some (.ref f30)))
  (x211 : K.lookup f30 = some (fnO "sooner_by_one_more" "sooner_by_one_more" s_sooner_by_one_more .none a30 b30 s30 d30 e30 g30 h30 i30 j30))
  (x212 : codeIn K i30 "sooner_by_one_more" = true)
  (x213 : keepIn K (.ref f30) = true)
  (x214 : findIn K (.ref c6) "__init__" = some (some (.ref f31)))
  (x215 : isFn K (.ref f31) = true)
  (x216 : K.lookup f31 = some (fnO "__init__" "Node.__init__" s_Node_init .none a31 b31 s31 d31 e31 g31 h31 i31 j31))
  (x217 : codeIn K i31 "Node.__init__" = true)
  (x218 : keepIn K (.ref f31) = true)
  (x219 : findIn K (.ref c6) "put" = some (some (.ref f32)))
  (x220 : isFn K (.ref f32) = true)
  (x221 : K.lookup f32 = some (fnO "put" "Node.put" s_Node_put .none a32 b32 s32 d32 e32 g32 h32 i32 j32))
  (x222 : codeIn K i32 "Node.put" = true)
  (x223 : keepIn K (.ref f32) = true)
  (x224 : findIn K (.ref c6) "may_go" = some (some (.ref f33)))
  (x225 : isFn K (.ref f33) = true)
  (x226 : K.lookup f33 = some (fnO "may_go" "Node.may_go" s_Node_may_go .none a33 b33 s33 d33 e33 g33 h33 i33 j33))
  (x227 : codeIn K i33 "Node.may_go" = true)
  (x228 : keepIn K (.ref f33) = true)
  (x229 : findIn K (.ref c6) "tick" = some (some (.ref f34)))
  (x230 : isFn K (.ref f34) = true)
  (x231 : K.lookup f34 = some (fnO "tick" "Node.tick" s_Node_tick .none a34 b34 s34 d34 e34 g34 h34 i34 j34))
  (x232 : codeIn K i34 "Node.tick" = true)
  (x233 : keepIn K (.ref f34) = true)
  (x234 : findIn K (.ref c6) "drop_ended" = some (some (.ref f35)))
  (x235 : isFn K (.ref f35) = true)
  (x236 : K.lookup f35 = some (fnO "drop_ended" "Node.drop_ended" s_Node_drop_ended .none a35 b35 s35 d35 e35 g35 h35 i35 j35))
  (x237 : codeIn K i35 "Node.drop_ended" = true)
  (x238 : keepIn K (.ref f35) = true)
  (x239 : findIn K (.ref c6) "send_all" = some (some (.ref f36)))
  (x240 : isFn K (.ref f36) = true)
  (x241 : K.lookup f36 = some (fnO "send_all" "Node.send_all" s_Node_send_all .none a36 b36 s36 d36 e36 g36 h36 i36 j36))
  (x242 : codeIn K i36 "Node.send_all" = true)
  (x243 : keepIn K (.ref f36) = true)
  (x244 : findIn K (.ref c6) "send_by" = some (some (.ref f37)))
  (x245 : isFn K (.ref f37) = true)
  (x246 : K.lookup f37 = some (fnO "send_by" "Node.send_by" s_Node_send_by .none a37 b37 s37 d37 e37 g37 h37 i37 j37))
  (x247 : codeIn K i37 "Node.send_by" = true)
  (x248 : keepIn K (.ref f37) = true)
  (x249 : findIn K (.ref c6) "hear" = some (some (.ref f38)))
  (x250 : isFn K (.ref f38) = true)
  (x251 : K.lookup f38 = some (fnO "hear" "Node.hear" s_Node_hear .none a38 b38 s38 d38 e38 g38 h38 i38 j38))
  (x252 : codeIn K i38 "Node.hear" = true)
  (x253 : keepIn K (.ref f38) = true)
  (x254 : findIn K (.ref c6) "own_pass" = some (some (.ref f39)))
  (x255 : isFn K (.ref f39) = true)
  (x256 : K.lookup f39 = some (fnO "own_pass" "Node.own_pass" s_Node_own_pass .none a39 b39 s39 d39 e39 g39 h39 i39 j39))
  (x257 : codeIn K i39 "Node.own_pass" = true)
  (x258 : keepIn K (.ref f39) = true)
  (x259 : findIn K (.ref c6) "hear_parcel" = some (some (.ref f40)))
  (x260 : isFn K (.ref f40) = true)
  (x261 : K.lookup f40 = some (fnO "hear_parcel" "Node.hear_parcel" s_Node_hear_parcel .none a40 b40 s40 d40 e40 g40 h40 i40 j40))
  (x262 : codeIn K i40 "Node.hear_parcel" = true)
  (x263 : keepIn K (.ref f40) = true)
  (x264 : findIn K (.ref c6) "take_in" = some (some (.ref f41)))
  (x265 : isFn K (.ref f41) = true)
  (x266 : K.lookup f41 = some (fnO "take_in" "Node.take_in" s_Node_take_in .none a41 b41 s41 d41 e41 g41 h41 i41 j41))
  (x267 : codeIn K i41 "Node.take_in" = true)
  (x268 : keepIn K (.ref f41) = true)
  (x269 : findIn K (.ref c6) "take_as_arrived" = some (some (.ref f42)))
  (x270 : isFn K (.ref f42) = true)
  (x271 : K.lookup f42 = some (fnO "take_as_arrived" "Node.take_as_arrived" s_Node_take_as_arrived .none a42 b42 s42 d42 e42 g42 h42 i42 j42))
  (x272 : codeIn K i42 "Node.take_as_arrived" = true)
  (x273 : keepIn K (.ref f42) = true)
  (x274 : findIn K (.ref c6) "take_to_hold" = some (some (.ref f43)))
  (x275 : isFn K (.ref f43) = true)
  (x276 : K.lookup f43 = some (fnO "take_to_hold" "Node.take_to_hold" s_Node_take_to_hold .none a43 b43 s43 d43 e43 g43 h43 i43 j43))
  (x277 : codeIn K i43 "Node.take_to_hold" = true)
  (x278 : keepIn K (.ref f43) = true)
  (x279 : findIn K (.ref c6) "hear_kept" = some (some (.ref f44)))
  (x280 : isFn K (.ref f44) = true)
  (x281 : K.lookup f44 = some (fnO "hear_kept" "Node.hear_kept" s_Node_hear_kept .none a44 b44 s44 d44 e44 g44 h44 i44 j44))
  (x282 : codeIn K i44 "Node.hear_kept" = true)
  (x283 : keepIn K (.ref f44) = true)
  (x284 : findIn K (.ref c6) "read" = some (some (.ref f45)))
  (x285 : isFn K (.ref f45) = true)
  (x286 : K.lookup f45 = some (fnO "read" "Node.read" s_Node_read .none a45 b45 s45 d45 e45 g45 h45 i45 j45))
  (x287 : codeIn K i45 "Node.read" = true)
  (x288 : keepIn K (.ref f45) = true)
  (x289 : findIn K (.ref c6) "state" = some (some (.ref f46)))
  (x290 : isFn K (.ref f46) = true)
  (x291 : K.lookup f46 = some (fnO "state" "Node.state" s_Node_state .none a46 b46 s46 d46 e46 g46 h46 i46 j46))
  (x292 : codeIn K i46 "Node.state" = true)
  (x293 : keepIn K (.ref f46) = true)
  (x294 : nsIn K mainGlobals "told_by" = some (some (.ref f47)))
  (x295 : K.lookup f47 = some (fnO "told_by" "told_by" s_told_by .none a47 b47 s47 d47 e47 g47 h47 i47 j47))
  (x296 : codeIn K i47 "told_by" = true)
  (x297 : keepIn K (.ref f47) = true)
  (x298 : nsIn K mainGlobals "first_to_go_by" = some (some (.ref f48)))
  (x299 : K.lookup f48 = some (fnO "first_to_go_by" "first_to_go_by" s_first_to_go_by .none a48 b48 s48 d48 e48 g48 h48 i48 j48))
  (x300 : codeIn K i48 "first_to_go_by" = true)
  (x301 : keepIn K (.ref f48) = true)
  (x302 : findIn K (.ref c7) "__init__" = some (some (.ref f49)))
  (x303 : isFn K (.ref f49) = true)
  (x304 : K.lookup f49 = some (fnO "__init__" "Line.__init__" s_Line_init .none a49 b49 s49 d49 e49 g49 h49 i49 j49))
  (x305 : codeIn K i49 "Line.__init__" = true)
  (x306 : keepIn K (.ref f49) = true)
  (x307 : findIn K (.ref c7) "has_more" = some (some (.ref f50)))
  (x308 : isFn K (.ref f50) = true)
  (x309 : K.lookup f50 = some (fnO "has_more" "Line.has_more" s_Line_has_more .none a50 b50 s50 d50 e50 g50 h50 i50 j50))
  (x310 : codeIn K i50 "Line.has_more" = true)
  (x311 : keepIn K (.ref f50) = true)
  (x312 : findIn K (.ref c7) "take_number" = some (some (.ref f51)))
  (x313 : isFn K (.ref f51) = true)
  (x314 : K.lookup f51 = some (fnO "take_number" "Line.take_number" s_Line_take_number .none a51 b51 s51 d51 e51 g51 h51 i51 j51))
  (x315 : codeIn K i51 "Line.take_number" = true)
  (x316 : keepIn K (.ref f51) = true)
  (x317 : findIn K (.ref c7) "take_row" = some (some (.ref f52)))
  (x318 : isFn K (.ref f52) = true)
  (x319 : K.lookup f52 = some (fnO "take_row" "Line.take_row" s_Line_take_row .none a52 b52 s52 d52 e52 g52 h52 i52 j52))
  (x320 : codeIn K i52 "Line.take_row" = true)
  (x321 : keepIn K (.ref f52) = true)
  (x322 : findIn K (.ref c7) "answer_call" = some (some (.ref f53)))
  (x323 : isFn K (.ref f53) = true)
  (x324 : K.lookup f53 = some (fnO "answer_call" "Line.answer_call" s_Line_answer_call .none a53 b53 s53 d53 e53 g53 h53 i53 j53))
  (x325 : codeIn K i53 "Line.answer_call" = true)
  (x326 : keepIn K (.ref f53) = true)
  (x327 : findIn K (.ref c7) "answer_start" = some (some (.ref f54)))
  (x328 : isFn K (.ref f54) = true)
  (x329 : K.lookup f54 = some (fnO "answer_start" "Line.answer_start" s_Line_answer_start .none a54 b54 s54 d54 e54 g54 h54 i54 j54))
  (x330 : codeIn K i54 "Line.answer_start" = true)
  (x331 : keepIn K (.ref f54) = true)
  (x332 : findIn K (.ref c7) "answer_put" = some (some (.ref f55)))
  (x333 : isFn K (.ref f55) = true)
  (x334 : K.lookup f55 = some (fnO "answer_put" "Line.answer_put" s_Line_answer_put .none a55 b55 s55 d55 e55 g55 h55 i55 j55))
  (x335 : codeIn K i55 "Line.answer_put" = true)
  (x336 : keepIn K (.ref f55) = true)
  (x337 : findIn K (.ref c7) "answer_heard" = some (some (.ref f56)))
  (x338 : isFn K (.ref f56) = true)
  (x339 : K.lookup f56 = some (fnO "answer_heard" "Line.answer_heard" s_Line_answer_heard .none a56 b56 s56 d56 e56 g56 h56 i56 j56))
  (x340 : codeIn K i56 "Line.answer_heard" = true)
  (x341 : keepIn K (.ref f56) = true)
  (x342 : nsIn K mainGlobals "answers" = some (some (.ref f57)))
  (x343 : K.lookup f57 = some (fnO "answers" "answers" s_answers .none a57 b57 s57 d57 e57 g57 h57 i57 j57))
  (x344 : codeIn K i57 "answers" = true)
  (x345 : keepIn K (.ref f57) = true)
  (x346 : nsIn K mainGlobals "MOST_BYTES" = some (some (.int (48) u1)))
  (x347 : nsIn K mainGlobals "LEAST_NODES" = some (some (.int (2) u2)))
  (x348 : nsIn K mainGlobals "MOST_NODES" = some (some (.int (32) u3)))
  (x349 : nsIn K mainGlobals "MOST_PASSES" = some (some (.int (128) u4)))
  (x350 : nsIn K mainGlobals "LAST_TIME" = some (some (.int (1000000) u5)))
  (x351 : nsIn K mainGlobals "LEAST_TAKES" = some (some (.int (1) u6)))
  (x352 : nsIn K mainGlobals "MOST_TAKES" = some (some (.int (255) u7)))
  (x353 : nsIn K mainGlobals "NUMBERS_OF_A_PASS" = some (some (.int (6) u8)))
  (x354 : nsIn K mainGlobals "KIND_PARCEL" = some (some (.int (1) u9)))
  (x355 : nsIn K mainGlobals "KIND_KEPT" = some (some (.int (2) u10)))
  (x356 : nsIn K mainGlobals "PARCEL_HEAD_SIZE" = some (some (.int (16) u11)))
  (x357 : nsIn K mainGlobals "KEPT_SIZE" = some (some (.int (12) u12)))
  (x358 : nsIn K mainGlobals "MOST_COUNT" = some (some (.int (2147483647) u13)))
  (x359 : nsIn K mainGlobals "DONE" = some (some (.int (0) u14)))
  (x360 : nsIn K mainGlobals "NOT_AS_TOLD" = some (some (.int (-22) u15)))
  (x361 : nsIn K mainGlobals "FULL" = some (some (.int (-28) u16)))
  (x362 : nsIn K mainGlobals "TIME_IS_OVER" = some (some (.int (-34) u17)))
  (x363 : nsIn K mainGlobals "NO_MESSAGE" = some (some (.int (-71) u18)))
  (x364 : nsIn K mainGlobals "MOST_HELD" = some (some (.int (64) u19)))
  (x365 : nsIn K mainGlobals "MOST_ARRIVED" = some (some (.int (64) u20)))
  (x366 : nsIn K mainGlobals "MOST_KNOWN" = some (some (.int (256) u21)))
  (x367 : nsIn K mainGlobals "CALL_START" = some (some (.int (0) u22)))
  (x368 : nsIn K mainGlobals "CALL_PUT" = some (some (.int (1) u23)))
  (x369 : nsIn K mainGlobals "CALL_TICK" = some (some (.int (2) u24)))
  (x370 : nsIn K mainGlobals "CALL_HEARD" = some (some (.int (3) u25)))
  (x371 : nsIn K mainGlobals "CALL_READ" = some (some (.int (4) u26)))
  (x372 : nsIn K mainGlobals "CALL_STATE" = some (some (.int (5) u27)))
  (x373 : nsIn K mainGlobals "all" = some none)
  (x374 : nsIn K mainGlobals "dict" = some none)
  (x375 : nsIn K mainGlobals "enumerate" = some none)
  (x376 : nsIn K mainGlobals "len" = some none)
  (x377 : nsIn K mainGlobals "list" = some none)
  (x378 : nsIn K mainGlobals "max" = some none)
  (x379 : nsIn K mainGlobals "range" = some none)
  (x380 : nsIn K mainGlobals "sorted" = some none)
  (x381 : nsIn K mainGlobals "sum" = some none)
  : ∃ t : Adr, Tx K mg t ∧ ∀ (s : Shared) (us : List Value), us.length = (["calls"] : List Str).length → BindsTo s t.d_answers ⟨us, []⟩ ((["calls"] : List Str).zip us) := by
 obtain ⟨D1, F1, B1, Z1⟩ := tx_funD ["self", "source", "number", "to", "end", "data", "leg"] x84 x86 x85 (fun us hl => match us, hl with | [_, _, _, _, _, _, _], _ => ⟨_, rfl, rfl⟩) fun us hl => match us, hl with | [_, _, _, _, _, _], _ => ⟨_, rfl, rfl⟩
 obtain ⟨D2, F2, B2, Z2⟩ := tx_fun ["self", "time"] x90 x91 x92 fun _ _ _ _ _ _ us hl => match us, hl with | [_, _], _ => rfl
 obtain ⟨D3, F3, B3, Z3⟩ := tx_fun ["parcel"] x94 x95 x96 fun _ _ _ _ _ _ us hl => match us, hl with | [_], _ => rfl
 obtain ⟨D4, F4, B4, Z4⟩ := tx_fun ["parcel"] x98 x99 x100 fun _ _ _ _ _ _ us hl => match us, hl with | [_], _ => rfl
 obtain ⟨D5, F5, B5, Z5⟩ := tx_fun ["parcels"] x102 x103 x104 fun _ _ _ _ _ _ us hl => match us, hl with | [_], _ => rfl
 obtain ⟨D6, F6, B6, Z6⟩ := tx_fun ["self", "number", "told"] x107 x108 x109 fun _ _ _ _ _ _ us hl => match us, hl with | [_, _, _], _ => rfl
 obtain ⟨D7, F7, B7, Z7⟩ := tx_fun ["self", "node"] x112 x113 x114 fun _ _ _ _ _ _ us hl => match us, hl with | [_, _], _ => rfl
 obtain ⟨D8, F8, B8, Z8⟩ := tx_fun ["self", "node"] x117 x118 x119 fun _ _ _ _ _ _ us hl => match us, hl with | [_, _], _ => rfl
 obtain ⟨D9, F9, B9, Z9⟩ := tx_fun ["self", "time"] x122 x123 x124 fun _ _ _ _ _ _ us hl => match us, hl with | [_, _], _ => rfl
 obtain ⟨D10, F10, B10, Z10⟩ := tx_fun ["self", "time"] x127 x128 x129 fun _ _ _ _ _ _ us hl => match us, hl with | [_, _], _ => rfl
 obtain ⟨D11, F11, B11, Z11⟩ := tx_fun ["self", "node_count", "passes"] x132 x133 x134 fun _ _ _ _ _ _ us hl => match us, hl with | [_, _, _], _ => rfl
 obtain ⟨D12, F12, B12, Z12⟩ := tx_fun ["self", "node"] x137 x138 x139 fun _ _ _ _ _ _ us hl => match us, hl with | [_, _], _ => rfl
 obtain ⟨D13, F13, B13, Z13⟩ := tx_fun ["passes", "node"] x141 x142 x143 fun _ _ _ _ _ _ us hl => match us, hl with | [_, _], _ => rfl
 obtain ⟨D14, F14, B14, Z14⟩ := tx_fun ["numbers"] x145 x146 x147 fun _ _ _ _ _ _ us hl => match us, hl with | [_], _ => rfl
 obtain ⟨D15, F15, B15, Z15⟩ := tx_fun ["node_count", "told"] x149 x150 x151 fun _ _ _ _ _ _ us hl => match us, hl with | [_, _], _ => rfl
 obtain ⟨D16, F16, B16, Z16⟩ := tx_fun ["node_count", "passes_told"] x153 x154 x155 fun _ _ _ _ _ _ us hl => match us, hl with | [_, _], _ => rfl
 obtain ⟨D17, F17, B17, Z17⟩ := tx_fun ["node_count", "numbers"] x157 x158 x159 fun _ _ _ _ _ _ us hl => match us, hl with | [_, _], _ => rfl
 obtain ⟨D18, F18, B18, Z18⟩ := tx_fun ["self", "source", "number", "leg"] x162 x163 x164 fun _ _ _ _ _ _ us hl => match us, hl with | [_, _, _, _], _ => rfl
 obtain ⟨D19, F19, B19, Z19⟩ := tx_fun ["number"] x166 x167 x168 fun _ _ _ _ _ _ us hl => match us, hl with | [_], _ => rfl
 obtain ⟨D20, F20, B20, Z20⟩ := tx_fun ["message", "place"] x170 x171 x172 fun _ _ _ _ _ _ us hl => match us, hl with | [_, _], _ => rfl
 obtain ⟨D21, F21, B21, Z21⟩ := tx_fun ["parcel", "leg"] x174 x175 x176 fun _ _ _ _ _ _ us hl => match us, hl with | [_, _], _ => rfl
 obtain ⟨D22, F22, B22, Z22⟩ := tx_fun ["parcel"] x178 x179 x180 fun _ _ _ _ _ _ us hl => match us, hl with | [_], _ => rfl
 obtain ⟨D23, F23, B23, Z23⟩ := tx_fun ["message", "plan"] x182 x183 x184 fun _ _ _ _ _ _ us hl => match us, hl with | [_, _], _ => rfl
 obtain ⟨D24, F24, B24, Z24⟩ := tx_fun ["message"] x186 x187 x188 fun _ _ _ _ _ _ us hl => match us, hl with | [_], _ => rfl
 obtain ⟨D25, F25, B25, Z25⟩ := tx_fun ["parcel", "plan"] x190 x191 x192 fun _ _ _ _ _ _ us hl => match us, hl with | [_, _], _ => rfl
 obtain ⟨D26, F26, B26, Z26⟩ := tx_fun ["message", "plan"] x194 x195 x196 fun _ _ _ _ _ _ us hl => match us, hl with | [_, _], _ => rfl
 obtain ⟨D27, F27, B27, Z27⟩ := tx_fun ["number"] x198 x199 x200 fun _ _ _ _ _ _ us hl => match us, hl with | [_], _ => rfl
 obtain ⟨D28, F28, B28, Z28⟩ := tx_fun ["self", "at", "arrives", "first"] x203 x204 x205 fun _ _ _ _ _ _ us hl => match us, hl with | [_, _, _, _], _ => rfl
 obtain ⟨D29, F29, B29, Z29⟩ := tx_fun ["plan", "node", "time"] x207 x208 x209 fun _ _ _ _ _ _ us hl => match us, hl with | [_, _, _], _ => rfl
 obtain ⟨D30, F30, B30, Z30⟩ := tx_fun ["plan", "ways", "best"] x211 x212 x213 fun _ _ _ _ _ _ us hl => match us, hl with | [_, _, _], _ => rfl
 obtain ⟨D31, F31, B31, Z31⟩ := tx_fun ["self", "plan", "me"] x216 x217 x218 fun _ _ _ _ _ _ us hl => match us, hl with | [_, _, _], _ => rfl
 obtain ⟨D32, F32, B32, Z32⟩ := tx_fun ["self", "to", "end", "data"] x221 x222 x223 fun _ _ _ _ _ _ us hl => match us, hl with | [_, _, _, _], _ => rfl
 obtain ⟨D33, F33, B33, Z33⟩ := tx_fun ["self", "to", "end", "data"] x226 x227 x228 fun _ _ _ _ _ _ us hl => match us, hl with | [_, _, _, _], _ => rfl
 obtain ⟨D34, F34, B34, Z34⟩ := tx_fun ["self"] x231 x232 x233 fun _ _ _ _ _ _ us hl => match us, hl with | [_], _ => rfl
 obtain ⟨D35, F35, B35, Z35⟩ := tx_fun ["self"] x236 x237 x238 fun _ _ _ _ _ _ us hl => match us, hl with | [_], _ => rfl
 obtain ⟨D36, F36, B36, Z36⟩ := tx_fun ["self"] x241 x242 x243 fun _ _ _ _ _ _ us hl => match us, hl with | [_], _ => rfl
 obtain ⟨D37, F37, B37, Z37⟩ := tx_fun ["self", "by", "parcel"] x246 x247 x248 fun _ _ _ _ _ _ us hl => match us, hl with | [_, _, _], _ => rfl
 obtain ⟨D38, F38, B38, Z38⟩ := tx_fun ["self", "pass_number", "message"] x251 x252 x253 fun _ _ _ _ _ _ us hl => match us, hl with | [_, _, _], _ => rfl
 obtain ⟨D39, F39, B39, Z39⟩ := tx_fun ["self", "number"] x256 x257 x258 fun _ _ _ _ _ _ us hl => match us, hl with | [_, _], _ => rfl
 obtain ⟨D40, F40, B40, Z40⟩ := tx_fun ["self", "by", "parcel"] x261 x262 x263 fun _ _ _ _ _ _ us hl => match us, hl with | [_, _, _], _ => rfl
 obtain ⟨D41, F41, B41, Z41⟩ := tx_fun ["self", "parcel"] x266 x267 x268 fun _ _ _ _ _ _ us hl => match us, hl with | [_, _], _ => rfl
 obtain ⟨D42, F42, B42, Z42⟩ := tx_fun ["self", "parcel"] x271 x272 x273 fun _ _ _ _ _ _ us hl => match us, hl with | [_, _], _ => rfl
 obtain ⟨D43, F43, B43, Z43⟩ := tx_fun ["self", "parcel"] x276 x277 x278 fun _ _ _ _ _ _ us hl => match us, hl with | [_, _], _ => rfl
 obtain ⟨D44, F44, B44, Z44⟩ := tx_fun ["self", "kept"] x281 x282 x283 fun _ _ _ _ _ _ us hl => match us, hl with | [_, _], _ => rfl
 obtain ⟨D45, F45, B45, Z45⟩ := tx_fun ["self"] x286 x287 x288 fun _ _ _ _ _ _ us hl => match us, hl with | [_], _ => rfl
 obtain ⟨D46, F46, B46, Z46⟩ := tx_fun ["self"] x291 x292 x293 fun _ _ _ _ _ _ us hl => match us, hl with | [_], _ => rfl
 obtain ⟨D47, F47, B47, Z47⟩ := tx_fun ["by", "message"] x295 x296 x297 fun _ _ _ _ _ _ us hl => match us, hl with | [_, _], _ => rfl
 obtain ⟨D48, F48, B48, Z48⟩ := tx_fun ["by", "ready", "ways"] x299 x300 x301 fun _ _ _ _ _ _ us hl => match us, hl with | [_, _, _], _ => rfl
 obtain ⟨D49, F49, B49, Z49⟩ := tx_fun ["self", "calls"] x304 x305 x306 fun _ _ _ _ _ _ us hl => match us, hl with | [_, _], _ => rfl
 obtain ⟨D50, F50, B50, Z50⟩ := tx_fun ["self"] x309 x310 x311 fun _ _ _ _ _ _ us hl => match us, hl with | [_], _ => rfl
 obtain ⟨D51, F51, B51, Z51⟩ := tx_fun ["self"] x314 x315 x316 fun _ _ _ _ _ _ us hl => match us, hl with | [_], _ => rfl
 obtain ⟨D52, F52, B52, Z52⟩ := tx_fun ["self"] x319 x320 x321 fun _ _ _ _ _ _ us hl => match us, hl with | [_], _ => rfl
 obtain ⟨D53, F53, B53, Z53⟩ := tx_fun ["self"] x324 x325 x326 fun _ _ _ _ _ _ us hl => match us, hl with | [_], _ => rfl
 obtain ⟨D54, F54, B54, Z54⟩ := tx_fun ["self"] x329 x330 x331 fun _ _ _ _ _ _ us hl => match us, hl with | [_], _ => rfl
 obtain ⟨D55, F55, B55, Z55⟩ := tx_fun ["self"] x334 x335 x336 fun _ _ _ _ _ _ us hl => match us, hl with | [_], _ => rfl
 obtain ⟨D56, F56, B56, Z56⟩ := tx_fun ["self"] x339 x340 x341 fun _ _ _ _ _ _ us hl => match us, hl with | [_], _ => rfl
 obtain ⟨D57, F57, B57, Z57⟩ := tx_fun ["calls"] x343 x344 x345 fun _ _ _ _ _ _ us hl => match us, hl with | [_], _ => rfl
 exact ⟨⟨c1, c2, c3, c4, c5, c6, 0, c7, f1, D1, f2, D2, f3, D3, f4, D4, f5, D5, f6, D6, f7, D7, f8, D8, f9, D9, f10, D10, f11, D11, f12, D12, f13, D13, f14, D14, f15, D15, f16, D16, f17, D17, f18, D18, f19, D19, f20, D20, f21, D21, f22, D22, f23, D23, f24, D24, f25, D25, f26, D26, f27, D27, f28, D28, f29, D29, f30, D30, f31, D31, f32, D32, f33, D33, f34, D34, f35, D35, f36, D36, f37, D37, f38, D38, f39, D39, f40, D40, f41, D41, f42, D42, f43, D43, f44, D44, f45, D45, f46, D46, f47, D47, f48, D48, f49, D49, f50, D50, f51, D51, f52, D52, f53, D53, f54, D54, f55, D55, f56, D56, f57, D57⟩, ⟨⟨x2, x3, x4, x5⟩, mg_of X G x1, ⟨x6, x82, x83, x7⟩, x8, x9, x10, x11, x12, x13, x14, ⟨x16, x17, x18, x19⟩, mg_of X G x15, ⟨x20, x105, x106, x21⟩, x22, x23, x24, x25, x26, x27, ⟨x29, x30, x31, x32⟩, mg_of X G x28, ⟨x33, x130, x131, x34⟩, x35, x36, x37, ⟨x39, x40, x41, x42⟩, mg_of X G x38, ⟨x43, x160, x161, x44⟩, x45, x46, x47, ⟨x49, x50, x51, x52⟩, mg_of X G x48, ⟨x53, x201, x202, x54⟩, x55, x56, x57, ⟨x59, x60, x61, x62⟩, mg_of X G x58, ⟨x63, x214, x215, x64⟩, x65, x66, x67, x68, x69, x70, x71, ⟨x73, x74, x75, x76⟩, mg_of X G x72, ⟨x77, x302, x303, x78⟩, x79, x80, x81, F1, B1, ⟨_, Z1⟩, ⟨x88, x89, x92⟩, F2, B2, F3, B3, mg_of X G x93, x96, F4, B4, mg_of X G x97, x100, F5, B5, mg_of X G x101, x104, F6, B6, ⟨x110, x111, x114⟩, F7, B7, ⟨x115, x116, x119⟩, F8, B8, ⟨x120, x121, x124⟩, F9, B9, ⟨x125, x126, x129⟩, F10, B10, F11, B11, ⟨x135, x136, x139⟩, F12, B12, F13, B13, mg_of X G x140, x143, F14, B14, mg_of X G x144, x147, F15, B15, mg_of X G x148, x151, F16, B16, mg_of X G x152, x155, F17, B17, mg_of X G x156, x159, F18, B18, F19, B19, mg_of X G x165, x168, F20, B20, mg_of X G x169, x172, F21, B21, mg_of X G x173, x176, F22, B22, mg_of X G x177, x180, F23, B23, mg_of X G x181, x184, F24, B24, mg_of X G x185, x188, F25, B25, mg_of X G x189, x192, F26, B26, mg_of X G x193, x196, F27, B27, mg_of X G x197, x200, F28, B28, F29, B29, mg_of X G x206, x209, F30, B30, mg_of X G x210, x213, F31, B31, ⟨x219, x220, x223⟩, F32, B32, ⟨x224, x225, x228⟩, F33, B33, ⟨x229, x230, x233⟩, F34, B34, ⟨x234, x235, x238⟩, F35, B35, ⟨x239, x240, x243⟩, F36, B36, ⟨x244, x245, x248⟩, F37, B37, ⟨x249, x250, x253⟩, F38, B38, ⟨x254, x255, x258⟩, F39, B39, ⟨x259, x260, x263⟩, F40, B40, ⟨x264, x265, x268⟩, F41, B41, ⟨x269, x270, x273⟩, F42, B42, ⟨x274, x275, x278⟩, F43, B43, ⟨x279, x280, x283⟩, F44, B44, ⟨x284, x285, x288⟩, F45, B45, ⟨x289, x290, x293⟩, F46, B46, F47, B47, mg_of X G x294, x297, F48, B48, mg_of X G x298, x301, F49, B49, ⟨x307, x308, x311⟩, F50, B50, ⟨x312, x313, x316⟩, F51, B51, ⟨x317, x318, x321⟩, F52, B52, ⟨x322, x323, x326⟩, F53, B53, ⟨x327, x328, x331⟩, F54, B54, ⟨x332, x333, x336⟩, F55, B55, ⟨x337, x338, x341⟩, F56, B56, F57, B57, mg_of X G x342, x345, ⟨_, mg_of X G x346⟩, ⟨_, mg_of X G x347⟩, ⟨_, mg_of X G x348⟩, ⟨_, mg_of X G x349⟩, ⟨_, mg_of X G x350⟩, ⟨_, mg_of X G x351⟩, ⟨_, mg_of X G x352⟩, ⟨_, mg_of X G x353⟩, ⟨_, mg_of X G x354⟩, ⟨_, mg_of X G x355⟩, ⟨_, mg_of X G x356⟩, ⟨_, mg_of X G x357⟩, ⟨_, mg_of X G x358⟩, ⟨_, mg_of X G x359⟩, ⟨_, mg_of X G x360⟩, ⟨_, mg_of X G x361⟩, ⟨_, mg_of X G x362⟩, ⟨_, mg_of X G x363⟩, ⟨_, mg_of X G x364⟩, ⟨_, mg_of X G x365⟩, ⟨_, mg_of X G x366⟩, ⟨_, mg_of X G x367⟩, ⟨_, mg_of X G x368⟩, ⟨_, mg_of X G x369⟩, ⟨_, mg_of X G x370⟩, ⟨_, mg_of X G x371⟩, ⟨_, mg_of X G x372⟩, mg_none_of X G x373, mg_none_of X G x374, mg_none_of X G x375, mg_none_of X G x376, mg_none_of X G x377, mg_none_of X G x378, mg_none_of X G x379, mg_none_of X G x380, mg_none_of X G x381⟩, Z57⟩
theorem fin {P : Program} {w : World} {K : PySem.W.Frag} {mg : Str → Option Value} {fa : Addr} (hfa : mg "answers" = some (.ref fa)) (tx : ∃ t : Adr, Tx K mg t ∧ ∀ (s : Shared) (us : List Value), us.length = (["calls"] : List Str).length → BindsTo s t.d_answers ⟨us, []⟩ ((["calls"] : List Str).zip us)) :
  ∃ fd : FuncData, (∀ (s : Shared) (us : List Value), us.length = (["calls"] : List Str).length → BindsTo s fd ⟨us, []⟩ ((["calls"] : List Str).zip us)) ∧ ∀ base : Heap, K.In base → base.Ns mainGlobals mg → FnOk P w K mg base CX0 8 fa fd ["calls"] (spAnswers K) := by
 obtain ⟨t, T, Z⟩ := tx
 have e := hfa.symm.trans T.g_answers
 injection e with e
 injection e with e
 subst e
 exact ⟨t.d_answers, Z, fun base _ _ => ok_answers T (ok_Line_answer_call T)⟩
theorem asks {K : PySem.W.Frag} {H : Hp} {xs : List V} {a : PySem.W.Codec.denoteAll PySem.Challenge.rw_parcelpasses_s01_answers.args} (hO : OnlyF H) (hask : PySem.W.Codec.app PySem.Challenge.rw_parcelpasses_s01_answers.args PySem.Challenge.rw_parcelpasses_s01_answers.asked a = true) (hx : DwAll K H xs (PySem.W.Codec.encAll PySem.Challenge.rw_parcelpasses_s01_answers.args a)) :
  spAnswers K xs H (fun v H' => Dw K H' v (PySem.Challenge.rw_parcelpasses_s01_answers.ret.enc (PySem.W.Codec.app PySem.Challenge.rw_parcelpasses_s01_answers.args PySem.Challenge.rw_parcelpasses_s01_answers.f a))) fun _ _ _ => False := by
 cases hx with
 | cons h1 h2 =>
  cases h2
  cases h1 with
  | lst hs ha =>
   have e := L2.ints_dw a.1 _ ha
   subst e
   exact ⟨_, a.1, rfl, callsAt_of hO hs, hask, fun H' p hp => .lst (L2.SqL.of hp) (L2.dw_ints _)⟩
end Pp
namespace PySem.W.Fast
def tw4266062711585005168 := 0
def tw13063271937182113727 := 0
def tw5011963135822827410 := 0
def tw14045415838267059865 := 0
def tw6595375808616277787 := 0
def tw834687154446051113 := 0
def tw12825563254763884253 := 0
def tw16741961439174117260 := 0
def tw14695230478792897345 := 0
def tw11896615370254463598 := 0
def tw8367128863654749761 := 0
def tw8344121879124465585 := 0
def tw14561536283289233305 := 0
def tw18313639002394938510 := 0
def tw16791788363141752597 := 0
def tw12237485431957266676 := 0
def tw16750747527178240963 := 0
def tw17297847479103037311 := 0
def tw1336052360993304325 := 0
def tw14027200068594916629 := 0
def tw3016358089879775285 := 0
def tw9917163056302207257 := 0
def tw8319131347226930529 := 0
def tw1969530764231080475 := 0
def tw3752313755430084102 := 0
def tw18362159127471941296 := 0
def tw7563562498537965325 := 0
def tw10084334009340353206 := 0
def tw4232655424982490965 := 0
def tw9441834660423042713 := 0
def tw8791528864962035994 := 0
def tw12875532081108855426 := 0
def tw3385949741246374271 := 0
def tw7652313117991952086 := 0
def tw4241466843202147401 := 0
def tw12844212277407973025 := 0
def tw1238913295554183258 := 0
def tw8669858781851848178 := 0
def tw13753216058314892320 := 0
def tw16851518138119397963 := 0
def tw16124428338912964836 := 0
def tw14733517116323224854 := 0
def tw3681951886014346626 := 0
def tw15919517409737140170 := 0
def tw8565201979057561456 := 0
def tw5048736783998079591 := 0
def tw7327745516600052715 := 0
def tw9889547275629498871 := 0
def tw16155152128529059160 := 0
def tw17101987916514683218 := 0
def tw14064981197359757662 := 0
def tw11947849719195896191 := 0
def tw5540926036709038909 := 0
def tw4796975248428909013 := 0
def tw1978714623813286324 := 0
def tw2124481838176371132 := 0
def tw10794536099400478446 := 0
def tw2505113899053410807 := 0
def tw4587018858397361532 := 0
def tw5948315920920294644 := 0
end PySem.W.Fast
open PySem PySem.W PyProof.Rows
set_option maxRecDepth 100000 in
set_option maxHeartbeats 0 in
theorem PySem.Challenge.cw_parcelpasses_s01_answers_holds : PySem.Challenge.rw_parcelpasses_s01_answers.Holds := by
 w_on; k_headS; (case hw => exact ⟨[.list [.int 0, .int 0, .int 0, .int 0]], by decide +kernel, by decide +kernel⟩)
 k_fillS
 refine L2.walk_specK (r := PySem.Challenge.rw_parcelpasses_s01_answers) (k := 8) (CX := L2.CX0) (ps := ["calls"]) (sp := Pp.spAnswers) (by decide +kernel) rfl rfl ⟨rfl, by decide, by decide⟩ (fun w h Y => PySem.W.kIn_of Y) ?F ?S (fun _ _ _ _ z => z)
 case F =>
  intro w mg fa h Y KX G hmg
  refine' Pp.fin hmg ?tx
  refine' Pp.all_mk KX G ?_ ?_ ?_ ?_ ?_ ?_ ?_ ?_ ?_ ?_ ?_ ?_ ?_ ?_ ?_ ?_ ?_ ?_ ?_ ?_ ?_ ?_ ?_ ?_ ?_ ?_ ?_ ?_ ?_ ?_ ?_ ?_ ?_ ?_ ?_ ?_ ?_ ?_ ?_ ?_ ?_ ?_ ?_ ?_ ?_ ?_ ?_ ?_ ?_ ?_ ?_ ?_ ?_ ?_ ?_ ?_ ?_ ?_ ?_ ?_ ?_ ?_ ?_ ?_ ?_ ?_ ?_ ?_ ?_ ?_ ?_ ?_ ?_ ?_ ?_ ?_ ?_ ?_ ?_ ?_ ?_ ?_ ?_ ?_ ?_ ?_ ?_ ?_ ?_ ?_ ?_ ?_ ?_ ?_ ?_ ?_ ?_ ?_ ?_ ?_ ?_ ?_ ?_ ?_ ?_ ?_ ?_ ?_ ?_ ?_ ?_ ?_ ?_ ?_ ?_ ?_ ?_ ?_ ?_ ?_ ?_ ?_ ?_ ?_ ?_ ?_ ?_ ?_ ?_ ?_ ?_ ?_ ?_ ?_ ?_ ?_ ?_ ?_ ?_ ?_ ?_ ?_ ?_ ?_ ?_ ?_ ?_ ?_ ?_ ?_ ?_ ?_ ?_ ?_ ?_ ?_ ?_ ?_ ?_ ?_ ?_ ?_ ?_ ?_ ?_ ?_ ?_ ?_ ?_ ?_ ?_ ?_ ?_ ?_ ?_ ?_ ?_ ?_ ?_ ?_ ?_ ?_ ?_ ?_ ?_ ?_ ?_ ?_ ?_ ?_ ?_ ?_ ?_ ?_ ?_ ?_ ?_ ?_ ?_ ?_ ?_ ?_ ?_ ?_ ?_ ?_ ?_ ?_ ?_ ?_ ?_ ?_ ?_ ?_ ?_ ?_ ?_ ?_ ?_ ?_ ?_ ?_ ?_ ?_ ?_ ?_ ?_ ?_ ?_ ?_ ?_ ?_ ?_ ?_ ?_ ?_ ?_ ?_ ?_ ?_ ?_ ?_ ?_ ?_ ?_ ?_ ?_ ?_ ?_ ?_ ?_ ?_ ?_ ?_ ?_ ?_ ?_ ?_ ?_ ?_ ?_ ?_ ?_ ?_ ?_ ?_ ?_ ?_ ?_ ?_ ?_ ?_ ?_ ?_ ?_ ?_ ?_ ?_ ?_ ?_ ?_ ?_ ?_ ?_ ?_ ?_ ?_ ?_ ?_ ?_ ?_ ?_ ?_ ?_ ?_ ?_ ?_ ?_ ?_ ?_ ?_ ?_ ?_ ?_ ?_ ?_ ?_ ?_ ?_ ?_ ?_ ?_ ?_ ?_ ?_ ?_ ?_ ?_ ?_ ?_ ?_ ?_ ?_ ?_ ?_ ?_ ?_ ?_ ?_ ?_ ?_ ?_ ?_ ?_ ?_ ?_ ?_ ?_ ?_ ?_ ?_ ?_ ?_ ?_ ?_ ?_ ?_ ?_ ?_ ?_ ?_ ?_ ?_ ?_ ?_ ?_ ?_ ?_ ?_ ?_ ?_ ?_ ?_ ?_ ?_ ?_ ?_ ?_ ?_ ?_ ?_ ?_ ?_ ?_ ?_ ?_ ?_ ?_ ?_ ?_ ?_
  any_goals k_is
 case S =>
  intro K H xs a hO hwi hask hx
  exact Pp.asks hO hask hx
