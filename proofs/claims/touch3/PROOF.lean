import PyProof.Rows.All
import Wide.All
import OpenK.AllK
import Wide.FinOn
import Open.SpecLaws
import KE.OsHead
import KE.OsGo
import HandS.ForSpec
import HandS.Comp
import HandS.Iter
import HandS.Walk
import HandS.Conv
import HandS.Zip
import KE.OsArith
import EbOrder
import PySem.Challenge.RW_threadrow_s01_touch
set_option Elab.async false
set_option linter.all false
set_option maxRecDepth 100000
set_option maxHeartbeats 2000000
namespace Tr
open PySem PySem.Spec PyProof.Rows L2
open PySem.W (Codec)
/-! ### the text by places -/
def top (i : Nat) : Stmt := PySem.Challenge.pw_threadrow_s01_touch.main.body.getD i (.Pass ⟨0, 0, 0, 0⟩)
abbrev sTouch : Stmt := top 3
abbrev sRef : Stmt := top 4
abbrev sBnd : Stmt := top 5
abbrev sHol : Stmt := top 6
abbrev sSti : Stmt := top 7
abbrev sTch : Stmt := top 8
abbrev sST : Stmt := top 9
abbrev sSpn : Stmt := top 10
abbrev sPar : Stmt := top 11
abbrev sSide : Stmt := top 12
theorem scTouch : FnScope ["one", "other"] ["one", "other"] (defScope sTouch) := ⟨rfl, rfl, rfl, by decide +kernel, rfl, by decide +kernel, by decide +kernel⟩
theorem scRef : FnScope ["row", "count"] ["row"] (defScope sRef) := ⟨rfl, rfl, rfl, by decide +kernel, rfl, by decide +kernel, by decide +kernel⟩
theorem scBnd : FnScope ["row", "number"] ["row"] (defScope sBnd) := ⟨rfl, rfl, rfl, by decide +kernel, rfl, by decide +kernel, by decide +kernel⟩
theorem scHol : FnScope ["row", "k"] ["row"] (defScope sHol) := ⟨rfl, rfl, rfl, by decide +kernel, rfl, by decide +kernel, by decide +kernel⟩
theorem scSti : FnScope ["row", "holes", "k"] ["row"] (defScope sSti) := ⟨rfl, rfl, rfl, by decide +kernel, rfl, by decide +kernel, by decide +kernel⟩
theorem scTch : FnScope ["one", "other", "stitch", "another"] ["one", "other"] (defScope sTch) := ⟨rfl, rfl, rfl, by decide +kernel, rfl, by decide +kernel, by decide +kernel⟩
theorem scST : FnScope ["one", "other"] ["one", "other"] (defScope sST) := ⟨rfl, rfl, rfl, by decide +kernel, rfl, by decide +kernel, by decide +kernel⟩
theorem scSpn : FnScope ["one", "other", "axis", "low", "high"] ["one", "other", "axis"] (defScope sSpn) := ⟨rfl, rfl, rfl, by decide +kernel, rfl, by decide +kernel, by decide +kernel⟩
theorem scPar : FnScope ["stitch", "line"] ["stitch", "line"] (defScope sPar) := ⟨rfl, rfl, rfl, by decide +kernel, rfl, by decide +kernel, by decide +kernel⟩
theorem scSide : FnScope ["place", "line", "start", "end"] ["place", "line"] (defScope sSide) := ⟨rfl, rfl, rfl, by decide +kernel, rfl, by decide +kernel, by decide +kernel⟩
end Tr

namespace Tr
open PySem PySem.Spec PyProof.Rows L2
open PySem.W (Codec)
abbrev Pl := Eb.Place
abbrev Sti := Eb.Stitch
/-! ### what lies in the heap -/
theorem same_upd {H : Hp} {p : Addr} {o : HO} (h : H p = none) : Same H (upd H p o) := fun b x e => by
  rw [upd_ne (ne_of_none e h)]
  exact e
def PlAt (H : Hp) (a : Addr) (p : Pl) : Prop := H a = some (.tup [.int p.x, .int p.y])
def StAt (H : Hp) (a : Addr) (s : Sti) : Prop := ∃ u v, H a = some (.tup [.ref u, .ref v]) ∧ PlAt H u s.1 ∧ PlAt H v s.2
/-- a list at l of things that stand for xs -/
def LsAt {A : Type} (R : Hp → Addr → A → Prop) (H : Hp) (l : Addr) (xs : List A) : Prop :=
  ∃ as : List Addr, H l = some (.lst (as.map V.ref)) ∧ as.length = xs.length ∧ ∀ (i : Nat) (a : Addr) (x : A), as[i]? = some a → xs[i]? = some x → R H a x
def Keeps {A : Type} (R : Hp → Addr → A → Prop) : Prop := ∀ {H H' : Hp} {a : Addr} {x : A}, Same H H' → R H a x → R H' a x
theorem PlAt.keeps : Keeps PlAt := fun e h => e _ _ h
theorem StAt.keeps : Keeps StAt := fun e ⟨u, v, h, h1, h2⟩ => ⟨u, v, e _ _ h, PlAt.keeps e h1, PlAt.keeps e h2⟩
theorem LsAt.keeps {A : Type} {R : Hp → Addr → A → Prop} (k : Keeps R) : Keeps (LsAt R) := fun e ⟨as, h, hl, hr⟩ => ⟨as, e _ _ h, hl, fun i a x h1 h2 => k e (hr i a x h1 h2)⟩
/-- the items, once the list is there -/
theorem LsAt.item {A : Type} {R : Hp → Addr → A → Prop} {H : Hp} {as : List Addr} {xs : List A} {i : Nat} (hl : as.length = xs.length) (h : i < xs.length) : ∃ a x, as[i]? = some a ∧ xs[i]? = some x :=
  ⟨as[i]'(by omega), xs[i], by simp [show i < as.length by omega], by simp [h]⟩
theorem ref_at {as : List Addr} {i : Nat} {a : Addr} (h : as[i]? = some a) : (as.map V.ref)[i]? = some (V.ref a) := by
  rw [List.getElem?_map, h]
  rfl
/-- one more item at a list that grows (the address D), the item at a -/
theorem take_more {A : Type} : ∀ {l : List A} {i : Nat} {x : A}, l[i]? = some x → l.take (i + 1) = l.take i ++ [x]
  | [], i, x, h => by simp at h
  | a :: l, 0, x, h => by
    have e : a = x := Option.some.inj h
    subst e
    rfl
  | a :: l, i + 1, x, h => by
    have ih := take_more (l := l) (i := i) (x := x) h
    show a :: l.take (i + 1) = a :: l.take i ++ [x]
    rw [ih]
    rfl
/-- the things of a growing list D: as stands for xs, D none of them -/
structure Grow {A : Type} (R : Hp → Addr → A → Prop) (H0 H : Hp) (D : Addr) (xs : List A) (as : List Addr) : Prop where
  lst : H D = some (.lst (as.map V.ref))
  same : Same H0 H
  len : as.length = xs.length
  at_ : ∀ (i : Nat) (a : Addr) (x : A), as[i]? = some a → xs[i]? = some x → a ≠ D ∧ R H a x
/-- a list's store leaves R at any other address -/
def Firm {A : Type} (R : Hp → Addr → A → Prop) : Prop := ∀ {H : Hp} {a : Addr} {x : A} {D : Addr} {ys zs : List V}, H D = some (.lst ys) → a ≠ D → R H a x → R (upd H D (.lst zs)) a x
/-- R speaks of tuples alone: a list's store leaves it -/
def FirmT {A : Type} (R : Hp → Addr → A → Prop) : Prop := ∀ {H : Hp} {a : Addr} {x : A} {D : Addr} {ys zs : List V}, H D = some (.lst ys) → R H a x → R (upd H D (.lst zs)) a x
theorem firm_ne {H : Hp} {a D : Addr} {ys ws zs : List V} (hD : H D = some (.lst ys)) (h : H a = some (.tup ws)) : (upd H D (.lst zs)) a = some (.tup ws) := by
  rw [upd_ne (ne_of h hD (by intro z; cases z))]
  exact h
theorem FirmT.firm {A : Type} {R : Hp → Addr → A → Prop} (f : FirmT R) : Firm R := fun hD _ h => f hD h
theorem PlAt.firmT : FirmT PlAt := fun hD h => firm_ne hD h
theorem StAt.firmT : FirmT StAt := fun hD ⟨u, v, h, h1, h2⟩ => ⟨u, v, firm_ne hD h, firm_ne hD h1, firm_ne hD h2⟩
theorem LsAt.firm {A : Type} {R : Hp → Addr → A → Prop} (f : FirmT R) : Firm (LsAt R) := fun {H a x D ys zs} hD n ⟨as, h, hl, hr⟩ => ⟨as, by rw [upd_ne n]; exact h, hl, fun i b y h1 h2 => f hD (hr i b y h1 h2)⟩
/-- a list of whole numbers, tracked -/
def NsAt (H : Hp) (a : Addr) (ns : List Int) : Prop := H a = some (.lst (ns.map V.int))
theorem NsAt.keeps : Keeps NsAt := fun e h => e _ _ h
theorem NsAt.firm : Firm NsAt := fun {H a x D ys zs} _ n h => by
  show upd H D (.lst zs) a = _
  rw [upd_ne n]
  exact h
theorem Grow.start {A : Type} {R : Hp → Addr → A → Prop} {H0 : Hp} {D : Addr} (nD : H0 D = none) : Grow R H0 (upd H0 D (.lst [])) D [] [] := ⟨upd_same, same_upd nD, rfl, fun i a x h => by simp at h⟩
theorem Grow.more {A : Type} {R : Hp → Addr → A → Prop} (fR : Firm R) (kR : Keeps R) {H0 H H' : Hp} {D : Addr} {xs : List A} {as : List Addr} {a : Addr} {x : A} (G : Grow R H0 H D xs as) (nD : H0 D = none) (s : Same H H') (na : H a = none) (hx : R H' a x) :
    Grow R H0 (upd H' D (.lst (as.map V.ref ++ [V.ref a]))) D (xs ++ [x]) (as ++ [a]) := by
  have hD := s _ _ G.lst
  have nn : a ≠ D := (ne_of_none G.lst na).symm
  refine ⟨?_, fun b o e => ?_, by simp [G.len], fun i b y hb hy => ?_⟩
  · rw [upd_same, List.map_append]
    rfl
  · rw [upd_ne (ne_of_none e nD)]
    exact s _ _ (G.same _ _ e)
  · by_cases hi : i < as.length
    · rw [List.getElem?_append_left hi] at hb
      rw [List.getElem?_append_left (by rw [← G.len]; exact hi)] at hy
      obtain ⟨n, r⟩ := G.at_ i b y hb hy
      exact ⟨n, fR hD n (kR s r)⟩
    · have e1 : i = as.length := by
        have := (List.getElem?_eq_some_iff.mp hb).1
        simp at this
        omega
      subst e1
      rw [List.getElem?_append_right (Nat.le_refl _), Nat.sub_self] at hb
      rw [G.len, List.getElem?_append_right (Nat.le_refl _), Nat.sub_self] at hy
      have e2 : a = b := Option.some.inj hb
      have e3 : x = y := Option.some.inj hy
      subst e2 e3
      exact ⟨nn, fR hD nn hx⟩
theorem Grow.done {A : Type} {R : Hp → Addr → A → Prop} {H0 H : Hp} {D : Addr} {xs : List A} {as : List Addr} (G : Grow R H0 H D xs as) : LsAt R H D xs := ⟨as, G.lst, G.len, fun i a x h1 h2 => (G.at_ i a x h1 h2).2⟩
end Tr

namespace TG
open Eb
/-- weights on both sides of one balance: the spans meet -/
theorem weigh {p q u v a b c d : Int} (hp : 0 ≤ p) (hq : 0 ≤ q) (hu : 0 ≤ u) (hv : 0 ≤ v) (hs : 0 < p + q) (he : p + q = u + v) (h : p * c + q * d = u * b + v * a) :
    max (min a b) (min c d) ≤ min (max a b) (max c d) := by
  have key : ∀ M : Int, a ≤ M → b ≤ M → M < c → M < d → False := by
    intro M h1 h2 h3 h4
    have e1 : 0 ≤ p * (c - M) := Int.mul_nonneg hp (by omega)
    have e2 : 0 ≤ q * (d - M) := Int.mul_nonneg hq (by omega)
    have e3 : 0 ≤ u * (M - b) := Int.mul_nonneg hu (by omega)
    have e4 : 0 ≤ v * (M - a) := Int.mul_nonneg hv (by omega)
    have e5 : p * (c - M) + q * (d - M) + u * (M - b) + v * (M - a) = 0 := by grind
    rcases Int.lt_or_le 0 p with g | g
    · have e6 : 0 < p * (c - M) := Int.mul_pos g (by omega)
      omega
    · have e6 : 0 < q * (d - M) := Int.mul_pos (by omega) (by omega)
      omega
  have key2 : ∀ M : Int, c ≤ M → d ≤ M → M < a → M < b → False := by
    intro M h1 h2 h3 h4
    have e1 : 0 ≤ p * (M - c) := Int.mul_nonneg hp (by omega)
    have e2 : 0 ≤ q * (M - d) := Int.mul_nonneg hq (by omega)
    have e3 : 0 ≤ u * (b - M) := Int.mul_nonneg hu (by omega)
    have e4 : 0 ≤ v * (a - M) := Int.mul_nonneg hv (by omega)
    have e5 : p * (M - c) + q * (M - d) + u * (b - M) + v * (a - M) = 0 := by grind
    rcases Int.lt_or_le 0 u with g | g
    · have e6 : 0 < u * (b - M) := Int.mul_pos g (by omega)
      omega
    · have e6 : 0 < v * (a - M) := Int.mul_pos (by omega) (by omega)
      omega
  rcases Int.lt_or_le (min (max a b) (max c d)) (max (min a b) (min c d)) with g | g
  · exfalso
    by_cases g1 : max a b < min c d
    · exact key (max a b) (by omega) (by omega) (by omega) (by omega)
    · exact key2 (max c d) (by omega) (by omega) (by omega) (by omega)
  · exact g
/-- a product of whole numbers that isn't above nought -/
theorem le_cases {x y : Int} (h : x * y ≤ 0) : (x ≤ 0 ∧ 0 ≤ y) ∨ (0 ≤ x ∧ y ≤ 0) := by
  rcases Int.lt_trichotomy x 0 with g | g | g
  · rcases Int.lt_or_le y 0 with f | f
    · have := Int.mul_pos_of_neg_of_neg g f
      omega
    · exact .inl ⟨by omega, f⟩
  · subst g
    rcases Int.lt_or_le y 0 with f | f
    · exact .inr ⟨by omega, by omega⟩
    · exact .inl ⟨by omega, f⟩
  · rcases Int.lt_or_le 0 y with f | f
    · have := Int.mul_pos g f
      omega
    · exact .inr ⟨by omega, f⟩
theorem le_of_cases {x y : Int} (h : (x ≤ 0 ∧ 0 ≤ y) ∨ (0 ≤ x ∧ y ≤ 0)) : x * y ≤ 0 := by
  rcases h with ⟨a, b⟩ | ⟨a, b⟩
  · have := Int.mul_nonneg (show 0 ≤ -x by omega) b
    rw [Int.neg_mul] at this
    omega
  · have := Int.mul_nonneg a (show 0 ≤ -y by omega)
    rw [Int.mul_neg] at this
    omega
theorem sq_nonneg (x : Int) : 0 ≤ x * x := by
  rcases Int.le_total 0 x with h | h
  · exact Int.mul_nonneg h h
  · have := Int.mul_nonneg (show 0 ≤ -x by omega) (show 0 ≤ -x by omega)
    rw [Int.neg_mul_neg] at this
    exact this
/-- a point between two others, in line with them: no way through it has both on one side -/
theorem parts {ux uy vx vy wx wy : Int} (hk : ux * vy = uy * vx) (hP : ux * vx ≤ 0) (hQ : uy * vy ≤ 0) :
    (wx * uy - wy * ux) * (wx * vy - wy * vx) ≤ 0 := by
  rcases Int.lt_or_le (uy * vy) 0 with g | g
  · have e : (uy * vy) * ((wx * uy - wy * ux) * (wx * vy - wy * vx)) = (uy * vy * wx - ux * vy * wy) * (uy * vy * wx - ux * vy * wy) := by grind
    have s := sq_nonneg (uy * vy * wx - ux * vy * wy)
    rcases Int.lt_or_le 0 ((wx * uy - wy * ux) * (wx * vy - wy * vx)) with f | f
    · have := Int.mul_neg_of_neg_of_pos g f
      omega
    · exact f
  · have q0 : uy * vy = 0 := by omega
    have k2 : (ux * vy) * (ux * vy) = 0 := by
      have : (ux * vy) * (ux * vy) = (ux * vx) * (uy * vy) := by grind
      rw [this, q0, Int.mul_zero]
    have k0 : ux * vy = 0 := by
      rcases Int.mul_eq_zero.mp k2 with h | h <;> exact h
    have k1 : uy * vx = 0 := by omega
    have e : (wx * uy - wy * ux) * (wx * vy - wy * vx) = (ux * vx) * (wy * wy) := by
      have : (wx * uy - wy * ux) * (wx * vy - wy * vx) = wx * wx * (uy * vy) - wx * wy * (uy * vx) - wx * wy * (ux * vy) + (ux * vx) * (wy * wy) := by grind
      rw [this, q0, k0, k1]
      simp
    rw [e]
    have := Int.mul_nonneg (show 0 ≤ -(ux * vx) by omega) (sq_nonneg wy)
    rw [Int.neg_mul] at this
    omega
/-- on a line that isn't upright what lies between by x lies between by y -/
theorem along {ax ay bx by_ cx cy : Int} (h : (bx - ax) * (cy - ay) = (by_ - ay) * (cx - ax)) (hne : ax ≠ bx) (h1 : min ax bx ≤ cx) (h2 : cx ≤ max ax bx) :
    min ay by_ ≤ cy ∧ cy ≤ max ay by_ := by
  have main : ∀ {q r : Int}, 0 ≤ q → 0 ≤ r → 0 < q + r → (q + r) * cy = q * by_ + r * ay → min ay by_ ≤ cy ∧ cy ≤ max ay by_ := by
    intro q r hq hr hs e
    have := weigh (a := ay) (b := by_) (c := cy) (d := cy) (p := q) (q := r) (u := q) (v := r) hq hr hq hr hs rfl (by grind)
    omega
  rcases Int.lt_or_le ax bx with g | g
  · exact main (q := cx - ax) (r := bx - cx) (by omega) (by omega) (by omega) (by grind)
  · exact main (q := ax - cx) (r := cx - bx) (by omega) (by omega) (by omega) (by grind)
end TG

namespace TG
open Eb
def sd (ax ay bx by_ cx cy : Int) : Int := (bx - ax) * (cy - ay) - (by_ - ay) * (cx - ax)
def opp (x y : Int) : Prop := (x < 0 ∧ 0 < y) ∨ (y < 0 ∧ 0 < x)
def btw (a b c : Int) : Prop := min a b ≤ c ∧ c ≤ max a b
def spn (a b c d : Int) : Prop := max (min a b) (min c d) ≤ min (max a b) (max c d)
theorem sd_swap (ax ay bx by_ cx cy : Int) : sd bx by_ ax ay cx cy = - sd ax ay bx by_ cx cy := by
  unfold sd
  grind
theorem spn_comm {a b c d : Int} (h : spn a b c d) : spn c d a b := by
  unfold spn at *
  omega
theorem opp_mul {x y : Int} (h : opp x y) : x * y ≤ 0 := le_of_cases (by unfold opp at h; omega)
/-- the two stitches' sides have one balance -/
theorem bal (ax ay bx by_ cx cy dx dy : Int) :
    sd ax ay bx by_ dx dy - sd ax ay bx by_ cx cy = sd cx cy dx dy ax ay - sd cx cy dx dy bx by_ ∧
    sd ax ay bx by_ dx dy * cx - sd ax ay bx by_ cx cy * dx = sd cx cy dx dy ax ay * bx - sd cx cy dx dy bx by_ * ax ∧
    sd ax ay bx by_ dx dy * cy - sd ax ay bx by_ cx cy * dy = sd cx cy dx dy ax ay * by_ - sd cx cy dx dy bx by_ * ay := by
  unfold sd
  refine ⟨?_, ?_, ?_⟩ <;> grind
theorem cross_spn {s1 s2 t1 t2 a b c d : Int} (e : s2 - s1 = t1 - t2) (h : s2 * c - s1 * d = t1 * b - t2 * a) (os : opp s1 s2) (ot : opp t1 t2) : spn a b c d := by
  unfold opp at os ot
  unfold spn
  rcases os with ⟨g1, g2⟩ | ⟨g1, g2⟩
  · exact weigh (p := s2) (q := -s1) (u := t1) (v := -t2) (by omega) (by omega) (by omega) (by omega) (by omega) (by omega) (by grind)
  · exact weigh (p := -s2) (q := s1) (u := -t1) (v := t2) (by omega) (by omega) (by omega) (by omega) (by omega) (by omega) (by grind)
/-- a point upon a stitch: the stitch's ends don't lie on one side of a way from there -/
theorem on_parts {ax ay bx by_ cx cy dx dy : Int} (h : sd ax ay bx by_ cx cy = 0) (hx : btw ax bx cx) (hy : btw ay by_ cy) : sd cx cy dx dy ax ay * sd cx cy dx dy bx by_ ≤ 0 := by
  unfold sd at *
  unfold btw at *
  exact parts (ux := ax - cx) (uy := ay - cy) (vx := bx - cx) (vy := by_ - cy) (wx := dx - cx) (wy := dy - cy) (by grind) (le_of_cases (by omega)) (le_of_cases (by omega))
theorem btw_spn {a b c d : Int} (h : btw a b c) : spn a b c d := by
  unfold btw at h
  unfold spn
  omega
theorem btw_spn' {a b c d : Int} (h : btw a b d) : spn a b c d := by
  unfold btw at h
  unfold spn
  omega
/-- from the program's tests: balance gives the place -/
theorem on_of {s2 t1 t2 a b c : Int} (e : s2 = t1 - t2) (h : s2 * c = t1 * b - t2 * a) (hs : s2 ≠ 0) (ht : t1 * t2 ≤ 0) : btw a b c := by
  unfold btw
  have g := le_cases ht
  have w : spn a b c c := by
    unfold spn
    rcases Int.lt_or_le 0 s2 with f | f
    · exact weigh (p := s2) (q := 0) (u := t1) (v := -t2) (by omega) (by omega) (by omega) (by omega) (by omega) (by omega) (by grind)
    · exact weigh (p := -s2) (q := 0) (u := -t1) (v := t2) (by omega) (by omega) (by omega) (by omega) (by omega) (by omega) (by grind)
  unfold spn at w
  omega
def On (ax ay bx by_ cx cy : Int) : Prop := sd ax ay bx by_ cx cy = 0 ∧ btw ax bx cx ∧ btw ay by_ cy
/-- all in one line: where the spans meet an end lies upon the other -/
theorem in_line {ax ay bx by_ cx cy dx dy : Int} (s1 : sd ax ay bx by_ cx cy = 0) (s2 : sd ax ay bx by_ dx dy = 0) (t1 : sd cx cy dx dy ax ay = 0) (t2 : sd cx cy dx dy bx by_ = 0)
    (hx : spn ax bx cx dx) (hy : spn ay by_ cy dy) : On ax ay bx by_ cx cy ∨ On ax ay bx by_ dx dy ∨ On cx cy dx dy ax ay ∨ On cx cy dx dy bx by_ := by
  unfold On
  simp only [s1, s2, t1, t2, true_and]
  by_cases hab : ax = bx
  · by_cases hcd : cx = dx
    · -- both upright
      unfold spn at hx hy
      unfold btw
      omega
    · -- only the second isn't: a lies on it by x
      refine .inr (.inr (.inl ?_))
      have h1 : btw cx dx ax := by
        unfold spn at hx
        unfold btw
        omega
      exact ⟨h1, along (by unfold sd at t1; omega) hcd h1.1 h1.2⟩
  · by_cases hcd : cx = dx
    · refine .inl ?_
      have h1 : btw ax bx cx := by
        unfold spn at hx
        unfold btw
        omega
      exact ⟨h1, along (by unfold sd at s1; omega) hab h1.1 h1.2⟩
    · have h : btw ax bx cx ∨ btw ax bx dx ∨ btw cx dx ax ∨ btw cx dx bx := by
        unfold spn at hx
        unfold btw
        omega
      rcases h with h | h | h | h
      · exact .inl ⟨h, along (by unfold sd at s1; omega) hab h.1 h.2⟩
      · exact .inr (.inl ⟨h, along (by unfold sd at s2; omega) hab h.1 h.2⟩)
      · exact .inr (.inr (.inl ⟨h, along (by unfold sd at t1; omega) hcd h.1 h.2⟩))
      · exact .inr (.inr (.inr ⟨h, along (by unfold sd at t2; omega) hcd h.1 h.2⟩))
def Prog (ax ay bx by_ cx cy dx dy : Int) : Prop := spn ax bx cx dx ∧ spn ay by_ cy dy ∧ sd cx cy dx dy ax ay * sd cx cy dx dy bx by_ ≤ 0 ∧ sd ax ay bx by_ cx cy * sd ax ay bx by_ dx dy ≤ 0
def Spec (ax ay bx by_ cx cy dx dy : Int) : Prop := (opp (sd ax ay bx by_ cx cy) (sd ax ay bx by_ dx dy) ∧ opp (sd cx cy dx dy ax ay) (sd cx cy dx dy bx by_)) ∨
  On ax ay bx by_ cx cy ∨ On ax ay bx by_ dx dy ∨ On cx cy dx dy ax ay ∨ On cx cy dx dy bx by_
theorem prog_of_spec {ax ay bx by_ cx cy dx dy : Int} (h : Spec ax ay bx by_ cx cy dx dy) : Prog ax ay bx by_ cx cy dx dy := by
  obtain ⟨e0, e1, e2⟩ := bal ax ay bx by_ cx cy dx dy
  rcases h with ⟨os, ot⟩ | ⟨h0, hx, hy⟩ | ⟨h0, hx, hy⟩ | ⟨h0, hx, hy⟩ | ⟨h0, hx, hy⟩
  · exact ⟨cross_spn e0 e1 os ot, cross_spn e0 e2 os ot, opp_mul ot, opp_mul os⟩
  · exact ⟨btw_spn hx, btw_spn hy, on_parts h0 hx hy, by rw [h0, Int.zero_mul]; exact Int.le_refl _⟩
  · refine ⟨btw_spn' hx, btw_spn' hy, ?_, by rw [h0, Int.mul_zero]; exact Int.le_refl _⟩
    have := on_parts (dx := cx) (dy := cy) h0 hx hy
    rw [sd_swap cx cy dx dy ax ay, sd_swap cx cy dx dy bx by_, Int.neg_mul_neg] at this
    exact this
  · exact ⟨spn_comm (btw_spn hx), spn_comm (btw_spn hy), by rw [h0, Int.zero_mul]; exact Int.le_refl _, on_parts h0 hx hy⟩
  · refine ⟨spn_comm (btw_spn' hx), spn_comm (btw_spn' hy), by rw [h0, Int.mul_zero]; exact Int.le_refl _, ?_⟩
    have := on_parts (dx := ax) (dy := ay) h0 hx hy
    rw [sd_swap ax ay bx by_ cx cy, sd_swap ax ay bx by_ dx dy, Int.neg_mul_neg] at this
    exact this
theorem spec_of_prog {ax ay bx by_ cx cy dx dy : Int} (h : Prog ax ay bx by_ cx cy dx dy) : Spec ax ay bx by_ cx cy dx dy := by
  obtain ⟨hx, hy, ht, hs⟩ := h
  obtain ⟨e0, e1, e2⟩ := bal ax ay bx by_ cx cy dx dy
  unfold Spec
  generalize es1 : sd ax ay bx by_ cx cy = s1 at *
  generalize es2 : sd ax ay bx by_ dx dy = s2 at *
  generalize et1 : sd cx cy dx dy ax ay = t1 at *
  generalize et2 : sd cx cy dx dy bx by_ = t2 at *
  by_cases d : s2 - s1 = 0
  · have z : s1 = 0 ∧ s2 = 0 ∧ t1 = 0 ∧ t2 = 0 := by
      have c1 := le_cases hs
      have c2 := le_cases ht
      omega
    obtain ⟨z1, z2, z3, z4⟩ := z
    exact .inr (in_line (es1.trans z1) (es2.trans z2) (et1.trans z3) (et2.trans z4) hx hy)
  · by_cases z1 : s1 = 0
    · subst z1
      exact .inr (.inl ⟨es1, on_of (s2 := s2) (t1 := t1) (t2 := t2) (by omega) (by grind) (by omega) ht, on_of (s2 := s2) (t1 := t1) (t2 := t2) (by omega) (by grind) (by omega) ht⟩)
    by_cases z2 : s2 = 0
    · subst z2
      exact .inr (.inr (.inl ⟨es2, on_of (s2 := -s1) (t1 := t1) (t2 := t2) (by omega) (by grind) (by omega) ht, on_of (s2 := -s1) (t1 := t1) (t2 := t2) (by omega) (by grind) (by omega) ht⟩))
    by_cases z3 : t1 = 0
    · subst z3
      exact .inr (.inr (.inr (.inl ⟨et1, on_of (s2 := t2) (t1 := s1) (t2 := s2) (by omega) (by grind) (by omega) hs, on_of (s2 := t2) (t1 := s1) (t2 := s2) (by omega) (by grind) (by omega) hs⟩)))
    by_cases z4 : t2 = 0
    · subst z4
      exact .inr (.inr (.inr (.inr ⟨et2, on_of (s2 := -t1) (t1 := s1) (t2 := s2) (by omega) (by grind) (by omega) hs, on_of (s2 := -t1) (t1 := s1) (t2 := s2) (by omega) (by grind) (by omega) hs⟩)))
    · refine .inl ⟨?_, ?_⟩
      · have := le_cases hs
        unfold opp
        omega
      · have := le_cases ht
        unfold opp
        omega
/-! over places -/
def spans (a b c d : Int) : Bool := decide (max (min a b) (min c d) ≤ min (max a b) (max c d))
def parted (s l : Stitch) : Bool := decide (side l.1 l.2 s.1 * side l.1 l.2 s.2 ≤ 0)
def touches (s t : Stitch) : Bool := (spans s.1.x s.2.x t.1.x t.2.x && spans s.1.y s.2.y t.1.y t.2.y) && (parted s t && parted t s)
theorem side_sd (a b c : Place) : side a b c = sd a.x a.y b.x b.y c.x c.y := rfl
theorem opp_iff (x y : Int) : opposite x y = true ↔ opp x y := by
  unfold opposite opp
  simp only [Bool.or_eq_true, Bool.and_eq_true, decide_eq_true_eq]
theorem on_iff (s : Stitch) (p : Place) : onStitch s p = true ↔ On s.1.x s.1.y s.2.x s.2.y p.x p.y := by
  unfold onStitch between_ On btw
  rw [side_sd]
  simp only [Bool.and_eq_true, decide_eq_true_eq, beq_iff_eq]
theorem touches_eq (s t : Stitch) : touches s t = stitchesTouch s t := by
  rw [Bool.eq_iff_iff]
  unfold touches stitchesTouch spans parted
  simp only [Bool.or_eq_true, Bool.and_eq_true, decide_eq_true_eq, opp_iff, on_iff]
  constructor
  · rintro ⟨⟨a, b⟩, c, d⟩
    exact spec_of_prog ⟨a, b, c, d⟩
  · intro h
    obtain ⟨a, b, c, d⟩ := prog_of_spec h
    exact ⟨⟨a, b⟩, c, d⟩
end TG

namespace Tr
open PySem PySem.Spec PyProof.Rows L2
open PySem.W (Codec)
/-! ### side_of, is_parted, spans_meet, stitches_touch -/
def okP (p : Pl) : Prop := (-30000 ≤ p.x ∧ p.x ≤ 30000) ∧ (-30000 ≤ p.y ∧ p.y ≤ 30000)
def okS (s : Sti) : Prop := okP s.1 ∧ okP s.2
def spSide : Sp := fun vs H Q _ => ∃ (a l : Addr) (p : Pl) (s : Sti), vs = [.ref a, .ref l] ∧ PlAt H a p ∧ StAt H l s ∧ okP p ∧ okS s ∧ Q (.int (Eb.side s.1 s.2 p)) H
def spPar : Sp := fun vs H Q _ => ∃ (a l : Addr) (s t : Sti), vs = [.ref a, .ref l] ∧ StAt H a s ∧ StAt H l t ∧ okS s ∧ okS t ∧ Q (.bl (TG.parted s t)) H
def co (c : Bool) (p : Pl) : Int := if c = true then p.y else p.x
def axis (c : Bool) : Int := if c = true then 1 else 0
def spSpn : Sp := fun vs H Q _ => ∃ (a l : Addr) (s t : Sti) (c : Bool), vs = [.ref a, .ref l, .int (axis c)] ∧ StAt H a s ∧ StAt H l t ∧ Q (.bl (TG.spans (co c s.1) (co c s.2) (co c t.1) (co c t.2))) H
def spST : Sp := fun vs H Q _ => ∃ (a l : Addr) (s t : Sti), vs = [.ref a, .ref l] ∧ StAt H a s ∧ StAt H l t ∧ okS s ∧ okS t ∧ Q (.bl (TG.touches s t)) H
theorem side_le {p : Pl} {s : Sti} (hp : okP p) (hs : okS s) : -(2 ^ 64) < Eb.side s.1 s.2 p ∧ Eb.side s.1 s.2 p < 2 ^ 64 := by
  have key : ∀ x y : Int, -60000 ≤ x → x ≤ 60000 → -60000 ≤ y → y ≤ 60000 → -3600000000 ≤ x * y ∧ x * y ≤ 3600000000 := by
    intro x y h1 h2 h3 h4
    have e1 := Int.mul_nonneg (show 0 ≤ 60000 - x by omega) (show 0 ≤ 60000 - y by omega)
    have e2 := Int.mul_nonneg (show 0 ≤ 60000 + x by omega) (show 0 ≤ 60000 + y by omega)
    have e3 := Int.mul_nonneg (show 0 ≤ 60000 - x by omega) (show 0 ≤ 60000 + y by omega)
    have e4 := Int.mul_nonneg (show 0 ≤ 60000 + x by omega) (show 0 ≤ 60000 - y by omega)
    rw [Int.mul_sub, Int.sub_mul, Int.sub_mul] at e1
    rw [Int.mul_add, Int.add_mul, Int.add_mul] at e2
    rw [Int.mul_add, Int.sub_mul, Int.sub_mul] at e3
    rw [Int.mul_sub, Int.add_mul, Int.add_mul] at e4
    omega
  obtain ⟨⟨a1, a2⟩, a3, a4⟩ := hp
  obtain ⟨⟨⟨b1, b2⟩, b3, b4⟩, ⟨c1, c2⟩, c3, c4⟩ := hs
  have k1 := key (s.2.x - s.1.x) (p.y - s.1.y) (by omega) (by omega) (by omega) (by omega)
  have k2 := key (s.2.y - s.1.y) (p.x - s.1.x) (by omega) (by omega) (by omega) (by omega)
  show -(2 ^ 64) < (s.2.x - s.1.x) * (p.y - s.1.y) - (s.2.y - s.1.y) * (p.x - s.1.x) ∧ (s.2.x - s.1.x) * (p.y - s.1.y) - (s.2.y - s.1.y) * (p.x - s.1.x) < 2 ^ 64
  omega
section
variable {P : Program} {w : World} {K : PySem.W.Frag} {mg : Str → Option Value} {base : Heap}
theorem ok_side {f : Addr} {fd : FuncData} (F : Fun K "side_of" "side_of" sSide f fd) : FnOk P w K mg base CX0 1 f fd ["place", "line"] spSide := by
  refine F.ok scSide (fun vs H Q E h => ?_) (fun cdv A outer s H vs Q E hr h => ?_)
  · obtain ⟨a, l, p, s, rfl, _⟩ := h
    rfl
  · obtain ⟨a, l, p, s, rfl, ha, ⟨u, v, hl, hu, hv⟩, op, ⟨os1, os2⟩, q⟩ := h
    refine ⟨_, pss_cons (ps_set (i := 2) scSide.nd rfl (.inl rfl) (pe_ix ix_tup (pv 1) pe_int (fun _ _ => rfl)))
      (pss_cons (ps_set (i := 3) scSide.nd rfl (.inl rfl) (pe_ix ix_tup (pv 1) pe_int (fun _ _ => rfl)))
      (pss_one (ps_ret (pe_op op_sub
        (pe_op op_mul (pe_op op_sub (pe_ix ix_tup (pv 3) pe_int (fun _ _ => rfl)) (pe_ix ix_tup (pv 2) pe_int (fun _ _ => rfl))) (pe_op op_sub (pe_ix ix_tup (pv 0) pe_int (fun _ _ => rfl)) (pe_ix ix_tup (pv 2) pe_int (fun _ _ => rfl))))
        (pe_op op_mul (pe_op op_sub (pe_ix ix_tup (pv 3) pe_int (fun _ _ => rfl)) (pe_ix ix_tup (pv 2) pe_int (fun _ _ => rfl))) (pe_op op_sub (pe_ix ix_tup (pv 0) pe_int (fun _ _ => rfl)) (pe_ix ix_tup (pv 2) pe_int (fun _ _ => rfl)))))))), ?_⟩
    obtain ⟨⟨a1, a2⟩, a3, a4⟩ := op
    obtain ⟨⟨b1, b2⟩, b3, b4⟩ := os1
    obtain ⟨⟨c1, c2⟩, c3, c4⟩ := os2
    refine ⟨_, rfl, l, _, _, .ref u, rfl, rfl, SqT.of hl, atI_nat (j := 0) rfl, ?_⟩
    refine ⟨_, rfl, l, _, _, .ref v, rfl, rfl, SqT.of hl, atI_nat (j := 1) rfl, ?_⟩
    refine ⟨_, rfl, v, _, _, .int s.2.x, rfl, rfl, SqT.of hv, atI_nat (j := 0) rfl, ?_⟩
    refine ⟨_, rfl, u, _, _, .int s.1.x, rfl, rfl, SqT.of hu, atI_nat (j := 0) rfl, ?_⟩
    refine ⟨_, _, rfl, rfl, ?_⟩
    refine ⟨_, rfl, a, _, _, .int p.y, rfl, rfl, SqT.of ha, atI_nat (j := 1) rfl, ?_⟩
    refine ⟨_, rfl, u, _, _, .int s.1.y, rfl, rfl, SqT.of hu, atI_nat (j := 1) rfl, ?_⟩
    refine ⟨_, _, rfl, rfl, ?_⟩
    refine ⟨_, _, rfl, rfl, .inl ⟨by omega, by omega⟩, ?_⟩
    refine ⟨_, rfl, v, _, _, .int s.2.y, rfl, rfl, SqT.of hv, atI_nat (j := 1) rfl, ?_⟩
    refine ⟨_, rfl, u, _, _, .int s.1.y, rfl, rfl, SqT.of hu, atI_nat (j := 1) rfl, ?_⟩
    refine ⟨_, _, rfl, rfl, ?_⟩
    refine ⟨_, rfl, a, _, _, .int p.x, rfl, rfl, SqT.of ha, atI_nat (j := 0) rfl, ?_⟩
    refine ⟨_, rfl, u, _, _, .int s.1.x, rfl, rfl, SqT.of hu, atI_nat (j := 0) rfl, ?_⟩
    refine ⟨_, _, rfl, rfl, ?_⟩
    refine ⟨_, _, rfl, rfl, .inl ⟨by omega, by omega⟩, ?_⟩
    exact ⟨_, _, rfl, rfl, q⟩
theorem ok_par {f fS : Addr} {fd fdS : FuncData} (F : Fun K "is_parted" "is_parted" sPar f fd) (FS : Fun K "side_of" "side_of" sSide fS fdS) (bS : Binds K fdS ["place", "line"] []) (gS : mg "side_of" = some (.ref fS)) : FnOk P w K mg base CX0 2 f fd ["stitch", "line"] spPar := by
  have GS : FnOk P w K mg base CX0 1 fS fdS ["place", "line"] spSide := ok_side FS
  refine F.ok scPar (fun vs H Q E h => ?_) (fun cdv A outer s H vs Q E hr h => ?_)
  · obtain ⟨a, l, p, s, rfl, _⟩ := h
    rfl
  · obtain ⟨a, l, s, t, rfl, ⟨u, v, ha, hu, hv⟩, hl, os, ot, q⟩ := h
    refine ⟨_, pss_one (ps_ret (pe_cmpR op_le (pe_op op_mul
      (pe_call GS hr (by rfl) gS FS.kp bS .nil pass0 (pa_cons (pe_ix ix_tup (pv 0) pe_int (fun _ _ => rfl)) (pa_cons (pv 1) pa_nil)))
      (pe_call GS hr (by rfl) gS FS.kp bS .nil pass0 (pa_cons (pe_ix ix_tup (pv 0) pe_int (fun _ _ => rfl)) (pa_cons (pv 1) pa_nil)))) pe_int (nomark _))), ?_⟩
    refine ⟨_, rfl, a, _, _, .ref u, rfl, rfl, SqT.of ha, atI_nat (j := 0) rfl, _, rfl, u, l, s.1, t, rfl, hu, hl, os.1, ot, ?_⟩
    refine ⟨_, rfl, a, _, _, .ref v, rfl, rfl, SqT.of ha, atI_nat (j := 1) rfl, _, rfl, v, l, s.2, t, rfl, hv, hl, os.2, ot, ?_⟩
    refine ⟨_, _, rfl, rfl, .inl (side_le os.1 ot), ?_⟩
    exact ⟨_, _, rfl, rfl, q⟩
end
end Tr

namespace Tr
open PySem PySem.Spec PyProof.Rows L2
open PySem.W (Codec)
theorem at_axis (c : Bool) (p : Pl) : atI [V.int p.x, V.int p.y] (axis c) = some (.int (co c p)) := by
  cases c
  · exact atI_nat (j := 0) rfl
  · exact atI_nat (j := 1) rfl
theorem pmin (m n : Int) : (if n < m then n else m) = min m n := by
  by_cases h : n < m
  · rw [if_pos h]; omega
  · rw [if_neg h]; omega
theorem pmax (m n : Int) : (if n > m then n else m) = max m n := by
  by_cases h : n > m
  · rw [if_pos h]; omega
  · rw [if_neg h]; omega
section
variable {P : Program} {w : World} {K : PySem.W.Frag} {mg : Str → Option Value} {base : Heap}
theorem ok_spn {f : Addr} {fd : FuncData} (F : Fun K "spans_meet" "spans_meet" sSpn f fd) (mx : mg "max" = none) (mn : mg "min" = none) : FnOk P w K mg base CX0 1 f fd ["one", "other", "axis"] spSpn := by
  refine F.ok scSpn (fun vs H Q E h => ?_) (fun cdv A outer s H vs Q E hr h => ?_)
  · obtain ⟨a, l, s, t, c, rfl, _⟩ := h
    rfl
  · obtain ⟨a, l, s, t, c, rfl, ⟨u, v, ha, hu, hv⟩, ⟨x, y, hl, hx, hy⟩, q⟩ := h
    refine ⟨_, pss_cons (ps_set (i := 3) scSpn.nd rfl (.inl rfl)
        (pe_callB (call_max2 rfl) (by rfl) mx (by decide +kernel) (pa_cons
          (pe_callB (call_min2 rfl) (by rfl) mn (by decide +kernel) (pa_cons (pe_ix ix_tup (pe_ix ix_tup (pv 0) pe_int (fun _ _ => rfl)) (pv 2) (fun _ _ => rfl)) (pa_cons (pe_ix ix_tup (pe_ix ix_tup (pv 0) pe_int (fun _ _ => rfl)) (pv 2) (fun _ _ => rfl)) pa_nil))) (pa_cons
          (pe_callB (call_min2 rfl) (by rfl) mn (by decide +kernel) (pa_cons (pe_ix ix_tup (pe_ix ix_tup (pv 1) pe_int (fun _ _ => rfl)) (pv 2) (fun _ _ => rfl)) (pa_cons (pe_ix ix_tup (pe_ix ix_tup (pv 1) pe_int (fun _ _ => rfl)) (pv 2) (fun _ _ => rfl)) pa_nil))) pa_nil))))
      (pss_cons (ps_set (i := 4) scSpn.nd rfl (.inl rfl)
        (pe_callB (call_min2 rfl) (by rfl) mn (by decide +kernel) (pa_cons
          (pe_callB (call_max2 rfl) (by rfl) mx (by decide +kernel) (pa_cons (pe_ix ix_tup (pe_ix ix_tup (pv 0) pe_int (fun _ _ => rfl)) (pv 2) (fun _ _ => rfl)) (pa_cons (pe_ix ix_tup (pe_ix ix_tup (pv 0) pe_int (fun _ _ => rfl)) (pv 2) (fun _ _ => rfl)) pa_nil))) (pa_cons
          (pe_callB (call_max2 rfl) (by rfl) mx (by decide +kernel) (pa_cons (pe_ix ix_tup (pe_ix ix_tup (pv 1) pe_int (fun _ _ => rfl)) (pv 2) (fun _ _ => rfl)) (pa_cons (pe_ix ix_tup (pe_ix ix_tup (pv 1) pe_int (fun _ _ => rfl)) (pv 2) (fun _ _ => rfl)) pa_nil))) pa_nil))))
      (pss_one (ps_ret (pe_cmpR op_le (pv 3) (pv 4) (nomark _))))), ?_⟩
    refine ⟨_, rfl, a, _, _, .ref u, rfl, rfl, SqT.of ha, atI_nat (j := 0) rfl, _, rfl, u, _, _, .int (co c s.1), rfl, rfl, SqT.of hu, at_axis c s.1, ?_⟩
    refine ⟨_, rfl, a, _, _, .ref v, rfl, rfl, SqT.of ha, atI_nat (j := 1) rfl, _, rfl, v, _, _, .int (co c s.2), rfl, rfl, SqT.of hv, at_axis c s.2, ?_⟩
    refine ⟨_, _, rfl, ?_⟩
    refine ⟨_, rfl, l, _, _, .ref x, rfl, rfl, SqT.of hl, atI_nat (j := 0) rfl, _, rfl, x, _, _, .int (co c t.1), rfl, rfl, SqT.of hx, at_axis c t.1, ?_⟩
    refine ⟨_, rfl, l, _, _, .ref y, rfl, rfl, SqT.of hl, atI_nat (j := 1) rfl, _, rfl, y, _, _, .int (co c t.2), rfl, rfl, SqT.of hy, at_axis c t.2, ?_⟩
    refine ⟨_, _, rfl, ?_⟩
    refine ⟨_, _, rfl, ?_⟩
    rw [pmin, pmin, pmax]
    refine ⟨_, rfl, a, _, _, .ref u, rfl, rfl, SqT.of ha, atI_nat (j := 0) rfl, _, rfl, u, _, _, .int (co c s.1), rfl, rfl, SqT.of hu, at_axis c s.1, ?_⟩
    refine ⟨_, rfl, a, _, _, .ref v, rfl, rfl, SqT.of ha, atI_nat (j := 1) rfl, _, rfl, v, _, _, .int (co c s.2), rfl, rfl, SqT.of hv, at_axis c s.2, ?_⟩
    refine ⟨_, _, rfl, ?_⟩
    refine ⟨_, rfl, l, _, _, .ref x, rfl, rfl, SqT.of hl, atI_nat (j := 0) rfl, _, rfl, x, _, _, .int (co c t.1), rfl, rfl, SqT.of hx, at_axis c t.1, ?_⟩
    refine ⟨_, rfl, l, _, _, .ref y, rfl, rfl, SqT.of hl, atI_nat (j := 1) rfl, _, rfl, y, _, _, .int (co c t.2), rfl, rfl, SqT.of hy, at_axis c t.2, ?_⟩
    refine ⟨_, _, rfl, ?_⟩
    refine ⟨_, _, rfl, ?_⟩
    rw [pmax, pmax, pmin]
    exact ⟨_, rfl, _, rfl, _, _, rfl, rfl, q⟩
theorem ok_st {f fP fN fS : Addr} {fd fdP fdN fdS : FuncData} (F : Fun K "stitches_touch" "stitches_touch" sST f fd)
    (FN : Fun K "spans_meet" "spans_meet" sSpn fN fdN) (bN : Binds K fdN ["one", "other", "axis"] []) (gN : mg "spans_meet" = some (.ref fN)) (mx : mg "max" = none) (mn : mg "min" = none)
    (FP : Fun K "is_parted" "is_parted" sPar fP fdP) (bP : Binds K fdP ["stitch", "line"] []) (gP : mg "is_parted" = some (.ref fP))
    (FS : Fun K "side_of" "side_of" sSide fS fdS) (bS : Binds K fdS ["place", "line"] []) (gS : mg "side_of" = some (.ref fS)) : FnOk P w K mg base CX0 3 f fd ["one", "other"] spST := by
  have GN : FnOk P w K mg base CX0 1 fN fdN ["one", "other", "axis"] spSpn := ok_spn FN mx mn
  have GP : FnOk P w K mg base CX0 2 fP fdP ["stitch", "line"] spPar := ok_par FP FS bS gS
  refine F.ok scST (fun vs H Q E h => ?_) (fun cdv A outer s H vs Q E hr h => ?_)
  · obtain ⟨a, l, s, t, rfl, _⟩ := h
    rfl
  · obtain ⟨a, l, s, t, rfl, ha, hl, os, ot, q⟩ := h
    have hr1 : Room 1 _ := hr.mono (by decide)
    refine ⟨_, pss_cons (ps_if (PW.pt (pw_or
          (pt_not (pt_val (pe_call GN hr1 (by rfl) gN FN.kp bN .nil pass0 (pa_cons (pv 0) (pa_cons (pv 1) (pa_cons pe_int pa_nil))))))
          (pw_or1 (pt_not (pt_val (pe_call GN hr1 (by rfl) gN FN.kp bN .nil pass0 (pa_cons (pv 0) (pa_cons (pv 1) (pa_cons pe_int pa_nil)))))))))
        (pss_one (ps_ret pe_bl)) pss_nil)
      (pss_one (ps_ret (pe_and (pe_call GP hr (by rfl) gP FP.kp bP .nil pass0 (pa_cons (pv 0) (pa_cons (pv 1) pa_nil)))
        (pe_one (pe_call GP hr (by rfl) gP FP.kp bP .nil pass0 (pa_cons (pv 1) (pa_cons (pv 0) pa_nil))))))), ?_⟩
    refine ⟨_, rfl, _, rfl, a, l, s, t, false, rfl, ha, hl, _, rfl, ?_⟩
    have e0 : TG.touches s t = ((TG.spans s.1.x s.2.x t.1.x t.2.x && TG.spans s.1.y s.2.y t.1.y t.2.y) && (TG.parted s t && TG.parted t s)) := rfl
    rw [e0] at q
    show if (!(TG.spans s.1.x s.2.x t.1.x t.2.x)) = true then _ else _
    cases e1 : TG.spans s.1.x s.2.x t.1.x t.2.x with
    | false =>
      rw [e1] at q
      exact iteT q
    | true =>
      rw [e1] at q
      refine iteF ?_
      refine ⟨_, rfl, _, rfl, a, l, s, t, true, rfl, ha, hl, _, rfl, ?_⟩
      show if (!(TG.spans s.1.y s.2.y t.1.y t.2.y)) = true then _ else _
      cases e2 : TG.spans s.1.y s.2.y t.1.y t.2.y with
      | false =>
        rw [e2] at q
        exact iteT q
      | true =>
        rw [e2] at q
        refine iteF ?_
        refine ⟨_, rfl, _, rfl, a, l, s, t, rfl, ha, hl, os, ot, _, rfl, ?_⟩
        cases e3 : TG.parted s t with
        | false =>
          rw [e3] at q
          exact iteF q
        | true =>
          rw [e3] at q
          exact iteT ⟨_, rfl, _, rfl, l, a, t, s, rfl, hl, ha, ot, os, q⟩
end
end Tr

namespace Tr
open PySem PySem.Spec PyProof.Rows L2
open PySem.W (Codec)
/-! ### is_in_bounds, is_refused -/
def inB (n : Int) : Bool := decide ((if n < 0 then -n else n) ≤ 30000)
def spBnd (K : PySem.W.Frag) : Sp := fun vs H Q _ => ∃ (a : Addr) (ns : List Int), vs = [.ref a] ∧ SqL K H a (ns.map V.int) ∧ ns.length ≤ 1000 ∧ ∀ H', Same H H' → Q (.bl (ns.all inB)) H'
theorem int_at {ns : List Int} {i : Nat} {y : V} (hi : (ns.map V.int)[i]? = some y) : ∃ z, ns[i]? = some z ∧ y = V.int z := by
  rw [List.getElem?_map] at hi
  cases e : ns[i]? with
  | none =>
    rw [e] at hi
    cases hi
  | some z =>
    rw [e] at hi
    exact ⟨z, rfl, (Option.some.inj hi).symm⟩
theorem all_id {A : Type} (f : A → Bool) (l : List A) : (l.map f).all id = l.all f := by
  rw [List.all_map]
  rfl
section
variable {P : Program} {w : World} {K : PySem.W.Frag} {mg : Str → Option Value} {base : Heap}
theorem ok_bnd {f : Addr} {fd : FuncData} {tF : Tok} (F : Fun K "is_in_bounds" "is_in_bounds" sBnd f fd) (ma : mg "all" = none) (mb : mg "abs" = none) (mF : mg "FARTHEST" = some (.int 30000 tF)) : FnOk P w K mg base CX0 1 f fd ["row"] (spBnd K) := by
  refine F.ok scBnd (fun vs H Q E h => ?_) (fun cdv A outer s H vs Q E hr h => ?_)
  · obtain ⟨a, ns, rfl, _⟩ := h
    rfl
  · obtain ⟨a, ns, rfl, hS, hlen, q⟩ := h
    refine ⟨_, pss_one (ps_ret (pe_callB (cr_all rfl) (by rfl) ma (by decide +kernel) (pa_cons
      (pe_lc (own := [("number", 1)]) (g := gName 1) (tt := tYes) rfl scBnd.nd (pi_list (pv 0)) (blkOk_by (N := ["row", "number"]) (sc := defScope sBnd) (by decide +kernel)) (fun _ _ _ _ _ => pg_name (i := 1) scBnd.nd rfl (Or.inl rfl)) (fun _ _ _ _ _ => pts_nil)
        (fun _ _ _ _ _ => pe_cmpR op_le (pe_callB call_abs (by rfl) mb (by decide +kernel) (pa_cons (pv 1) pa_nil)) (pe_glob (v := .int 30000) rfl mF ⟨_, rfl⟩) (nomark _))) pa_nil))), ?_⟩
    refine ⟨_, rfl, a, rfl, ⟨_, hS⟩, fun D nD => lc_list (K := K) (a := a) (xs := ns.map V.int) (fun i H' => Same H H' ∧ H' D = some (.lst (((ns.take i).map inB).map V.bl))) ⟨same_upd nD, upd_same⟩ (fun i H' _ h => h.1.seq hS) ?_ ?_⟩
    · rintro i y H' hi ⟨sm, hD⟩
      obtain ⟨z, hz, rfl⟩ := int_at hi
      refine ⟨rfl, ?_⟩
      refine ⟨_, rfl, _, rfl, _, _, rfl, rfl, _, hD, ?_, fun b o e => ?_, ?_⟩
      · rw [List.length_map, List.length_map, List.length_take]
        exact Nat.lt_of_le_of_lt (Nat.min_le_right _ _) (small1000 hlen)
      · rw [upd_ne (ne_of_none e nD)]
        exact sm _ _ e
      · rw [upd_same, take_more hz, List.map_append, List.map_append]
        rfl
    · rintro H' ⟨sm, hD⟩
      rw [List.length_map, List.take_length] at hD
      refine ⟨D, ns.map inB, rfl, SqL.of hD, ?_⟩
      rw [all_id]
      exact q H' sm
/-! ### holes_of, stitches_of -/
/-- by turns x and y -/
def pls : List Int → List Pl
  | x :: y :: r => ⟨x, y⟩ :: pls r
  | _ => []
theorem pls_len : ∀ (m : Nat) (ns : List Int), ns.length = 2 * m → (pls ns).length = m
  | 0, ns, h => by
    cases ns with
    | nil => rfl
    | cons x r => simp at h
  | m + 1, ns, h => by
    match ns, h with
    | x :: y :: r, h =>
      show (pls r).length + 1 = m + 1
      rw [pls_len m r (by simp at h; omega)]
theorem pls_at : ∀ (m : Nat) (ns : List Int) (i : Nat), ns.length = 2 * m → i < m → ∃ p : Pl, (pls ns)[i]? = some p ∧ ns[2 * i]? = some p.x ∧ ns[2 * i + 1]? = some p.y
  | 0, _, _, _, hi => absurd hi (Nat.not_lt_zero _)
  | m + 1, ns, i, h, hi => by
    match ns, i, h with
    | x :: y :: r, 0, h => exact ⟨⟨x, y⟩, rfl, rfl, rfl⟩
    | x :: y :: r, i + 1, h =>
      obtain ⟨p, h1, h2, h3⟩ := pls_at m r i (by simp at h; omega) (by omega)
      exact ⟨p, h1, h2, h3⟩
theorem rgC_two (m : Nat) (hm : m ≤ 1000) : RgC 0 ((2 * m : Nat) : Int) 2 m := by
  have e : Builtin.Range.rangeSize 0 ((2 * m : Nat) : Int) 2 = (m : Int) := by
    unfold Builtin.Range.rangeSize
    rw [if_pos (by decide)]
    split <;> omega
  refine ⟨by decide, by decide, ?_, e⟩
  unfold Builtin.Range.small
  rw [e]
  generalize ej : ((2 * m : Nat) : Int) = j
  generalize em : (m : Int) = z
  have hj : 0 ≤ j ∧ j ≤ 2000 := by omega
  have hz : 0 ≤ z ∧ z ≤ 1000 := by omega
  clear e ej em hm
  simp only [Builtin.Range.rangeFitsLong, Bool.and_eq_true, Bool.or_eq_true, decide_eq_true_eq, beq_iff_eq, show (2 : Int) > 0 by decide, if_true]
  omega
def spHol (K : PySem.W.Frag) : Sp := fun vs H Q _ => ∃ (a : Addr) (ns : List Int) (m : Nat), vs = [.ref a] ∧ SqL K H a (ns.map V.int) ∧ ns.length = 2 * m ∧ m ≤ 1000 ∧ ∀ H' D, Same H H' → H D = none → LsAt PlAt H' D (pls ns) → Q (.ref D) H'
theorem ok_hol {f : Addr} {fd : FuncData} (F : Fun K "holes_of" "holes_of" sHol f fd) (ml : mg "len" = none) (mr : mg "range" = none) : FnOk P w K mg base CX0 1 f fd ["row"] (spHol K) := by
  refine F.ok scHol (fun vs H Q E h => ?_) (fun cdv A outer s H vs Q E hr h => ?_)
  · obtain ⟨a, ns, m, rfl, _⟩ := h
    rfl
  · obtain ⟨a, ns, m, rfl, hS, hlen, hm, q⟩ := h
    refine ⟨_, pss_one (ps_ret (pe_lc (own := [("k", 1)]) (g := gName 1) (tt := tYes) rfl scHol.nd (pi_range3 rfl mr (pa_cons pe_int (pa_cons (pe_callB call_len_seq (by rfl) ml PySem.boot_len (pa_cons (pv 0) pa_nil)) (pa_cons pe_int pa_nil))))
      (blkOk_by (N := ["row", "k"]) (sc := defScope sHol) (by decide +kernel)) (fun _ _ _ _ _ => pg_name (i := 1) scHol.nd rfl (Or.inl rfl)) (fun _ _ _ _ _ => pts_nil)
      (fun _ _ _ _ _ => pe_tup (pa_cons (pe_ix (r := rIxL K) ix_list (pv 0) (pv 1) (fun _ _ => rfl)) (pa_cons (pe_ix (r := rIxL K) ix_list (pv 0) (pe_op op_add (pv 1) pe_int) (fun _ _ => rfl)) pa_nil))))), ?_⟩
    refine ⟨_, rfl, a, _, rfl, .inl hS, ?_⟩
    have el : (((ns.map V.int).length : Nat) : Int) = ((2 * m : Nat) : Int) := by rw [List.length_map, hlen]
    rw [el]
    have L := pls_len m ns hlen
    refine ⟨0, _, 2, m, rfl, rgC_two m hm, fun D nD => lc_it (walk_rangeC (lo := 0) (c := 2) (n := m)) (fun i H' => ∃ as, Grow PlAt H H' D ((pls ns).take i) as)
      ⟨[], Grow.start nD⟩ (fun i H' _ _ => trivial) ?_ ?_⟩
    · rintro i x H1 H' hi ⟨as, G⟩ hy
      obtain ⟨e1, e2⟩ := hy
      subst e1
      have e3 : x = V.int (0 + (i : Nat) * 2) := e2
      subst e3
      obtain ⟨p, hp, hx, hy⟩ := pls_at m ns i hlen hi
      have hS' := G.same.seq hS
      refine ⟨rfl, ?_⟩
      refine ⟨_, rfl, _, rfl, a, _, _, .int p.x, rfl, rfl, hS', at_of (j := 2 * i) (by omega) (by rw [List.getElem?_map, hx]; rfl), ?_⟩
      refine ⟨_, rfl, _, rfl, _, _, rfl, rfl, a, _, _, .int p.y, rfl, rfl, hS', at_of (j := 2 * i + 1) (by omega) (by rw [List.getElem?_map, hy]; rfl), ?_⟩
      refine ⟨(by show 2 ≤ sizeLine; decide), fun t ht => ?_⟩
      have s2 : Same H' (upd H' t (.tup [.int p.x, .int p.y])) := same_upd ht
      refine ⟨as.map V.ref, s2 _ _ G.lst, ?_, as ++ [t], ?_⟩
      · rw [List.length_map, G.len, List.length_take, L]
        exact small1000 (by omega)
      · rw [take_more hp]
        exact Grow.more (R := PlAt) (a := t) (x := p) PlAt.firmT.firm PlAt.keeps G nD s2 ht upd_same
    · rintro H' ⟨as, G⟩
      rw [List.take_of_length_le (by omega)] at G
      exact q H' D G.same nD G.done
end
end Tr

namespace Tr
open PySem PySem.Spec PyProof.Rows L2
open PySem.W (Codec)
/-! ### is_refused -/
def refused (ns : List Int) : Bool := decide (((ns.length : Int) / 2) < 1) || (decide (((ns.length : Int) / 2) > 60) || !(ns.all inB))
def spRef (K : PySem.W.Frag) : Sp := fun vs H Q _ => ∃ (a : Addr) (ns : List Int), vs = [.ref a] ∧ SqL K H a (ns.map V.int) ∧ ns.length ≤ 1000 ∧ ∀ H', Same H H' → Q (.bl (refused ns)) H'
section
variable {P : Program} {w : World} {K : PySem.W.Frag} {mg : Str → Option Value} {base : Heap}
theorem ok_ref {f fB : Addr} {fd fdB : FuncData} {tF tM : Tok} (F : Fun K "is_refused" "is_refused" sRef f fd) (FB : Fun K "is_in_bounds" "is_in_bounds" sBnd fB fdB) (bB : Binds K fdB ["row"] []) (gB : mg "is_in_bounds" = some (.ref fB))
    (ma : mg "all" = none) (mb : mg "abs" = none) (ml : mg "len" = none) (mF : mg "FARTHEST" = some (.int 30000 tF)) (mM : mg "MOST_IN_ROW" = some (.int 60 tM)) : FnOk P w K mg base CX0 2 f fd ["row"] (spRef K) := by
  have GB : FnOk P w K mg base CX0 1 fB fdB ["row"] (spBnd K) := ok_bnd FB ma mb mF
  refine F.ok scRef (fun vs H Q E h => ?_) (fun cdv A outer s H vs Q E hr h => ?_)
  · obtain ⟨a, ns, rfl, _⟩ := h
    rfl
  · obtain ⟨a, ns, rfl, hS, hlen, q⟩ := h
    refine ⟨_, pss_cons (ps_set (i := 1) scRef.nd rfl (.inl rfl) (pe_op op_fdiv (pe_callB call_len_seq (by rfl) ml PySem.boot_len (pa_cons (pv 0) pa_nil)) pe_int))
      (pss_one (ps_ret (pe_or (pe_cmpR op_lt (pv 1) pe_int (nomark _)) (pe_or (pe_cmpR op_gt (pv 1) (pe_glob (v := .int 60) rfl mM ⟨_, rfl⟩) (nomark _))
        (pe_one (pe_not (pe_call GB hr (by rfl) gB FB.kp bB .nil pass0 (pa_cons (pv 0) pa_nil)))))))), ?_⟩
    refine ⟨_, rfl, a, _, rfl, .inl hS, _, _, rfl, rfl, ⟨by decide, by decide⟩, ?_⟩
    rw [List.length_map]
    refine ⟨_, rfl, _, _, rfl, rfl, _, rfl, ?_⟩
    unfold refused at q
    cases e1 : decide (((ns.length : Int) / 2) < 1) with
    | true =>
      rw [e1] at q
      exact iteT (q H (Same.refl H))
    | false =>
      rw [e1] at q
      refine iteF ⟨_, rfl, _, _, rfl, rfl, _, rfl, ?_⟩
      cases e2 : decide (((ns.length : Int) / 2) > 60) with
      | true =>
        rw [e2] at q
        exact iteT (q H (Same.refl H))
      | false =>
        rw [e2] at q
        exact iteF ⟨_, rfl, a, ns, rfl, hS, hlen, fun H' sm => ⟨_, rfl, q H' sm⟩⟩
end
end Tr

namespace Tr
open PySem PySem.Spec PyProof.Rows L2
open PySem.W (Codec)
def spSti (K : PySem.W.Frag) : Sp := fun vs H Q _ => ∃ (a : Addr) (ns : List Int) (m : Nat), vs = [.ref a] ∧ SqL K H a (ns.map V.int) ∧ ns.length = 2 * m ∧ m ≤ 1000 ∧ ∀ H' D, Same H H' → H D = none → LsAt StAt H' D (Eb.stitchesOf (pls ns)) → Q (.ref D) H'
theorem pairs_len : ∀ ps : List Pl, (Eb.pairsOf ps).length = ps.length - 1
  | [] => rfl
  | [_] => rfl
  | p :: q :: r => by
    show (Eb.pairsOf (q :: r)).length + 1 = (q :: r).length + 1 - 1
    rw [pairs_len (q :: r)]
    show (r.length + 1 - 1) + 1 = r.length + 1 + 1 - 1
    omega
theorem pairs_at : ∀ (ps : List Pl) (i : Nat), i < ps.length - 1 → ∃ p q : Pl, ps[i]? = some p ∧ ps[i + 1]? = some q ∧ (Eb.pairsOf ps)[i]? = some (p, q)
  | [], i, h => absurd h (by simp)
  | [_], i, h => absurd h (by simp)
  | p :: q :: r, 0, _ => ⟨p, q, rfl, rfl, rfl⟩
  | p :: q :: r, i + 1, h => by
    obtain ⟨a, b, h1, h2, h3⟩ := pairs_at (q :: r) i (by simp at h ⊢; omega)
    exact ⟨a, b, h1, h2, h3⟩
theorem sti_pairs {ps : List Pl} (h : ps.length ≠ 1) : Eb.stitchesOf ps = Eb.pairsOf ps := by
  match ps, h with
  | [], _ => rfl
  | [_], h => exact absurd rfl h
  | _ :: _ :: _, _ => rfl
section
variable {P : Program} {w : World} {K : PySem.W.Frag} {mg : Str → Option Value} {base : Heap}
theorem ok_sti {f fH : Addr} {fd fdH : FuncData} (F : Fun K "stitches_of" "stitches_of" sSti f fd) (FH : Fun K "holes_of" "holes_of" sHol fH fdH) (bH : Binds K fdH ["row"] []) (gH : mg "holes_of" = some (.ref fH)) (ml : mg "len" = none) (mr : mg "range" = none) : FnOk P w K mg base CX0 2 f fd ["row"] (spSti K) := by
  have GH : FnOk P w K mg base CX0 1 fH fdH ["row"] (spHol K) := ok_hol FH ml mr
  refine F.ok scSti (fun vs H Q E h => ?_) (fun cdv A outer s H vs Q E hr h => ?_)
  · obtain ⟨a, ns, m, rfl, _⟩ := h
    rfl
  · obtain ⟨r, ns, m, rfl, hR, hns, hm0, q0⟩ := h
    refine ⟨_, pss_cons (ps_set (i := 1) scSti.nd rfl (.inr rfl) (pe_call GH hr (by rfl) gH FH.kp bH .nil pass0 (pa_cons (pv 0) pa_nil)))
      (pss_cons (ps_if (pt_cmpR op_eq (pe_callB call_len_seq (by rfl) ml PySem.boot_len (pa_cons (pv 1) pa_nil)) pe_int (nomark _))
        (pss_one (ps_ret (pe_lst (pa_cons (pe_tup (pa_cons (pe_ix ix_list (pv 1) pe_int (fun _ _ => rfl)) (pa_cons (pe_ix ix_list (pv 1) pe_int (fun _ _ => rfl)) pa_nil))) pa_nil)))) pss_nil)
      (pss_one (ps_ret (pe_lc (own := [("k", 2)]) (g := gName 2) (tt := tYes) rfl scSti.nd (pi_range1 rfl mr (pa_cons (pe_op op_sub (pe_callB call_len_seq (by rfl) ml PySem.boot_len (pa_cons (pv 1) pa_nil)) pe_int) pa_nil))
        (blkOk_by (N := ["row", "holes", "k"]) (sc := defScope sSti) (by decide +kernel)) (fun _ _ _ _ _ => pg_name (i := 2) scSti.nd rfl (Or.inl rfl)) (fun _ _ _ _ _ => pts_nil)
        (fun _ _ _ _ _ => pe_tup (pa_cons (pe_ix (r := rIxL K) ix_list (pv 1) (pv 2) (fun _ _ => rfl)) (pa_cons (pe_ix (r := rIxL K) ix_list (pv 1) (pe_op op_add (pv 2) pe_int) (fun _ _ => rfl)) pa_nil))))))), ?_⟩
    refine ⟨_, rfl, r, ns, m, rfl, hR, hns, hm0, fun H1 a s0 n0 ⟨hs, hL, hlen, hat⟩ => ?_⟩
    have hS : SqL K H1 a (hs.map V.ref) := SqL.of hL
    have lp := pls_len m ns hns
    have hm : (pls ns).length ≤ 1000 := by omega
    revert q0 hlen hat
    generalize pls ns = ps at hm
    intro q0 hlen hat
    have q : ∀ H' D, Same H1 H' → H1 D = none → LsAt StAt H' D (Eb.stitchesOf ps) → Q (.ref D) H' := fun H' D e n => q0 H' D (s0.trans e) (s0.free n)
    refine ⟨_, rfl, a, _, rfl, .inl hS, rfl, _, rfl, ite2 (fun e => ?_) (fun e => ?_)⟩
    · have e0 : (((hs.map V.ref).length : Nat) : Int) = 1 := V.int.inj (of_decide_eq_true e)
      rw [List.length_map] at e0
      have e1 : ps.length = 1 := by omega
      obtain ⟨p, rfl⟩ : ∃ p, ps = [p] := List.length_eq_one_iff.mp e1
      obtain ⟨u, rfl⟩ : ∃ u, hs = [u] := List.length_eq_one_iff.mp (by omega)
      have hu : PlAt H1 u p := hat 0 u p rfl rfl
      refine ⟨_, rfl, a, _, _, .ref u, rfl, rfl, hS, atI_nat (j := 0) rfl, ?_⟩
      refine ⟨_, rfl, a, _, _, .ref u, rfl, rfl, hS, atI_nat (j := 0) rfl, ?_⟩
      refine ⟨(by show 2 ≤ sizeLine; decide), fun t ht => ?_⟩
      refine ⟨(by show 1 ≤ sizeLine; decide), fun D hD => ?_⟩
      have s1 : Same H1 (upd H1 t (.tup [.ref u, .ref u])) := same_upd ht
      have s2 : Same (upd H1 t (.tup [.ref u, .ref u])) (upd (upd H1 t (.tup [.ref u, .ref u])) D (.lst [.ref t])) := same_upd hD
      refine q _ D (s1.trans s2) (s1.free hD) ⟨[t], upd_same, rfl, fun i b x hb hx => ?_⟩
      match i, hb, hx with
      | 0, hb, hx =>
        have e2 : t = b := Option.some.inj hb
        have e3 : (p, p) = x := Option.some.inj hx
        subst e2 e3
        exact ⟨u, u, s2 _ _ upd_same, s2 _ _ (s1 _ _ hu), s2 _ _ (s1 _ _ hu)⟩
      | i + 1, hb, _ => simp at hb
    · have e1 : ps.length ≠ 1 := fun z => e (decide_eq_true (by
        show V.int (((hs.map V.ref).length : Nat) : Int) = V.int 1
        rw [List.length_map, hlen, z]
        rfl))
      rw [sti_pairs e1] at q
      refine ⟨_, rfl, a, _, rfl, .inl hS, _, _, rfl, rfl, ?_⟩
      rw [List.length_map, hlen]
      have en : (((ps.length : Nat) : Int) - 1).toNat = ps.length - 1 := by omega
      refine ⟨_, rfl, by omega, by omega, ?_⟩
      rw [en]
      refine fun D nD => lc_it (walk_range (lo := 0) (n := ps.length - 1)) (fun i H' => ∃ as, Grow StAt H1 H' D ((Eb.pairsOf ps).take i) as)
        ⟨[], Grow.start nD⟩ (fun i H' _ _ => trivial) ?_ ?_
      · rintro i x H2 H' hi ⟨as, G⟩ hy
        obtain ⟨e2, e3⟩ := hy
        subst e2
        have e3 : x = V.int (0 + (i : Nat)) := e3
        subst e3
        obtain ⟨x, y, hx, hy, hxy⟩ := pairs_at ps i hi
        have hS' := G.same.seq hS
        have hi2 : i + 1 < hs.length := by omega
        have hu : hs[i]? = some hs[i] := List.getElem?_eq_getElem (by omega)
        have hv : hs[i + 1]? = some hs[i + 1] := List.getElem?_eq_getElem hi2
        generalize hs[i] = u at hu
        generalize hs[i + 1] = v at hv
        refine ⟨rfl, ?_⟩
        refine ⟨_, rfl, _, rfl, a, _, _, .ref u, rfl, rfl, hS', at_of (j := i) (by omega) (ref_at hu), ?_⟩
        refine ⟨_, rfl, _, rfl, _, _, rfl, rfl, a, _, _, .ref v, rfl, rfl, hS', at_of (j := i + 1) (by omega) (ref_at hv), ?_⟩
        refine ⟨(by show 2 ≤ sizeLine; decide), fun t ht => ?_⟩
        have s2 : Same H' (upd H' t (.tup [.ref u, .ref v])) := same_upd ht
        refine ⟨as.map V.ref, s2 _ _ G.lst, ?_, as ++ [t], ?_⟩
        · rw [List.length_map, G.len, List.length_take, pairs_len]
          exact small1000 (by omega)
        · rw [take_more hxy]
          have hS2 : StAt (upd H' t (.tup [.ref u, .ref v])) t (x, y) := ⟨u, v, upd_same, s2 _ _ (G.same _ _ (hat i u x hu hx)), s2 _ _ (G.same _ _ (hat (i + 1) v y hv hy))⟩
          exact Grow.more (R := StAt) (a := t) (x := (x, y)) StAt.firmT.firm StAt.keeps G nD s2 ht hS2
      · rintro H' ⟨as, G⟩
        rw [List.take_of_length_le (by rw [pairs_len]; omega)] at G
        exact q H' D G.same nD G.done
end
/-! ### rows_touch -/
def okR (ps : List Pl) : Prop := ∀ p ∈ ps, okP p
theorem pairs_mem : ∀ {ps : List Pl} {s : Sti}, s ∈ Eb.pairsOf ps → s.1 ∈ ps ∧ s.2 ∈ ps
  | [], s, h => absurd h (by simp [Eb.pairsOf])
  | [_], s, h => absurd h (by simp [Eb.pairsOf])
  | p :: q :: r, s, h => by
    rcases List.mem_cons.mp (show s ∈ (p, q) :: Eb.pairsOf (q :: r) from h) with rfl | h
    · exact ⟨by simp, by simp⟩
    · obtain ⟨a, b⟩ := pairs_mem h
      exact ⟨List.mem_cons_of_mem _ a, List.mem_cons_of_mem _ b⟩
theorem okR.sti {ps : List Pl} (h : okR ps) {s : Sti} (hs : s ∈ Eb.stitchesOf ps) : okS s := by
  by_cases e : ps.length = 1
  · obtain ⟨p, rfl⟩ : ∃ p, ps = [p] := List.length_eq_one_iff.mp e
    have : s = (p, p) := by simpa [Eb.stitchesOf] using hs
    subst this
    exact ⟨h p (by simp), h p (by simp)⟩
  · rw [sti_pairs e] at hs
    obtain ⟨a, b⟩ := pairs_mem hs
    exact ⟨h _ a, h _ b⟩
theorem sti_len (ps : List Pl) : (Eb.stitchesOf ps).length ≤ ps.length := by
  by_cases e : ps.length = 1
  · obtain ⟨p, rfl⟩ : ∃ p, ps = [p] := List.length_eq_one_iff.mp e
    exact Nat.le_refl _
  · rw [sti_pairs e, pairs_len]
    omega
/-- the first so many bear none -/
def Quiet {A : Type} (f : A → Bool) (l : List A) (i : Nat) : Prop := ∀ j x, j < i → l[j]? = some x → f x = false
theorem Quiet.zero {A : Type} {f : A → Bool} {l : List A} : Quiet f l 0 := fun j _ h => absurd h (Nat.not_lt_zero j)
theorem Quiet.step {A : Type} {f : A → Bool} {l : List A} {i : Nat} {x : A} (q : Quiet f l i) (h : l[i]? = some x) (e : f x = false) : Quiet f l (i + 1) := fun j y hj hy => by
  by_cases c : j = i
  · subst c
    rw [h] at hy
    rw [← Option.some.inj hy]
    exact e
  · exact q j y (by omega) hy
theorem Quiet.none {A : Type} {f : A → Bool} {l : List A} (q : Quiet f l l.length) : l.any f = false := by
  rw [List.any_eq_false]
  intro x hx
  obtain ⟨j, hj, e⟩ := List.mem_iff_getElem.mp hx
  rw [q j x hj (by rw [List.getElem?_eq_getElem hj, e])]
  exact Bool.false_ne_true
theorem any_at {A : Type} {f : A → Bool} {l : List A} {i : Nat} {x : A} (h : l[i]? = some x) (e : f x = true) : l.any f = true :=
  List.any_eq_true.mpr ⟨x, List.mem_of_getElem? h, e⟩
theorem refs_at {as : List Addr} {i : Nat} {y : V} (hi : (as.map V.ref)[i]? = some y) : ∃ a, as[i]? = some a ∧ y = V.ref a := by
  rw [List.getElem?_map] at hi
  cases e : as[i]? with
  | none =>
    rw [e] at hi
    cases hi
  | some z =>
    rw [e] at hi
    exact ⟨z, rfl, (Option.some.inj hi).symm⟩
def spTch : Sp := fun vs H Q _ => ∃ (a b : Addr) (ss ts : List Sti), vs = [.ref a, .ref b] ∧ LsAt StAt H a ss ∧ LsAt StAt H b ts ∧ (∀ s ∈ ss, okS s) ∧ (∀ t ∈ ts, okS t) ∧ Q (.bl (ss.any fun s => ts.any fun t => Eb.stitchesTouch s t)) H
section
variable {P : Program} {w : World} {K : PySem.W.Frag} {mg : Str → Option Value} {base : Heap}
theorem ok_tch {f f2 fP fN fS : Addr} {fd fd2 fdP fdN fdS : FuncData} (F : Fun K "is_touching" "is_touching" sTch f fd)
    (F2 : Fun K "stitches_touch" "stitches_touch" sST f2 fd2) (b2 : Binds K fd2 ["one", "other"] []) (g2 : mg "stitches_touch" = some (.ref f2))
    (FN : Fun K "spans_meet" "spans_meet" sSpn fN fdN) (bN : Binds K fdN ["one", "other", "axis"] []) (gN : mg "spans_meet" = some (.ref fN)) (mx : mg "max" = none) (mn : mg "min" = none)
    (FP : Fun K "is_parted" "is_parted" sPar fP fdP) (bP : Binds K fdP ["stitch", "line"] []) (gP : mg "is_parted" = some (.ref fP))
    (FS : Fun K "side_of" "side_of" sSide fS fdS) (bS : Binds K fdS ["place", "line"] []) (gS : mg "side_of" = some (.ref fS)) : FnOk P w K mg base CX0 4 f fd ["one", "other"] spTch := by
  have G2 : FnOk P w K mg base CX0 3 f2 fd2 ["one", "other"] spST := ok_st F2 FN bN gN mx mn FP bP gP FS bS gS
  refine F.ok scTch (fun vs H Q E h => ?_) (fun cdv A outer s H vs Q E hr h => ?_)
  · obtain ⟨a, b, ps, qs, rfl, _⟩ := h
    rfl
  · obtain ⟨a, b, ss, ts, rfl, hA, hB, oA, oB, q⟩ := h
    refine ⟨_, pss_cons (ps_for PassesOwn.never rfl (pi_list (pv 0)) (pg_name (i := 2) scTch.nd rfl (Or.inl rfl))
        (pss_one (ps_for PassesOwn.never rfl (pi_list (pv 1)) (pg_name (i := 3) scTch.nd rfl (Or.inl rfl))
          (pss_one (ps_if (pt_val (pe_call G2 hr (by rfl) g2 F2.kp b2 .nil pass0 (pa_cons (pv 2) (pa_cons (pv 3) pa_nil)))) (pss_one (ps_ret pe_bl)) pss_nil)))))
      (pss_one (ps_ret pe_bl)), ?_⟩
    obtain ⟨us, hu, lu, au⟩ := hA
    obtain ⟨vs, hv, lv, av⟩ := hB
    refine ⟨_, rfl, a, rfl, ⟨_, SqL.of hu⟩, for_list (K := K) (a := a) (xs := us.map V.ref) (fun i σ H' => ∃ y z : Option V, σ = [some (.ref a), some (.ref b), y, z] ∧ H' = H ∧ Quiet (fun s => ts.any fun t => Eb.stitchesTouch s t) ss i)
      ⟨none, none, rfl, rfl, Quiet.zero⟩ (fun i σ H' _ ⟨_, _, _, e, _⟩ => e ▸ SqL.of hu) ?_ ?_⟩
    · rintro i y σ H' hi ⟨_, _, rfl, rfl, qu⟩
      obtain ⟨u, hui, rfl⟩ := refs_at hi
      have hlt : i < ss.length := lu ▸ (List.getElem?_eq_some_iff.mp hui).1
      have hsi : ss[i]? = some ss[i] := List.getElem?_eq_getElem hlt
      generalize ss[i] = s at hsi
      have hs : StAt H' u s := au i u s hui hsi
      have os : okS s := oA s (List.mem_of_getElem? hsi)
      refine ⟨_, rfl, b, rfl, ⟨_, SqL.of hv⟩, for_list (K := K) (a := b) (xs := vs.map V.ref) (fun j σ H3 => ∃ z : Option V, σ = [some (.ref a), some (.ref b), some (.ref u), z] ∧ H3 = H' ∧ Quiet (fun t => Eb.stitchesTouch s t) ts j)
        ⟨_, rfl, rfl, Quiet.zero⟩ (fun i σ H' _ ⟨_, _, e, _⟩ => e ▸ SqL.of hv) ?_ ?_⟩
      · rintro j y σ H3 hj ⟨_, rfl, rfl, qv⟩
        obtain ⟨v, hvj, rfl⟩ := refs_at hj
        have hlt2 : j < ts.length := lv ▸ (List.getElem?_eq_some_iff.mp hvj).1
        have htj : ts[j]? = some ts[j] := List.getElem?_eq_getElem hlt2
        generalize ts[j] = t at htj
        have ht : StAt H3 v t := av j v t hvj htj
        have ot : okS t := oB t (List.mem_of_getElem? htj)
        refine ⟨_, rfl, _, rfl, u, v, s, t, rfl, hs, ht, os, ot, _, rfl, ?_⟩
        rw [TG.touches_eq]
        cases ec : Eb.stitchesTouch s t with
        | true =>
          refine iteT ?_
          have er : (ss.any fun s => ts.any fun t => Eb.stitchesTouch s t) = true := any_at hsi (any_at htj ec)
          rw [er] at q
          exact q
        | false => exact iteF ⟨_, rfl, rfl, qv.step htj ec⟩
      · rintro σ H3 ⟨z, rfl, rfl, qv⟩
        rw [List.length_map, lv] at qv
        exact ⟨_, _, rfl, rfl, qu.step hsi qv.none⟩
    · rintro σ H3 ⟨_, _, rfl, rfl, qu⟩
      rw [List.length_map, lu] at qu
      have er : (ss.any fun s => ts.any fun t => Eb.stitchesTouch s t) = false := qu.none
      rw [er] at q
      exact q
end
end Tr

namespace Tr
open PySem PySem.Spec PyProof.Rows L2
open PySem.W (Codec)
/-! ### places, as the specification reads them -/
theorem places_pls : ∀ (m : Nat) (ns : List Int), ns.length = 2 * m → YqstfaNeutral.places? ns = some (pls ns)
  | 0, ns, h => by
    cases ns with
    | nil => rfl
    | cons x r => simp at h
  | m + 1, ns, h => by
    match ns, h with
    | x :: y :: r, h =>
      show (YqstfaNeutral.places? r).map (fun l => (⟨x, y⟩ : Pl) :: l) = some (⟨x, y⟩ :: pls r)
      rw [places_pls m r (by simp at h; omega)]
      rfl
theorem places_even : ∀ (n : Nat) (ns : List Int), ns.length ≤ n → (YqstfaNeutral.places? ns).isSome = true → ∃ m, ns.length = 2 * m
  | _, [], _, _ => ⟨0, rfl⟩
  | _, [x], _, h => by simp [YqstfaNeutral.places?] at h
  | 0, x :: y :: r, hn, _ => absurd hn (by simp)
  | n + 1, x :: y :: r, hn, h => by
    have h2 : ((YqstfaNeutral.places? r).map (fun l => (⟨x, y⟩ : Pl) :: l)).isSome = true := h
    rw [Option.isSome_map] at h2
    obtain ⟨m, e⟩ := places_even n r (by simp at hn; omega) h2
    exact ⟨m + 1, by simp [e]; omega⟩
theorem inB_iff (n : Int) : inB n = true ↔ -30000 ≤ n ∧ n ≤ 30000 := by
  unfold inB
  rw [decide_eq_true_eq]
  split <;> omega
theorem ok_iff (p : Pl) : Eb.Place.ok p = true ↔ okP p := by
  unfold Eb.Place.ok Eb.within okP Eb.EDGE
  simp only [Bool.and_eq_true, decide_eq_true_eq]
theorem ok_inB (p : Pl) : Eb.Place.ok p = (inB p.x && inB p.y) := by
  rw [Bool.eq_iff_iff, ok_iff, Bool.and_eq_true, inB_iff, inB_iff]
  rfl
theorem pls_all : ∀ (m : Nat) (ns : List Int), ns.length = 2 * m → (pls ns).all Eb.Place.ok = ns.all inB
  | 0, ns, h => by
    cases ns with
    | nil => rfl
    | cons x r => simp at h
  | m + 1, ns, h => by
    match ns, h with
    | x :: y :: r, h =>
      show (Eb.Place.ok ⟨x, y⟩ && (pls r).all Eb.Place.ok) = (inB x && (inB y && r.all inB))
      rw [pls_all m r (by simp at h; omega), ok_inB, Bool.and_assoc]
end Tr

namespace Tr
open PySem PySem.Spec PyProof.Rows L2
open PySem.W (Codec)
/-! ### what is due of touch -/
theorem row_ok (m : Nat) (ns : List Int) (h : ns.length = 2 * m) : Yqstfa.rowOk (pls ns) = !(refused ns) := by
  unfold Yqstfa.rowOk refused Yqstfa.HOLES
  rw [pls_all m ns h, pls_len m ns h]
  have e : ((ns.length : Nat) : Int) / 2 = (m : Int) := by omega
  rw [e]
  cases ns.all inB with
  | true =>
    rw [Bool.eq_iff_iff]
    simp
    omega
  | false => simp
theorem ok_row (m : Nat) (ns : List Int) (h : ns.length = 2 * m) (e : refused ns = false) : okR (pls ns) := by
  have h1 := row_ok m ns h
  rw [e] at h1
  unfold Yqstfa.rowOk at h1
  simp only [Bool.and_eq_true, Bool.not_false, List.all_eq_true] at h1
  intro p hp
  exact (ok_iff p).mp (h1.2.2 p hp)
/-- the answer, by the program's ways -/
def due (xs ys : List Int) : Int := if (refused xs || refused ys) = true then -1 else if Eb.rowsTouch (pls xs) (pls ys) = true then 1 else 0
theorem touch_due (m n : Nat) (xs ys : List Int) (hx : xs.length = 2 * m) (hy : ys.length = 2 * n) : PyYqstfa.touch xs ys = [due xs ys] := by
  have e : PyYqstfa.touch xs ys = match ((YqstfaNeutral.places? xs).bind fun x => (YqstfaNeutral.places? ys).map fun y => Yqstfa.Call.touch x y) with
    | some x => YqstfaNeutral.told (Yqstfa.answer x)
    | none => [] := rfl
  rw [e, places_pls m xs hx, places_pls n ys hy]
  show YqstfaNeutral.told (if (Yqstfa.rowOk (pls xs) && Yqstfa.rowOk (pls ys)) = true then .count (if Eb.rowsTouch (pls xs) (pls ys) = true then 1 else 0) else .no (-1)) = _
  rw [row_ok m xs hx, row_ok n ys hy]
  unfold due
  cases refused xs <;> cases refused ys <;> first | rfl | skip
  cases Eb.rowsTouch (pls xs) (pls ys) <;> rfl
theorem asked_even {xs ys : List Int} (h : PyYqstfa.touch_asked xs ys = true) : (∃ m, xs.length = 2 * m) ∧ ∃ n, ys.length = 2 * n := by
  have e : PyYqstfa.touch_asked xs ys = ((YqstfaNeutral.places? xs).bind fun x => (YqstfaNeutral.places? ys).map fun y => Yqstfa.Call.touch x y).isSome := rfl
  rw [e] at h
  cases e1 : YqstfaNeutral.places? xs with
  | none => rw [e1] at h; cases h
  | some x =>
    rw [e1] at h
    cases e2 : YqstfaNeutral.places? ys with
    | none => rw [e2] at h; cases h
    | some y => exact ⟨places_even _ xs (Nat.le_refl _) (by rw [e1]; rfl), places_even _ ys (Nat.le_refl _) (by rw [e2]; rfl)⟩
/-! ### touch -/
def spTouch (K : PySem.W.Frag) : Sp := fun vs H Q _ => ∃ (a b : Addr) (xs ys : List Int) (m n : Nat), vs = [.ref a, .ref b] ∧ SqL K H a (xs.map V.int) ∧ SqL K H b (ys.map V.int) ∧ xs.length = 2 * m ∧ ys.length = 2 * n ∧ xs.length ≤ 200 ∧ ys.length ≤ 200 ∧
  ∀ (H' : Hp) (p : Addr), H' p = some (.lst ((PyYqstfa.touch xs ys).map V.int)) → Q (.ref p) H'
section
variable {P : Program} {w : World} {K : PySem.W.Frag} {mg : Str → Option Value} {base : Heap}
theorem ok_touch {f fB fR fH f4 f2 fP fN fS fG : Addr} {fd fdB fdR fdH fd4 fd2 fdP fdN fdS fdG : FuncData} {tF tM : Tok} (F : Fun K "touch" "touch" sTouch f fd)
    (FR : Fun K "is_refused" "is_refused" sRef fR fdR) (bR : Binds K fdR ["row"] []) (gR : mg "is_refused" = some (.ref fR))
    (FB : Fun K "is_in_bounds" "is_in_bounds" sBnd fB fdB) (bB : Binds K fdB ["row"] []) (gB : mg "is_in_bounds" = some (.ref fB))
    (FG : Fun K "stitches_of" "stitches_of" sSti fG fdG) (bG : Binds K fdG ["row"] []) (gG : mg "stitches_of" = some (.ref fG))
    (FH : Fun K "holes_of" "holes_of" sHol fH fdH) (bH : Binds K fdH ["row"] []) (gH : mg "holes_of" = some (.ref fH))
    (F4 : Fun K "is_touching" "is_touching" sTch f4 fd4) (b4 : Binds K fd4 ["one", "other"] []) (g4 : mg "is_touching" = some (.ref f4))
    (F2 : Fun K "stitches_touch" "stitches_touch" sST f2 fd2) (b2 : Binds K fd2 ["one", "other"] []) (g2 : mg "stitches_touch" = some (.ref f2))
    (FN : Fun K "spans_meet" "spans_meet" sSpn fN fdN) (bN : Binds K fdN ["one", "other", "axis"] []) (gN : mg "spans_meet" = some (.ref fN))
    (FP : Fun K "is_parted" "is_parted" sPar fP fdP) (bP : Binds K fdP ["stitch", "line"] []) (gP : mg "is_parted" = some (.ref fP))
    (FS : Fun K "side_of" "side_of" sSide fS fdS) (bS : Binds K fdS ["place", "line"] []) (gS : mg "side_of" = some (.ref fS))
    (ma : mg "all" = none) (mb : mg "abs" = none) (ml : mg "len" = none) (mr : mg "range" = none) (mx : mg "max" = none) (mn : mg "min" = none)
    (mF : mg "FARTHEST" = some (.int 30000 tF)) (mM : mg "MOST_IN_ROW" = some (.int 60 tM)) : FnOk P w K mg base CX0 5 f fd ["one", "other"] (spTouch K) := by
  have GR : FnOk P w K mg base CX0 2 fR fdR ["row"] (spRef K) := ok_ref FR FB bB gB ma mb ml mF mM
  have GG : FnOk P w K mg base CX0 2 fG fdG ["row"] (spSti K) := ok_sti FG FH bH gH ml mr
  have G4 : FnOk P w K mg base CX0 4 f4 fd4 ["one", "other"] spTch := ok_tch F4 F2 b2 g2 FN bN gN mx mn FP bP gP FS bS gS
  refine F.ok scTouch (fun vs H Q E h => ?_) (fun cdv A outer s H vs Q E hr h => ?_)
  · obtain ⟨a, b, xs, ys, m, n, rfl, _⟩ := h
    rfl
  · obtain ⟨a, b, xs, ys, m, n, rfl, hA, hB, hx, hy, lx, ly, q⟩ := h
    have hr1 : Room 1 _ := hr.mono (by decide)
    have hr2 : Room 2 _ := hr.mono (by decide)
    rw [touch_due m n xs ys hx hy] at q
    refine ⟨_, pss_cons (ps_if (PW.pt (pw_or (pt_val (pe_call GR hr2 (by rfl) gR FR.kp bR .nil pass0 (pa_cons (pv 0) pa_nil))) (pw_or1 (pt_val (pe_call GR hr2 (by rfl) gR FR.kp bR .nil pass0 (pa_cons (pv 1) pa_nil))))))
        (pss_one (ps_ret (pe_lst (pa_cons (pe_un un_neg pe_int) pa_nil)))) pss_nil)
      (pss_cons (ps_if (pt_val (pe_call G4 hr (by rfl) g4 F4.kp b4 .nil pass0 (pa_cons (pe_call GG hr2 (by rfl) gG FG.kp bG .nil pass0 (pa_cons (pv 0) pa_nil)) (pa_cons (pe_call GG hr2 (by rfl) gG FG.kp bG .nil pass0 (pa_cons (pv 1) pa_nil)) pa_nil))))
        (pss_one (ps_ret (pe_lst (pa_cons pe_int pa_nil)))) pss_nil)
      (pss_one (ps_ret (pe_lst (pa_cons pe_int pa_nil))))), ?_⟩
    refine ⟨_, rfl, a, xs, rfl, hA, by omega, fun H1 s1 => ⟨_, rfl, ?_⟩⟩
    unfold due at q
    cases e1 : refused xs with
    | true =>
      rw [e1] at q
      refine iteT (iteT ⟨_, rfl, (by show 1 ≤ sizeLine; decide), fun p hp => ?_⟩)
      exact q _ p upd_same
    | false =>
      rw [e1] at q
      refine iteF ⟨_, rfl, b, ys, rfl, s1.seq hB, by omega, fun H2 s2 => ⟨_, rfl, ?_⟩⟩
      cases e2 : refused ys with
      | true =>
        rw [e2] at q
        refine iteT ⟨_, rfl, (by show 1 ≤ sizeLine; decide), fun p hp => ?_⟩
        exact q _ p upd_same
      | false =>
        rw [e2] at q
        refine iteF ?_
        have s12 := s1.trans s2
        refine ⟨_, rfl, a, xs, m, rfl, s12.seq hA, hx, by omega, fun H3 D1 s3 _ h3 => ?_⟩
        refine ⟨_, rfl, b, ys, n, rfl, s3.seq (s12.seq hB), hy, by omega, fun H4 D2 s4 _ h4 => ?_⟩
        refine ⟨D1, D2, _, _, rfl, LsAt.keeps (R := StAt) StAt.keeps s4 h3, h4, fun s hs => (ok_row m xs hx e1).sti hs, fun s hs => (ok_row n ys hy e2).sti hs, _, rfl, ?_⟩
        show if Eb.rowsTouch (pls xs) (pls ys) = true then _ else _
        cases e3 : Eb.rowsTouch (pls xs) (pls ys) with
        | true =>
          rw [e3] at q
          refine iteT ⟨(by show 1 ≤ sizeLine; decide), fun p hp => ?_⟩
          exact q _ p upd_same
        | false =>
          rw [e3] at q
          refine iteF ⟨(by show 1 ≤ sizeLine; decide), fun p hp => ?_⟩
          exact q _ p upd_same
end
end Tr

/-! ### the end: what the top has written, and the row's head -/
namespace Tr
open PySem PySem.Spec PyProof.Rows L2
open PySem.W (Codec)
theorem all_mk {P : Program} {w : World} {K : PySem.W.Frag} {h : Heap} {mg : Str → Option Value} {fa f1 f2 f3 f4 f5 f6 f7 f8 f9 f10 : Addr} (X : K.In h) (G : h.Ns mainGlobals mg) (hfa : mg "touch" = some (.ref fa))
    {od1 an1 od2 an2 od3 an3 od4 an4 od5 an5 od6 an6 od7 an7 od8 an8 od9 an9 od10 an10 : Option Addr} {sl1 sl2 sl3 sl4 sl5 sl6 sl7 sl8 sl9 sl10 : Array (Option Value)} {oc1 kV1 dc1 pm1 cd1 ct1 oc2 kV2 dc2 pm2 cd2 ct2 oc3 kV3 dc3 pm3 cd3 ct3 oc4 kV4 dc4 pm4 cd4 ct4 oc5 kV5 dc5 pm5 cd5 ct5 oc6 kV6 dc6 pm6 cd6 ct6 oc7 kV7 dc7 pm7 cd7 ct7 oc8 kV8 dc8 pm8 cd8 ct8 oc9 kV9 dc9 pm9 cd9 ct9 oc10 kV10 dc10 pm10 cd10 ct10 : Value} {tF tM : Tok}
    (a1 : PySem.W.nsIn K mainGlobals "touch" = some (some (.ref f1))) (l1 : K.lookup f1 = some ⟨oc1, od1, .func (PySem.W.fnOf "touch" "touch" (defArgs sTouch) (defBody sTouch) (defScope sTouch) .none kV1 dc1 pm1 an1 cd1 ct1), sl1⟩) (c1 : PySem.W.codeIn K cd1 "touch" = true) (k1 : PySem.W.keepIn K (.ref f1) = true)
    (a2 : PySem.W.nsIn K mainGlobals "is_refused" = some (some (.ref f2))) (l2 : K.lookup f2 = some ⟨oc2, od2, .func (PySem.W.fnOf "is_refused" "is_refused" (defArgs sRef) (defBody sRef) (defScope sRef) .none kV2 dc2 pm2 an2 cd2 ct2), sl2⟩) (c2 : PySem.W.codeIn K cd2 "is_refused" = true) (k2 : PySem.W.keepIn K (.ref f2) = true)
    (a3 : PySem.W.nsIn K mainGlobals "is_in_bounds" = some (some (.ref f3))) (l3 : K.lookup f3 = some ⟨oc3, od3, .func (PySem.W.fnOf "is_in_bounds" "is_in_bounds" (defArgs sBnd) (defBody sBnd) (defScope sBnd) .none kV3 dc3 pm3 an3 cd3 ct3), sl3⟩) (c3 : PySem.W.codeIn K cd3 "is_in_bounds" = true) (k3 : PySem.W.keepIn K (.ref f3) = true)
    (a4 : PySem.W.nsIn K mainGlobals "stitches_of" = some (some (.ref f4))) (l4 : K.lookup f4 = some ⟨oc4, od4, .func (PySem.W.fnOf "stitches_of" "stitches_of" (defArgs sSti) (defBody sSti) (defScope sSti) .none kV4 dc4 pm4 an4 cd4 ct4), sl4⟩) (c4 : PySem.W.codeIn K cd4 "stitches_of" = true) (k4 : PySem.W.keepIn K (.ref f4) = true)
    (a5 : PySem.W.nsIn K mainGlobals "holes_of" = some (some (.ref f5))) (l5 : K.lookup f5 = some ⟨oc5, od5, .func (PySem.W.fnOf "holes_of" "holes_of" (defArgs sHol) (defBody sHol) (defScope sHol) .none kV5 dc5 pm5 an5 cd5 ct5), sl5⟩) (c5 : PySem.W.codeIn K cd5 "holes_of" = true) (k5 : PySem.W.keepIn K (.ref f5) = true)
    (a6 : PySem.W.nsIn K mainGlobals "is_touching" = some (some (.ref f6))) (l6 : K.lookup f6 = some ⟨oc6, od6, .func (PySem.W.fnOf "is_touching" "is_touching" (defArgs sTch) (defBody sTch) (defScope sTch) .none kV6 dc6 pm6 an6 cd6 ct6), sl6⟩) (c6 : PySem.W.codeIn K cd6 "is_touching" = true) (k6 : PySem.W.keepIn K (.ref f6) = true)
    (a7 : PySem.W.nsIn K mainGlobals "stitches_touch" = some (some (.ref f7))) (l7 : K.lookup f7 = some ⟨oc7, od7, .func (PySem.W.fnOf "stitches_touch" "stitches_touch" (defArgs sST) (defBody sST) (defScope sST) .none kV7 dc7 pm7 an7 cd7 ct7), sl7⟩) (c7 : PySem.W.codeIn K cd7 "stitches_touch" = true) (k7 : PySem.W.keepIn K (.ref f7) = true)
    (a8 : PySem.W.nsIn K mainGlobals "spans_meet" = some (some (.ref f8))) (l8 : K.lookup f8 = some ⟨oc8, od8, .func (PySem.W.fnOf "spans_meet" "spans_meet" (defArgs sSpn) (defBody sSpn) (defScope sSpn) .none kV8 dc8 pm8 an8 cd8 ct8), sl8⟩) (c8 : PySem.W.codeIn K cd8 "spans_meet" = true) (k8 : PySem.W.keepIn K (.ref f8) = true)
    (a9 : PySem.W.nsIn K mainGlobals "is_parted" = some (some (.ref f9))) (l9 : K.lookup f9 = some ⟨oc9, od9, .func (PySem.W.fnOf "is_parted" "is_parted" (defArgs sPar) (defBody sPar) (defScope sPar) .none kV9 dc9 pm9 an9 cd9 ct9), sl9⟩) (c9 : PySem.W.codeIn K cd9 "is_parted" = true) (k9 : PySem.W.keepIn K (.ref f9) = true)
    (a10 : PySem.W.nsIn K mainGlobals "side_of" = some (some (.ref f10))) (l10 : K.lookup f10 = some ⟨oc10, od10, .func (PySem.W.fnOf "side_of" "side_of" (defArgs sSide) (defBody sSide) (defScope sSide) .none kV10 dc10 pm10 an10 cd10 ct10), sl10⟩) (c10 : PySem.W.codeIn K cd10 "side_of" = true) (k10 : PySem.W.keepIn K (.ref f10) = true)
    (z1 : PySem.W.nsIn K mainGlobals "all" = some none) (z2 : PySem.W.nsIn K mainGlobals "abs" = some none) (z3 : PySem.W.nsIn K mainGlobals "len" = some none) (z4 : PySem.W.nsIn K mainGlobals "range" = some none) (z5 : PySem.W.nsIn K mainGlobals "max" = some none) (z6 : PySem.W.nsIn K mainGlobals "min" = some none)
    (y1 : PySem.W.nsIn K mainGlobals "FARTHEST" = some (some (.int 30000 tF))) (y2 : PySem.W.nsIn K mainGlobals "MOST_IN_ROW" = some (some (.int 60 tM))) :
    ∃ fd : FuncData, (∀ (s : Shared) (us : List Value), us.length = (["one", "other"] : List Str).length → BindsTo s fd ⟨us, []⟩ ((["one", "other"] : List Str).zip us)) ∧ ∀ base : Heap, K.In base → base.Ns mainGlobals mg → FnOk P w K mg base CX0 5 fa fd ["one", "other"] (spTouch K) := by
  have e := hfa.symm.trans (PySem.W.mg_of X G a1)
  cases e
  have F1 := fun_mk (st := sTouch) l1 c1 k1
  have F2 := fun_mk (st := sRef) l2 c2 k2
  have F3 := fun_mk (st := sBnd) l3 c3 k3
  have F4 := fun_mk (st := sSti) l4 c4 k4
  have F5 := fun_mk (st := sHol) l5 c5 k5
  have F6 := fun_mk (st := sTch) l6 c6 k6
  have F7 := fun_mk (st := sST) l7 c7 k7
  have F8 := fun_mk (st := sSpn) l8 c8 k8
  have F9 := fun_mk (st := sPar) l9 c9 k9
  have F10 := fun_mk (st := sSide) l10 c10 k10
  have b2 := F2.binds (ps := ["row"]) fun _ _ _ _ _ _ us hl => match us, hl with | [_], _ => rfl
  have b3 := F3.binds (ps := ["row"]) fun _ _ _ _ _ _ us hl => match us, hl with | [_], _ => rfl
  have b4 := F4.binds (ps := ["row"]) fun _ _ _ _ _ _ us hl => match us, hl with | [_], _ => rfl
  have b5 := F5.binds (ps := ["row"]) fun _ _ _ _ _ _ us hl => match us, hl with | [_], _ => rfl
  have b6 := F6.binds (ps := ["one", "other"]) fun _ _ _ _ _ _ us hl => match us, hl with | [_, _], _ => rfl
  have b7 := F7.binds (ps := ["one", "other"]) fun _ _ _ _ _ _ us hl => match us, hl with | [_, _], _ => rfl
  have b8 := F8.binds (ps := ["one", "other", "axis"]) fun _ _ _ _ _ _ us hl => match us, hl with | [_, _, _], _ => rfl
  have b9 := F9.binds (ps := ["stitch", "line"]) fun _ _ _ _ _ _ us hl => match us, hl with | [_, _], _ => rfl
  have b10 := F10.binds (ps := ["place", "line"]) fun _ _ _ _ _ _ us hl => match us, hl with | [_, _], _ => rfl
  exact ⟨PySem.W.fnOf "touch" "touch" (defArgs sTouch) (defBody sTouch) (defScope sTouch) .none kV1 dc1 pm1 an1 cd1 ct1, fun s us hu => match us, hu with | [_, _], _ => .of_eq rfl, fun base _ _ => ok_touch F1 F2 b2 (PySem.W.mg_of X G a2) F3 b3 (PySem.W.mg_of X G a3) F4 b4 (PySem.W.mg_of X G a4) F5 b5 (PySem.W.mg_of X G a5) F6 b6 (PySem.W.mg_of X G a6) F7 b7 (PySem.W.mg_of X G a7) F8 b8 (PySem.W.mg_of X G a8) F9 b9 (PySem.W.mg_of X G a9) F10 b10 (PySem.W.mg_of X G a10) (PySem.W.mg_none_of X G z1) (PySem.W.mg_none_of X G z2) (PySem.W.mg_none_of X G z3) (PySem.W.mg_none_of X G z4) (PySem.W.mg_none_of X G z5) (PySem.W.mg_none_of X G z6) (PySem.W.mg_of X G y1) (PySem.W.mg_of X G y2)⟩
end Tr
open PySem PySem.W PyProof.Rows
set_option maxRecDepth 100000 in
set_option maxHeartbeats 0 in
theorem PySem.Challenge.cw_threadrow_s01_touch_holds : PySem.Challenge.rw_threadrow_s01_touch.Holds := by
  w_on; k_headS; (case hw => exact ⟨[.list [], .list []], by decide +kernel, by decide +kernel⟩)
  k_fillS
  refine L2.walk_specK (r := PySem.Challenge.rw_threadrow_s01_touch) (k := 5) (CX := L2.CX0) (ps := ["one", "other"]) (sp := Tr.spTouch) (by decide +kernel) rfl rfl ⟨rfl, by decide, by decide⟩ (fun w h Y => PySem.W.kIn_of Y) ?F ?S (fun _ _ _ _ z => z)
  case F =>
    intro w mg fa h Y KX G hmg
    refine' Tr.all_mk KX G hmg ?a1 ?l1 ?c1 ?k1 ?a2 ?l2 ?c2 ?k2 ?a3 ?l3 ?c3 ?k3 ?a4 ?l4 ?c4 ?k4 ?a5 ?l5 ?c5 ?k5 ?a6 ?l6 ?c6 ?k6 ?a7 ?l7 ?c7 ?k7 ?a8 ?l8 ?c8 ?k8 ?a9 ?l9 ?c9 ?k9 ?a10 ?l10 ?c10 ?k10 ?z1 ?z2 ?z3 ?z4 ?z5 ?z6 ?y1 ?y2
    (case a1 => k_is)
    (case l1 => k_is)
    (case c1 => k_is)
    (case k1 => k_is)
    (case a2 => k_is)
    (case l2 => k_is)
    (case c2 => k_is)
    (case k2 => k_is)
    (case a3 => k_is)
    (case l3 => k_is)
    (case c3 => k_is)
    (case k3 => k_is)
    (case a4 => k_is)
    (case l4 => k_is)
    (case c4 => k_is)
    (case k4 => k_is)
    (case a5 => k_is)
    (case l5 => k_is)
    (case c5 => k_is)
    (case k5 => k_is)
    (case a6 => k_is)
    (case l6 => k_is)
    (case c6 => k_is)
    (case k6 => k_is)
    (case a7 => k_is)
    (case l7 => k_is)
    (case c7 => k_is)
    (case k7 => k_is)
    (case a8 => k_is)
    (case l8 => k_is)
    (case c8 => k_is)
    (case k8 => k_is)
    (case a9 => k_is)
    (case l9 => k_is)
    (case c9 => k_is)
    (case k9 => k_is)
    (case a10 => k_is)
    (case l10 => k_is)
    (case c10 => k_is)
    (case k10 => k_is)
    (case z1 => k_is)
    (case z2 => k_is)
    (case z3 => k_is)
    (case z4 => k_is)
    (case z5 => k_is)
    (case z6 => k_is)
    (case y1 => k_is)
    (case y2 => k_is)
  case S =>
    intro K H xs a hO hwi hask hx
    cases hx with
    | cons h1 h2 =>
      cases h2 with
      | cons h3 h4 =>
        cases h4
        cases h1 with
        | lst hs ha =>
          cases h3 with
          | lst ht hb =>
            have e := L2.ints_dw a.1 _ ha
            subst e
            have e2 := L2.ints_dw a.2.1 _ hb
            subst e2
            have q : ((Codec.inLen 0 200 a.1 && a.1.all (Codec.inInt (-2147483648) 2147483647)) && ((Codec.inLen 0 200 a.2.1 && a.2.1.all (Codec.inInt (-2147483648) 2147483647)) && true)) = true := hwi
            rw [Bool.and_eq_true, Bool.and_eq_true, Bool.and_eq_true, Bool.and_eq_true] at q
            obtain ⟨⟨m, em⟩, n, en⟩ := Tr.asked_even (xs := a.1) (ys := a.2.1) hask
            exact ⟨_, _, a.1, a.2.1, m, n, rfl, hs, ht, em, en, (Codec.inNat_iff.mp q.1.1).2, (Codec.inNat_iff.mp q.2.1.1).2, fun H' p hp => .lst (L2.SqL.of hp) (L2.dw_ints _)⟩
#print axioms PySem.Challenge.cw_threadrow_s01_touch_holds
