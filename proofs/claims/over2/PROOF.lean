import PyProof.Rows.All
import Wide.All
import OpenK.AllK
import Wide.FinOn
import Open.SpecLaws
import KE.OsHead
import KE.OsGo
import HandS.ForSpec
import HandS.Comp
import HandS.Iter
import HandS.Walk
import HandS.Conv
import HandS.Zip
import KE.OsArith
import EbOrder
import PySem.Challenge.RW_threadrow_s02_over
set_option Elab.async false
set_option linter.all false
set_option maxRecDepth 100000
set_option maxHeartbeats 2000000
namespace Tr
open PySem PySem.Spec PyProof.Rows L2
open PySem.W (Codec)
/-! ### the text by places -/
def top (i : Nat) : Stmt := PySem.Challenge.pw_threadrow_s02_over.main.body.getD i (.Pass ⟨0, 0, 0, 0⟩)
abbrev sOver : Stmt := top 4
abbrev sDrw : Stmt := top 5
abbrev sCnt : Stmt := top 6
abbrev sBeg : Stmt := top 7
abbrev sTail : Stmt := top 8
abbrev sBnd : Stmt := top 9
abbrev sHol : Stmt := top 10
abbrev sSti : Stmt := top 11
abbrev sShp : Stmt := top 12
abbrev sOnes : Stmt := top 13
abbrev sNum : Stmt := top 14
abbrev sTch : Stmt := top 15
abbrev sST : Stmt := top 16
abbrev sSpn : Stmt := top 17
abbrev sPar : Stmt := top 18
abbrev sSide : Stmt := top 19
theorem scOver : FnScope ["rows", "shapes", "befores", "j", "pairs", "before"] ["rows"] (defScope sOver) := ⟨rfl, rfl, rfl, by decide +kernel, rfl, by decide +kernel, by decide +kernel⟩
theorem scDrw : FnScope ["rows", "row", "tails", "counts", "tail"] ["rows"] (defScope sDrw) := ⟨rfl, rfl, rfl, by decide +kernel, rfl, by decide +kernel, by decide +kernel⟩
theorem scCnt : FnScope ["count"] ["count"] (defScope sCnt) := ⟨rfl, rfl, rfl, by decide +kernel, rfl, by decide +kernel, by decide +kernel⟩
theorem scBeg : FnScope ["row"] ["row"] (defScope sBeg) := ⟨rfl, rfl, rfl, by decide +kernel, rfl, by decide +kernel, by decide +kernel⟩
theorem scTail : FnScope ["row"] ["row"] (defScope sTail) := ⟨rfl, rfl, rfl, by decide +kernel, rfl, by decide +kernel, by decide +kernel⟩
theorem scBnd : FnScope ["row", "number"] ["row"] (defScope sBnd) := ⟨rfl, rfl, rfl, by decide +kernel, rfl, by decide +kernel, by decide +kernel⟩
theorem scHol : FnScope ["row", "k"] ["row"] (defScope sHol) := ⟨rfl, rfl, rfl, by decide +kernel, rfl, by decide +kernel, by decide +kernel⟩
theorem scSti : FnScope ["row", "holes", "k"] ["row"] (defScope sSti) := ⟨rfl, rfl, rfl, by decide +kernel, rfl, by decide +kernel, by decide +kernel⟩
theorem scShp : FnScope ["rows", "shapes", "row"] ["rows"] (defScope sShp) := ⟨rfl, rfl, rfl, by decide +kernel, rfl, by decide +kernel, by decide +kernel⟩
theorem scOnes : FnScope ["j", "shapes", "i"] ["j", "shapes"] (defScope sOnes) := ⟨rfl, rfl, rfl, by decide +kernel, rfl, by decide +kernel, by decide +kernel⟩
theorem scNum : FnScope ["before", "number", "i"] ["before"] (defScope sNum) := ⟨rfl, rfl, rfl, by decide +kernel, rfl, by decide +kernel, by decide +kernel⟩
theorem scTch : FnScope ["one", "other", "stitch", "another"] ["one", "other"] (defScope sTch) := ⟨rfl, rfl, rfl, by decide +kernel, rfl, by decide +kernel, by decide +kernel⟩
theorem scST : FnScope ["one", "other"] ["one", "other"] (defScope sST) := ⟨rfl, rfl, rfl, by decide +kernel, rfl, by decide +kernel, by decide +kernel⟩
theorem scSpn : FnScope ["one", "other", "axis", "low", "high"] ["one", "other", "axis"] (defScope sSpn) := ⟨rfl, rfl, rfl, by decide +kernel, rfl, by decide +kernel, by decide +kernel⟩
theorem scPar : FnScope ["stitch", "line"] ["stitch", "line"] (defScope sPar) := ⟨rfl, rfl, rfl, by decide +kernel, rfl, by decide +kernel, by decide +kernel⟩
theorem scSide : FnScope ["place", "line", "start", "end"] ["place", "line"] (defScope sSide) := ⟨rfl, rfl, rfl, by decide +kernel, rfl, by decide +kernel, by decide +kernel⟩
end Tr

namespace Tr
open PySem PySem.Spec PyProof.Rows L2
open PySem.W (Codec)
abbrev Pl := Eb.Place
abbrev Sti := Eb.Stitch
/-! ### what lies in the heap -/
theorem same_upd {H : Hp} {p : Addr} {o : HO} (h : H p = none) : Same H (upd H p o) := fun b x e => by
  rw [upd_ne (ne_of_none e h)]
  exact e
def PlAt (H : Hp) (a : Addr) (p : Pl) : Prop := H a = some (.tup [.int p.x, .int p.y])
def StAt (H : Hp) (a : Addr) (s : Sti) : Prop := ∃ u v, H a = some (.tup [.ref u, .ref v]) ∧ PlAt H u s.1 ∧ PlAt H v s.2
/-- a list at l of things that stand for xs -/
def LsAt {A : Type} (R : Hp → Addr → A → Prop) (H : Hp) (l : Addr) (xs : List A) : Prop :=
  ∃ as : List Addr, H l = some (.lst (as.map V.ref)) ∧ as.length = xs.length ∧ ∀ (i : Nat) (a : Addr) (x : A), as[i]? = some a → xs[i]? = some x → R H a x
def Keeps {A : Type} (R : Hp → Addr → A → Prop) : Prop := ∀ {H H' : Hp} {a : Addr} {x : A}, Same H H' → R H a x → R H' a x
theorem PlAt.keeps : Keeps PlAt := fun e h => e _ _ h
theorem StAt.keeps : Keeps StAt := fun e ⟨u, v, h, h1, h2⟩ => ⟨u, v, e _ _ h, PlAt.keeps e h1, PlAt.keeps e h2⟩
theorem LsAt.keeps {A : Type} {R : Hp → Addr → A → Prop} (k : Keeps R) : Keeps (LsAt R) := fun e ⟨as, h, hl, hr⟩ => ⟨as, e _ _ h, hl, fun i a x h1 h2 => k e (hr i a x h1 h2)⟩
/-- the items, once the list is there -/
theorem LsAt.item {A : Type} {R : Hp → Addr → A → Prop} {H : Hp} {as : List Addr} {xs : List A} {i : Nat} (hl : as.length = xs.length) (h : i < xs.length) : ∃ a x, as[i]? = some a ∧ xs[i]? = some x :=
  ⟨as[i]'(by omega), xs[i], by simp [show i < as.length by omega], by simp [h]⟩
theorem ref_at {as : List Addr} {i : Nat} {a : Addr} (h : as[i]? = some a) : (as.map V.ref)[i]? = some (V.ref a) := by
  rw [List.getElem?_map, h]
  rfl
/-- one more item at a list that grows (the address D), the item at a -/
theorem take_more {A : Type} : ∀ {l : List A} {i : Nat} {x : A}, l[i]? = some x → l.take (i + 1) = l.take i ++ [x]
  | [], i, x, h => by simp at h
  | a :: l, 0, x, h => by
    have e : a = x := Option.some.inj h
    subst e
    rfl
  | a :: l, i + 1, x, h => by
    have ih := take_more (l := l) (i := i) (x := x) h
    show a :: l.take (i + 1) = a :: l.take i ++ [x]
    rw [ih]
    rfl
/-- the things of a growing list D: as stands for xs, D none of them -/
structure Grow {A : Type} (R : Hp → Addr → A → Prop) (H0 H : Hp) (D : Addr) (xs : List A) (as : List Addr) : Prop where
  lst : H D = some (.lst (as.map V.ref))
  same : Same H0 H
  len : as.length = xs.length
  at_ : ∀ (i : Nat) (a : Addr) (x : A), as[i]? = some a → xs[i]? = some x → a ≠ D ∧ R H a x
/-- a list's store leaves R at any other address -/
def Firm {A : Type} (R : Hp → Addr → A → Prop) : Prop := ∀ {H : Hp} {a : Addr} {x : A} {D : Addr} {ys zs : List V}, H D = some (.lst ys) → a ≠ D → R H a x → R (upd H D (.lst zs)) a x
/-- R speaks of tuples alone: a list's store leaves it -/
def FirmT {A : Type} (R : Hp → Addr → A → Prop) : Prop := ∀ {H : Hp} {a : Addr} {x : A} {D : Addr} {ys zs : List V}, H D = some (.lst ys) → R H a x → R (upd H D (.lst zs)) a x
theorem firm_ne {H : Hp} {a D : Addr} {ys ws zs : List V} (hD : H D = some (.lst ys)) (h : H a = some (.tup ws)) : (upd H D (.lst zs)) a = some (.tup ws) := by
  rw [upd_ne (ne_of h hD (by intro z; cases z))]
  exact h
theorem FirmT.firm {A : Type} {R : Hp → Addr → A → Prop} (f : FirmT R) : Firm R := fun hD _ h => f hD h
theorem PlAt.firmT : FirmT PlAt := fun hD h => firm_ne hD h
theorem StAt.firmT : FirmT StAt := fun hD ⟨u, v, h, h1, h2⟩ => ⟨u, v, firm_ne hD h, firm_ne hD h1, firm_ne hD h2⟩
theorem LsAt.firm {A : Type} {R : Hp → Addr → A → Prop} (f : FirmT R) : Firm (LsAt R) := fun {H a x D ys zs} hD n ⟨as, h, hl, hr⟩ => ⟨as, by rw [upd_ne n]; exact h, hl, fun i b y h1 h2 => f hD (hr i b y h1 h2)⟩
/-- a list of whole numbers, tracked -/
def NsAt (H : Hp) (a : Addr) (ns : List Int) : Prop := H a = some (.lst (ns.map V.int))
theorem NsAt.keeps : Keeps NsAt := fun e h => e _ _ h
theorem NsAt.firm : Firm NsAt := fun {H a x D ys zs} _ n h => by
  show upd H D (.lst zs) a = _
  rw [upd_ne n]
  exact h
theorem Grow.start {A : Type} {R : Hp → Addr → A → Prop} {H0 : Hp} {D : Addr} (nD : H0 D = none) : Grow R H0 (upd H0 D (.lst [])) D [] [] := ⟨upd_same, same_upd nD, rfl, fun i a x h => by simp at h⟩
theorem Grow.more {A : Type} {R : Hp → Addr → A → Prop} (fR : Firm R) (kR : Keeps R) {H0 H H' : Hp} {D : Addr} {xs : List A} {as : List Addr} {a : Addr} {x : A} (G : Grow R H0 H D xs as) (nD : H0 D = none) (s : Same H H') (na : H a = none) (hx : R H' a x) :
    Grow R H0 (upd H' D (.lst (as.map V.ref ++ [V.ref a]))) D (xs ++ [x]) (as ++ [a]) := by
  have hD := s _ _ G.lst
  have nn : a ≠ D := (ne_of_none G.lst na).symm
  refine ⟨?_, fun b o e => ?_, by simp [G.len], fun i b y hb hy => ?_⟩
  · rw [upd_same, List.map_append]
    rfl
  · rw [upd_ne (ne_of_none e nD)]
    exact s _ _ (G.same _ _ e)
  · by_cases hi : i < as.length
    · rw [List.getElem?_append_left hi] at hb
      rw [List.getElem?_append_left (by rw [← G.len]; exact hi)] at hy
      obtain ⟨n, r⟩ := G.at_ i b y hb hy
      exact ⟨n, fR hD n (kR s r)⟩
    · have e1 : i = as.length := by
        have := (List.getElem?_eq_some_iff.mp hb).1
        simp at this
        omega
      subst e1
      rw [List.getElem?_append_right (Nat.le_refl _), Nat.sub_self] at hb
      rw [G.len, List.getElem?_append_right (Nat.le_refl _), Nat.sub_self] at hy
      have e2 : a = b := Option.some.inj hb
      have e3 : x = y := Option.some.inj hy
      subst e2 e3
      exact ⟨nn, fR hD nn hx⟩
theorem Grow.done {A : Type} {R : Hp → Addr → A → Prop} {H0 H : Hp} {D : Addr} {xs : List A} {as : List Addr} (G : Grow R H0 H D xs as) : LsAt R H D xs := ⟨as, G.lst, G.len, fun i a x h1 h2 => (G.at_ i a x h1 h2).2⟩
end Tr

namespace TG
open Eb
/-- weights on both sides of one balance: the spans meet -/
theorem weigh {p q u v a b c d : Int} (hp : 0 ≤ p) (hq : 0 ≤ q) (hu : 0 ≤ u) (hv : 0 ≤ v) (hs : 0 < p + q) (he : p + q = u + v) (h : p * c + q * d = u * b + v * a) :
    max (min a b) (min c d) ≤ min (max a b) (max c d) := by
  have key : ∀ M : Int, a ≤ M → b ≤ M → M < c → M < d → False := by
    intro M h1 h2 h3 h4
    have e1 : 0 ≤ p * (c - M) := Int.mul_nonneg hp (by omega)
    have e2 : 0 ≤ q * (d - M) := Int.mul_nonneg hq (by omega)
    have e3 : 0 ≤ u * (M - b) := Int.mul_nonneg hu (by omega)
    have e4 : 0 ≤ v * (M - a) := Int.mul_nonneg hv (by omega)
    have e5 : p * (c - M) + q * (d - M) + u * (M - b) + v * (M - a) = 0 := by grind
    rcases Int.lt_or_le 0 p with g | g
    · have e6 : 0 < p * (c - M) := Int.mul_pos g (by omega)
      omega
    · have e6 : 0 < q * (d - M) := Int.mul_pos (by omega) (by omega)
      omega
  have key2 : ∀ M : Int, c ≤ M → d ≤ M → M < a → M < b → False := by
    intro M h1 h2 h3 h4
    have e1 : 0 ≤ p * (M - c) := Int.mul_nonneg hp (by omega)
    have e2 : 0 ≤ q * (M - d) := Int.mul_nonneg hq (by omega)
    have e3 : 0 ≤ u * (b - M) := Int.mul_nonneg hu (by omega)
    have e4 : 0 ≤ v * (a - M) := Int.mul_nonneg hv (by omega)
    have e5 : p * (M - c) + q * (M - d) + u * (b - M) + v * (a - M) = 0 := by grind
    rcases Int.lt_or_le 0 u with g | g
    · have e6 : 0 < u * (b - M) := Int.mul_pos g (by omega)
      omega
    · have e6 : 0 < v * (a - M) := Int.mul_pos (by omega) (by omega)
      omega
  rcases Int.lt_or_le (min (max a b) (max c d)) (max (min a b) (min c d)) with g | g
  · exfalso
    by_cases g1 : max a b < min c d
    · exact key (max a b) (by omega) (by omega) (by omega) (by omega)
    · exact key2 (max c d) (by omega) (by omega) (by omega) (by omega)
  · exact g
/-- a product of whole numbers that isn't above nought -/
theorem le_cases {x y : Int} (h : x * y ≤ 0) : (x ≤ 0 ∧ 0 ≤ y) ∨ (0 ≤ x ∧ y ≤ 0) := by
  rcases Int.lt_trichotomy x 0 with g | g | g
  · rcases Int.lt_or_le y 0 with f | f
    · have := Int.mul_pos_of_neg_of_neg g f
      omega
    · exact .inl ⟨by omega, f⟩
  · subst g
    rcases Int.lt_or_le y 0 with f | f
    · exact .inr ⟨by omega, by omega⟩
    · exact .inl ⟨by omega, f⟩
  · rcases Int.lt_or_le 0 y with f | f
    · have := Int.mul_pos g f
      omega
    · exact .inr ⟨by omega, f⟩
theorem le_of_cases {x y : Int} (h : (x ≤ 0 ∧ 0 ≤ y) ∨ (0 ≤ x ∧ y ≤ 0)) : x * y ≤ 0 := by
  rcases h with ⟨a, b⟩ | ⟨a, b⟩
  · have := Int.mul_nonneg (show 0 ≤ -x by omega) b
    rw [Int.neg_mul] at this
    omega
  · have := Int.mul_nonneg a (show 0 ≤ -y by omega)
    rw [Int.mul_neg] at this
    omega
theorem sq_nonneg (x : Int) : 0 ≤ x * x := by
  rcases Int.le_total 0 x with h | h
  · exact Int.mul_nonneg h h
  · have := Int.mul_nonneg (show 0 ≤ -x by omega) (show 0 ≤ -x by omega)
    rw [Int.neg_mul_neg] at this
    exact this
/-- a point between two others, in line with them: no way through it has both on one side -/
theorem parts {ux uy vx vy wx wy : Int} (hk : ux * vy = uy * vx) (hP : ux * vx ≤ 0) (hQ : uy * vy ≤ 0) :
    (wx * uy - wy * ux) * (wx * vy - wy * vx) ≤ 0 := by
  rcases Int.lt_or_le (uy * vy) 0 with g | g
  · have e : (uy * vy) * ((wx * uy - wy * ux) * (wx * vy - wy * vx)) = (uy * vy * wx - ux * vy * wy) * (uy * vy * wx - ux * vy * wy) := by grind
    have s := sq_nonneg (uy * vy * wx - ux * vy * wy)
    rcases Int.lt_or_le 0 ((wx * uy - wy * ux) * (wx * vy - wy * vx)) with f | f
    · have := Int.mul_neg_of_neg_of_pos g f
      omega
    · exact f
  · have q0 : uy * vy = 0 := by omega
    have k2 : (ux * vy) * (ux * vy) = 0 := by
      have : (ux * vy) * (ux * vy) = (ux * vx) * (uy * vy) := by grind
      rw [this, q0, Int.mul_zero]
    have k0 : ux * vy = 0 := by
      rcases Int.mul_eq_zero.mp k2 with h | h <;> exact h
    have k1 : uy * vx = 0 := by omega
    have e : (wx * uy - wy * ux) * (wx * vy - wy * vx) = (ux * vx) * (wy * wy) := by
      have : (wx * uy - wy * ux) * (wx * vy - wy * vx) = wx * wx * (uy * vy) - wx * wy * (uy * vx) - wx * wy * (ux * vy) + (ux * vx) * (wy * wy) := by grind
      rw [this, q0, k0, k1]
      simp
    rw [e]
    have := Int.mul_nonneg (show 0 ≤ -(ux * vx) by omega) (sq_nonneg wy)
    rw [Int.neg_mul] at this
    omega
/-- on a line that isn't upright what lies between by x lies between by y -/
theorem along {ax ay bx by_ cx cy : Int} (h : (bx - ax) * (cy - ay) = (by_ - ay) * (cx - ax)) (hne : ax ≠ bx) (h1 : min ax bx ≤ cx) (h2 : cx ≤ max ax bx) :
    min ay by_ ≤ cy ∧ cy ≤ max ay by_ := by
  have main : ∀ {q r : Int}, 0 ≤ q → 0 ≤ r → 0 < q + r → (q + r) * cy = q * by_ + r * ay → min ay by_ ≤ cy ∧ cy ≤ max ay by_ := by
    intro q r hq hr hs e
    have := weigh (a := ay) (b := by_) (c := cy) (d := cy) (p := q) (q := r) (u := q) (v := r) hq hr hq hr hs rfl (by grind)
    omega
  rcases Int.lt_or_le ax bx with g | g
  · exact main (q := cx - ax) (r := bx - cx) (by omega) (by omega) (by omega) (by grind)
  · exact main (q := ax - cx) (r := cx - bx) (by omega) (by omega) (by omega) (by grind)
end TG

namespace TG
open Eb
def sd (ax ay bx by_ cx cy : Int) : Int := (bx - ax) * (cy - ay) - (by_ - ay) * (cx - ax)
def opp (x y : Int) : Prop := (x < 0 ∧ 0 < y) ∨ (y < 0 ∧ 0 < x)
def btw (a b c : Int) : Prop := min a b ≤ c ∧ c ≤ max a b
def spn (a b c d : Int) : Prop := max (min a b) (min c d) ≤ min (max a b) (max c d)
theorem sd_swap (ax ay bx by_ cx cy : Int) : sd bx by_ ax ay cx cy = - sd ax ay bx by_ cx cy := by
  unfold sd
  grind
theorem spn_comm {a b c d : Int} (h : spn a b c d) : spn c d a b := by
  unfold spn at *
  omega
theorem opp_mul {x y : Int} (h : opp x y) : x * y ≤ 0 := le_of_cases (by unfold opp at h; omega)
/-- the two stitches' sides have one balance -/
theorem bal (ax ay bx by_ cx cy dx dy : Int) :
    sd ax ay bx by_ dx dy - sd ax ay bx by_ cx cy = sd cx cy dx dy ax ay - sd cx cy dx dy bx by_ ∧
    sd ax ay bx by_ dx dy * cx - sd ax ay bx by_ cx cy * dx = sd cx cy dx dy ax ay * bx - sd cx cy dx dy bx by_ * ax ∧
    sd ax ay bx by_ dx dy * cy - sd ax ay bx by_ cx cy * dy = sd cx cy dx dy ax ay * by_ - sd cx cy dx dy bx by_ * ay := by
  unfold sd
  refine ⟨?_, ?_, ?_⟩ <;> grind
theorem cross_spn {s1 s2 t1 t2 a b c d : Int} (e : s2 - s1 = t1 - t2) (h : s2 * c - s1 * d = t1 * b - t2 * a) (os : opp s1 s2) (ot : opp t1 t2) : spn a b c d := by
  unfold opp at os ot
  unfold spn
  rcases os with ⟨g1, g2⟩ | ⟨g1, g2⟩
  · exact weigh (p := s2) (q := -s1) (u := t1) (v := -t2) (by omega) (by omega) (by omega) (by omega) (by omega) (by omega) (by grind)
  · exact weigh (p := -s2) (q := s1) (u := -t1) (v := t2) (by omega) (by omega) (by omega) (by omega) (by omega) (by omega) (by grind)
/-- a point upon a stitch: the stitch's ends don't lie on one side of a way from there -/
theorem on_parts {ax ay bx by_ cx cy dx dy : Int} (h : sd ax ay bx by_ cx cy = 0) (hx : btw ax bx cx) (hy : btw ay by_ cy) : sd cx cy dx dy ax ay * sd cx cy dx dy bx by_ ≤ 0 := by
  unfold sd at *
  unfold btw at *
  exact parts (ux := ax - cx) (uy := ay - cy) (vx := bx - cx) (vy := by_ - cy) (wx := dx - cx) (wy := dy - cy) (by grind) (le_of_cases (by omega)) (le_of_cases (by omega))
theorem btw_spn {a b c d : Int} (h : btw a b c) : spn a b c d := by
  unfold btw at h
  unfold spn
  omega
theorem btw_spn' {a b c d : Int} (h : btw a b d) : spn a b c d := by
  unfold btw at h
  unfold spn
  omega
/-- from the program's tests: balance gives the place -/
theorem on_of {s2 t1 t2 a b c : Int} (e : s2 = t1 - t2) (h : s2 * c = t1 * b - t2 * a) (hs : s2 ≠ 0) (ht : t1 * t2 ≤ 0) : btw a b c := by
  unfold btw
  have g := le_cases ht
  have w : spn a b c c := by
    unfold spn
    rcases Int.lt_or_le 0 s2 with f | f
    · exact weigh (p := s2) (q := 0) (u := t1) (v := -t2) (by omega) (by omega) (by omega) (by omega) (by omega) (by omega) (by grind)
    · exact weigh (p := -s2) (q := 0) (u := -t1) (v := t2) (by omega) (by omega) (by omega) (by omega) (by omega) (by omega) (by grind)
  unfold spn at w
  omega
def On (ax ay bx by_ cx cy : Int) : Prop := sd ax ay bx by_ cx cy = 0 ∧ btw ax bx cx ∧ btw ay by_ cy
/-- all in one line: where the spans meet an end lies upon the other -/
theorem in_line {ax ay bx by_ cx cy dx dy : Int} (s1 : sd ax ay bx by_ cx cy = 0) (s2 : sd ax ay bx by_ dx dy = 0) (t1 : sd cx cy dx dy ax ay = 0) (t2 : sd cx cy dx dy bx by_ = 0)
    (hx : spn ax bx cx dx) (hy : spn ay by_ cy dy) : On ax ay bx by_ cx cy ∨ On ax ay bx by_ dx dy ∨ On cx cy dx dy ax ay ∨ On cx cy dx dy bx by_ := by
  unfold On
  simp only [s1, s2, t1, t2, true_and]
  by_cases hab : ax = bx
  · by_cases hcd : cx = dx
    · -- both upright
      unfold spn at hx hy
      unfold btw
      omega
    · -- only the second isn't: a lies on it by x
      refine .inr (.inr (.inl ?_))
      have h1 : btw cx dx ax := by
        unfold spn at hx
        unfold btw
        omega
      exact ⟨h1, along (by unfold sd at t1; omega) hcd h1.1 h1.2⟩
  · by_cases hcd : cx = dx
    · refine .inl ?_
      have h1 : btw ax bx cx := by
        unfold spn at hx
        unfold btw
        omega
      exact ⟨h1, along (by unfold sd at s1; omega) hab h1.1 h1.2⟩
    · have h : btw ax bx cx ∨ btw ax bx dx ∨ btw cx dx ax ∨ btw cx dx bx := by
        unfold spn at hx
        unfold btw
        omega
      rcases h with h | h | h | h
      · exact .inl ⟨h, along (by unfold sd at s1; omega) hab h.1 h.2⟩
      · exact .inr (.inl ⟨h, along (by unfold sd at s2; omega) hab h.1 h.2⟩)
      · exact .inr (.inr (.inl ⟨h, along (by unfold sd at t1; omega) hcd h.1 h.2⟩))
      · exact .inr (.inr (.inr ⟨h, along (by unfold sd at t2; omega) hcd h.1 h.2⟩))
def Prog (ax ay bx by_ cx cy dx dy : Int) : Prop := spn ax bx cx dx ∧ spn ay by_ cy dy ∧ sd cx cy dx dy ax ay * sd cx cy dx dy bx by_ ≤ 0 ∧ sd ax ay bx by_ cx cy * sd ax ay bx by_ dx dy ≤ 0
def Spec (ax ay bx by_ cx cy dx dy : Int) : Prop := (opp (sd ax ay bx by_ cx cy) (sd ax ay bx by_ dx dy) ∧ opp (sd cx cy dx dy ax ay) (sd cx cy dx dy bx by_)) ∨
  On ax ay bx by_ cx cy ∨ On ax ay bx by_ dx dy ∨ On cx cy dx dy ax ay ∨ On cx cy dx dy bx by_
theorem prog_of_spec {ax ay bx by_ cx cy dx dy : Int} (h : Spec ax ay bx by_ cx cy dx dy) : Prog ax ay bx by_ cx cy dx dy := by
  obtain ⟨e0, e1, e2⟩ := bal ax ay bx by_ cx cy dx dy
  rcases h with ⟨os, ot⟩ | ⟨h0, hx, hy⟩ | ⟨h0, hx, hy⟩ | ⟨h0, hx, hy⟩ | ⟨h0, hx, hy⟩
  · exact ⟨cross_spn e0 e1 os ot, cross_spn e0 e2 os ot, opp_mul ot, opp_mul os⟩
  · exact ⟨btw_spn hx, btw_spn hy, on_parts h0 hx hy, by rw [h0, Int.zero_mul]; exact Int.le_refl _⟩
  · refine ⟨btw_spn' hx, btw_spn' hy, ?_, by rw [h0, Int.mul_zero]; exact Int.le_refl _⟩
    have := on_parts (dx := cx) (dy := cy) h0 hx hy
    rw [sd_swap cx cy dx dy ax ay, sd_swap cx cy dx dy bx by_, Int.neg_mul_neg] at this
    exact this
  · exact ⟨spn_comm (btw_spn hx), spn_comm (btw_spn hy), by rw [h0, Int.zero_mul]; exact Int.le_refl _, on_parts h0 hx hy⟩
  · refine ⟨spn_comm (btw_spn' hx), spn_comm (btw_spn' hy), by rw [h0, Int.mul_zero]; exact Int.le_refl _, ?_⟩
    have := on_parts (dx := ax) (dy := ay) h0 hx hy
    rw [sd_swap ax ay bx by_ cx cy, sd_swap ax ay bx by_ dx dy, Int.neg_mul_neg] at this
    exact this
theorem spec_of_prog {ax ay bx by_ cx cy dx dy : Int} (h : Prog ax ay bx by_ cx cy dx dy) : Spec ax ay bx by_ cx cy dx dy := by
  obtain ⟨hx, hy, ht, hs⟩ := h
  obtain ⟨e0, e1, e2⟩ := bal ax ay bx by_ cx cy dx dy
  unfold Spec
  generalize es1 : sd ax ay bx by_ cx cy = s1 at *
  generalize es2 : sd ax ay bx by_ dx dy = s2 at *
  generalize et1 : sd cx cy dx dy ax ay = t1 at *
  generalize et2 : sd cx cy dx dy bx by_ = t2 at *
  by_cases d : s2 - s1 = 0
  · have z : s1 = 0 ∧ s2 = 0 ∧ t1 = 0 ∧ t2 = 0 := by
      have c1 := le_cases hs
      have c2 := le_cases ht
      omega
    obtain ⟨z1, z2, z3, z4⟩ := z
    exact .inr (in_line (es1.trans z1) (es2.trans z2) (et1.trans z3) (et2.trans z4) hx hy)
  · by_cases z1 : s1 = 0
    · subst z1
      exact .inr (.inl ⟨es1, on_of (s2 := s2) (t1 := t1) (t2 := t2) (by omega) (by grind) (by omega) ht, on_of (s2 := s2) (t1 := t1) (t2 := t2) (by omega) (by grind) (by omega) ht⟩)
    by_cases z2 : s2 = 0
    · subst z2
      exact .inr (.inr (.inl ⟨es2, on_of (s2 := -s1) (t1 := t1) (t2 := t2) (by omega) (by grind) (by omega) ht, on_of (s2 := -s1) (t1 := t1) (t2 := t2) (by omega) (by grind) (by omega) ht⟩))
    by_cases z3 : t1 = 0
    · subst z3
      exact .inr (.inr (.inr (.inl ⟨et1, on_of (s2 := t2) (t1 := s1) (t2 := s2) (by omega) (by grind) (by omega) hs, on_of (s2 := t2) (t1 := s1) (t2 := s2) (by omega) (by grind) (by omega) hs⟩)))
    by_cases z4 : t2 = 0
    · subst z4
      exact .inr (.inr (.inr (.inr ⟨et2, on_of (s2 := -t1) (t1 := s1) (t2 := s2) (by omega) (by grind) (by omega) hs, on_of (s2 := -t1) (t1 := s1) (t2 := s2) (by omega) (by grind) (by omega) hs⟩)))
    · refine .inl ⟨?_, ?_⟩
      · have := le_cases hs
        unfold opp
        omega
      · have := le_cases ht
        unfold opp
        omega
/-! over places -/
def spans (a b c d : Int) : Bool := decide (max (min a b) (min c d) ≤ min (max a b) (max c d))
def parted (s l : Stitch) : Bool := decide (side l.1 l.2 s.1 * side l.1 l.2 s.2 ≤ 0)
def touches (s t : Stitch) : Bool := (spans s.1.x s.2.x t.1.x t.2.x && spans s.1.y s.2.y t.1.y t.2.y) && (parted s t && parted t s)
theorem side_sd (a b c : Place) : side a b c = sd a.x a.y b.x b.y c.x c.y := rfl
theorem opp_iff (x y : Int) : opposite x y = true ↔ opp x y := by
  unfold opposite opp
  simp only [Bool.or_eq_true, Bool.and_eq_true, decide_eq_true_eq]
theorem on_iff (s : Stitch) (p : Place) : onStitch s p = true ↔ On s.1.x s.1.y s.2.x s.2.y p.x p.y := by
  unfold onStitch between_ On btw
  rw [side_sd]
  simp only [Bool.and_eq_true, decide_eq_true_eq, beq_iff_eq]
theorem touches_eq (s t : Stitch) : touches s t = stitchesTouch s t := by
  rw [Bool.eq_iff_iff]
  unfold touches stitchesTouch spans parted
  simp only [Bool.or_eq_true, Bool.and_eq_true, decide_eq_true_eq, opp_iff, on_iff]
  constructor
  · rintro ⟨⟨a, b⟩, c, d⟩
    exact spec_of_prog ⟨a, b, c, d⟩
  · intro h
    obtain ⟨a, b, c, d⟩ := prog_of_spec h
    exact ⟨⟨a, b⟩, c, d⟩
end TG

namespace Tr
open PySem PySem.Spec PyProof.Rows L2
open PySem.W (Codec)
/-! ### side_of, is_parted, spans_meet, stitches_touch -/
def okP (p : Pl) : Prop := (-30000 ≤ p.x ∧ p.x ≤ 30000) ∧ (-30000 ≤ p.y ∧ p.y ≤ 30000)
def okS (s : Sti) : Prop := okP s.1 ∧ okP s.2
def spSide : Sp := fun vs H Q _ => ∃ (a l : Addr) (p : Pl) (s : Sti), vs = [.ref a, .ref l] ∧ PlAt H a p ∧ StAt H l s ∧ okP p ∧ okS s ∧ Q (.int (Eb.side s.1 s.2 p)) H
def spPar : Sp := fun vs H Q _ => ∃ (a l : Addr) (s t : Sti), vs = [.ref a, .ref l] ∧ StAt H a s ∧ StAt H l t ∧ okS s ∧ okS t ∧ Q (.bl (TG.parted s t)) H
def co (c : Bool) (p : Pl) : Int := if c = true then p.y else p.x
def axis (c : Bool) : Int := if c = true then 1 else 0
def spSpn : Sp := fun vs H Q _ => ∃ (a l : Addr) (s t : Sti) (c : Bool), vs = [.ref a, .ref l, .int (axis c)] ∧ StAt H a s ∧ StAt H l t ∧ Q (.bl (TG.spans (co c s.1) (co c s.2) (co c t.1) (co c t.2))) H
def spST : Sp := fun vs H Q _ => ∃ (a l : Addr) (s t : Sti), vs = [.ref a, .ref l] ∧ StAt H a s ∧ StAt H l t ∧ okS s ∧ okS t ∧ Q (.bl (TG.touches s t)) H
theorem side_le {p : Pl} {s : Sti} (hp : okP p) (hs : okS s) : -(2 ^ 64) < Eb.side s.1 s.2 p ∧ Eb.side s.1 s.2 p < 2 ^ 64 := by
  have key : ∀ x y : Int, -60000 ≤ x → x ≤ 60000 → -60000 ≤ y → y ≤ 60000 → -3600000000 ≤ x * y ∧ x * y ≤ 3600000000 := by
    intro x y h1 h2 h3 h4
    have e1 := Int.mul_nonneg (show 0 ≤ 60000 - x by omega) (show 0 ≤ 60000 - y by omega)
    have e2 := Int.mul_nonneg (show 0 ≤ 60000 + x by omega) (show 0 ≤ 60000 + y by omega)
    have e3 := Int.mul_nonneg (show 0 ≤ 60000 - x by omega) (show 0 ≤ 60000 + y by omega)
    have e4 := Int.mul_nonneg (show 0 ≤ 60000 + x by omega) (show 0 ≤ 60000 - y by omega)
    rw [Int.mul_sub, Int.sub_mul, Int.sub_mul] at e1
    rw [Int.mul_add, Int.add_mul, Int.add_mul] at e2
    rw [Int.mul_add, Int.sub_mul, Int.sub_mul] at e3
    rw [Int.mul_sub, Int.add_mul, Int.add_mul] at e4
    omega
  obtain ⟨⟨a1, a2⟩, a3, a4⟩ := hp
  obtain ⟨⟨⟨b1, b2⟩, b3, b4⟩, ⟨c1, c2⟩, c3, c4⟩ := hs
  have k1 := key (s.2.x - s.1.x) (p.y - s.1.y) (by omega) (by omega) (by omega) (by omega)
  have k2 := key (s.2.y - s.1.y) (p.x - s.1.x) (by omega) (by omega) (by omega) (by omega)
  show -(2 ^ 64) < (s.2.x - s.1.x) * (p.y - s.1.y) - (s.2.y - s.1.y) * (p.x - s.1.x) ∧ (s.2.x - s.1.x) * (p.y - s.1.y) - (s.2.y - s.1.y) * (p.x - s.1.x) < 2 ^ 64
  omega
section
variable {P : Program} {w : World} {K : PySem.W.Frag} {mg : Str → Option Value} {base : Heap}
theorem ok_side {f : Addr} {fd : FuncData} (F : Fun K "side_of" "side_of" sSide f fd) : FnOk P w K mg base CX0 1 f fd ["place", "line"] spSide := by
  refine F.ok scSide (fun vs H Q E h => ?_) (fun cdv A outer s H vs Q E hr h => ?_)
  · obtain ⟨a, l, p, s, rfl, _⟩ := h
    rfl
  · obtain ⟨a, l, p, s, rfl, ha, ⟨u, v, hl, hu, hv⟩, op, ⟨os1, os2⟩, q⟩ := h
    refine ⟨_, pss_cons (ps_set (i := 2) scSide.nd rfl (.inl rfl) (pe_ix ix_tup (pv 1) pe_int (fun _ _ => rfl)))
      (pss_cons (ps_set (i := 3) scSide.nd rfl (.inl rfl) (pe_ix ix_tup (pv 1) pe_int (fun _ _ => rfl)))
      (pss_one (ps_ret (pe_op op_sub
        (pe_op op_mul (pe_op op_sub (pe_ix ix_tup (pv 3) pe_int (fun _ _ => rfl)) (pe_ix ix_tup (pv 2) pe_int (fun _ _ => rfl))) (pe_op op_sub (pe_ix ix_tup (pv 0) pe_int (fun _ _ => rfl)) (pe_ix ix_tup (pv 2) pe_int (fun _ _ => rfl))))
        (pe_op op_mul (pe_op op_sub (pe_ix ix_tup (pv 3) pe_int (fun _ _ => rfl)) (pe_ix ix_tup (pv 2) pe_int (fun _ _ => rfl))) (pe_op op_sub (pe_ix ix_tup (pv 0) pe_int (fun _ _ => rfl)) (pe_ix ix_tup (pv 2) pe_int (fun _ _ => rfl)))))))), ?_⟩
    obtain ⟨⟨a1, a2⟩, a3, a4⟩ := op
    obtain ⟨⟨b1, b2⟩, b3, b4⟩ := os1
    obtain ⟨⟨c1, c2⟩, c3, c4⟩ := os2
    refine ⟨_, rfl, l, _, _, .ref u, rfl, rfl, SqT.of hl, atI_nat (j := 0) rfl, ?_⟩
    refine ⟨_, rfl, l, _, _, .ref v, rfl, rfl, SqT.of hl, atI_nat (j := 1) rfl, ?_⟩
    refine ⟨_, rfl, v, _, _, .int s.2.x, rfl, rfl, SqT.of hv, atI_nat (j := 0) rfl, ?_⟩
    refine ⟨_, rfl, u, _, _, .int s.1.x, rfl, rfl, SqT.of hu, atI_nat (j := 0) rfl, ?_⟩
    refine ⟨_, _, rfl, rfl, ?_⟩
    refine ⟨_, rfl, a, _, _, .int p.y, rfl, rfl, SqT.of ha, atI_nat (j := 1) rfl, ?_⟩
    refine ⟨_, rfl, u, _, _, .int s.1.y, rfl, rfl, SqT.of hu, atI_nat (j := 1) rfl, ?_⟩
    refine ⟨_, _, rfl, rfl, ?_⟩
    refine ⟨_, _, rfl, rfl, .inl ⟨by omega, by omega⟩, ?_⟩
    refine ⟨_, rfl, v, _, _, .int s.2.y, rfl, rfl, SqT.of hv, atI_nat (j := 1) rfl, ?_⟩
    refine ⟨_, rfl, u, _, _, .int s.1.y, rfl, rfl, SqT.of hu, atI_nat (j := 1) rfl, ?_⟩
    refine ⟨_, _, rfl, rfl, ?_⟩
    refine ⟨_, rfl, a, _, _, .int p.x, rfl, rfl, SqT.of ha, atI_nat (j := 0) rfl, ?_⟩
    refine ⟨_, rfl, u, _, _, .int s.1.x, rfl, rfl, SqT.of hu, atI_nat (j := 0) rfl, ?_⟩
    refine ⟨_, _, rfl, rfl, ?_⟩
    refine ⟨_, _, rfl, rfl, .inl ⟨by omega, by omega⟩, ?_⟩
    exact ⟨_, _, rfl, rfl, q⟩
theorem ok_par {f fS : Addr} {fd fdS : FuncData} (F : Fun K "is_parted" "is_parted" sPar f fd) (FS : Fun K "side_of" "side_of" sSide fS fdS) (bS : Binds K fdS ["place", "line"] []) (gS : mg "side_of" = some (.ref fS)) : FnOk P w K mg base CX0 2 f fd ["stitch", "line"] spPar := by
  have GS : FnOk P w K mg base CX0 1 fS fdS ["place", "line"] spSide := ok_side FS
  refine F.ok scPar (fun vs H Q E h => ?_) (fun cdv A outer s H vs Q E hr h => ?_)
  · obtain ⟨a, l, p, s, rfl, _⟩ := h
    rfl
  · obtain ⟨a, l, s, t, rfl, ⟨u, v, ha, hu, hv⟩, hl, os, ot, q⟩ := h
    refine ⟨_, pss_one (ps_ret (pe_cmpR op_le (pe_op op_mul
      (pe_call GS hr (by rfl) gS FS.kp bS .nil pass0 (pa_cons (pe_ix ix_tup (pv 0) pe_int (fun _ _ => rfl)) (pa_cons (pv 1) pa_nil)))
      (pe_call GS hr (by rfl) gS FS.kp bS .nil pass0 (pa_cons (pe_ix ix_tup (pv 0) pe_int (fun _ _ => rfl)) (pa_cons (pv 1) pa_nil)))) pe_int (nomark _))), ?_⟩
    refine ⟨_, rfl, a, _, _, .ref u, rfl, rfl, SqT.of ha, atI_nat (j := 0) rfl, _, rfl, u, l, s.1, t, rfl, hu, hl, os.1, ot, ?_⟩
    refine ⟨_, rfl, a, _, _, .ref v, rfl, rfl, SqT.of ha, atI_nat (j := 1) rfl, _, rfl, v, l, s.2, t, rfl, hv, hl, os.2, ot, ?_⟩
    refine ⟨_, _, rfl, rfl, .inl (side_le os.1 ot), ?_⟩
    exact ⟨_, _, rfl, rfl, q⟩
end
end Tr

namespace Tr
open PySem PySem.Spec PyProof.Rows L2
open PySem.W (Codec)
theorem at_axis (c : Bool) (p : Pl) : atI [V.int p.x, V.int p.y] (axis c) = some (.int (co c p)) := by
  cases c
  · exact atI_nat (j := 0) rfl
  · exact atI_nat (j := 1) rfl
theorem pmin (m n : Int) : (if n < m then n else m) = min m n := by
  by_cases h : n < m
  · rw [if_pos h]; omega
  · rw [if_neg h]; omega
theorem pmax (m n : Int) : (if n > m then n else m) = max m n := by
  by_cases h : n > m
  · rw [if_pos h]; omega
  · rw [if_neg h]; omega
section
variable {P : Program} {w : World} {K : PySem.W.Frag} {mg : Str → Option Value} {base : Heap}
theorem ok_spn {f : Addr} {fd : FuncData} (F : Fun K "spans_meet" "spans_meet" sSpn f fd) (mx : mg "max" = none) (mn : mg "min" = none) : FnOk P w K mg base CX0 1 f fd ["one", "other", "axis"] spSpn := by
  refine F.ok scSpn (fun vs H Q E h => ?_) (fun cdv A outer s H vs Q E hr h => ?_)
  · obtain ⟨a, l, s, t, c, rfl, _⟩ := h
    rfl
  · obtain ⟨a, l, s, t, c, rfl, ⟨u, v, ha, hu, hv⟩, ⟨x, y, hl, hx, hy⟩, q⟩ := h
    refine ⟨_, pss_cons (ps_set (i := 3) scSpn.nd rfl (.inl rfl)
        (pe_callB (call_max2 rfl) (by rfl) mx (by decide +kernel) (pa_cons
          (pe_callB (call_min2 rfl) (by rfl) mn (by decide +kernel) (pa_cons (pe_ix ix_tup (pe_ix ix_tup (pv 0) pe_int (fun _ _ => rfl)) (pv 2) (fun _ _ => rfl)) (pa_cons (pe_ix ix_tup (pe_ix ix_tup (pv 0) pe_int (fun _ _ => rfl)) (pv 2) (fun _ _ => rfl)) pa_nil))) (pa_cons
          (pe_callB (call_min2 rfl) (by rfl) mn (by decide +kernel) (pa_cons (pe_ix ix_tup (pe_ix ix_tup (pv 1) pe_int (fun _ _ => rfl)) (pv 2) (fun _ _ => rfl)) (pa_cons (pe_ix ix_tup (pe_ix ix_tup (pv 1) pe_int (fun _ _ => rfl)) (pv 2) (fun _ _ => rfl)) pa_nil))) pa_nil))))
      (pss_cons (ps_set (i := 4) scSpn.nd rfl (.inl rfl)
        (pe_callB (call_min2 rfl) (by rfl) mn (by decide +kernel) (pa_cons
          (pe_callB (call_max2 rfl) (by rfl) mx (by decide +kernel) (pa_cons (pe_ix ix_tup (pe_ix ix_tup (pv 0) pe_int (fun _ _ => rfl)) (pv 2) (fun _ _ => rfl)) (pa_cons (pe_ix ix_tup (pe_ix ix_tup (pv 0) pe_int (fun _ _ => rfl)) (pv 2) (fun _ _ => rfl)) pa_nil))) (pa_cons
          (pe_callB (call_max2 rfl) (by rfl) mx (by decide +kernel) (pa_cons (pe_ix ix_tup (pe_ix ix_tup (pv 1) pe_int (fun _ _ => rfl)) (pv 2) (fun _ _ => rfl)) (pa_cons (pe_ix ix_tup (pe_ix ix_tup (pv 1) pe_int (fun _ _ => rfl)) (pv 2) (fun _ _ => rfl)) pa_nil))) pa_nil))))
      (pss_one (ps_ret (pe_cmpR op_le (pv 3) (pv 4) (nomark _))))), ?_⟩
    refine ⟨_, rfl, a, _, _, .ref u, rfl, rfl, SqT.of ha, atI_nat (j := 0) rfl, _, rfl, u, _, _, .int (co c s.1), rfl, rfl, SqT.of hu, at_axis c s.1, ?_⟩
    refine ⟨_, rfl, a, _, _, .ref v, rfl, rfl, SqT.of ha, atI_nat (j := 1) rfl, _, rfl, v, _, _, .int (co c s.2), rfl, rfl, SqT.of hv, at_axis c s.2, ?_⟩
    refine ⟨_, _, rfl, ?_⟩
    refine ⟨_, rfl, l, _, _, .ref x, rfl, rfl, SqT.of hl, atI_nat (j := 0) rfl, _, rfl, x, _, _, .int (co c t.1), rfl, rfl, SqT.of hx, at_axis c t.1, ?_⟩
    refine ⟨_, rfl, l, _, _, .ref y, rfl, rfl, SqT.of hl, atI_nat (j := 1) rfl, _, rfl, y, _, _, .int (co c t.2), rfl, rfl, SqT.of hy, at_axis c t.2, ?_⟩
    refine ⟨_, _, rfl, ?_⟩
    refine ⟨_, _, rfl, ?_⟩
    rw [pmin, pmin, pmax]
    refine ⟨_, rfl, a, _, _, .ref u, rfl, rfl, SqT.of ha, atI_nat (j := 0) rfl, _, rfl, u, _, _, .int (co c s.1), rfl, rfl, SqT.of hu, at_axis c s.1, ?_⟩
    refine ⟨_, rfl, a, _, _, .ref v, rfl, rfl, SqT.of ha, atI_nat (j := 1) rfl, _, rfl, v, _, _, .int (co c s.2), rfl, rfl, SqT.of hv, at_axis c s.2, ?_⟩
    refine ⟨_, _, rfl, ?_⟩
    refine ⟨_, rfl, l, _, _, .ref x, rfl, rfl, SqT.of hl, atI_nat (j := 0) rfl, _, rfl, x, _, _, .int (co c t.1), rfl, rfl, SqT.of hx, at_axis c t.1, ?_⟩
    refine ⟨_, rfl, l, _, _, .ref y, rfl, rfl, SqT.of hl, atI_nat (j := 1) rfl, _, rfl, y, _, _, .int (co c t.2), rfl, rfl, SqT.of hy, at_axis c t.2, ?_⟩
    refine ⟨_, _, rfl, ?_⟩
    refine ⟨_, _, rfl, ?_⟩
    rw [pmax, pmax, pmin]
    exact ⟨_, rfl, _, rfl, _, _, rfl, rfl, q⟩
theorem ok_st {f fP fN fS : Addr} {fd fdP fdN fdS : FuncData} (F : Fun K "stitches_touch" "stitches_touch" sST f fd)
    (FN : Fun K "spans_meet" "spans_meet" sSpn fN fdN) (bN : Binds K fdN ["one", "other", "axis"] []) (gN : mg "spans_meet" = some (.ref fN)) (mx : mg "max" = none) (mn : mg "min" = none)
    (FP : Fun K "is_parted" "is_parted" sPar fP fdP) (bP : Binds K fdP ["stitch", "line"] []) (gP : mg "is_parted" = some (.ref fP))
    (FS : Fun K "side_of" "side_of" sSide fS fdS) (bS : Binds K fdS ["place", "line"] []) (gS : mg "side_of" = some (.ref fS)) : FnOk P w K mg base CX0 3 f fd ["one", "other"] spST := by
  have GN : FnOk P w K mg base CX0 1 fN fdN ["one", "other", "axis"] spSpn := ok_spn FN mx mn
  have GP : FnOk P w K mg base CX0 2 fP fdP ["stitch", "line"] spPar := ok_par FP FS bS gS
  refine F.ok scST (fun vs H Q E h => ?_) (fun cdv A outer s H vs Q E hr h => ?_)
  · obtain ⟨a, l, s, t, rfl, _⟩ := h
    rfl
  · obtain ⟨a, l, s, t, rfl, ha, hl, os, ot, q⟩ := h
    have hr1 : Room 1 _ := hr.mono (by decide)
    refine ⟨_, pss_cons (ps_if (PW.pt (pw_or
          (pt_not (pt_val (pe_call GN hr1 (by rfl) gN FN.kp bN .nil pass0 (pa_cons (pv 0) (pa_cons (pv 1) (pa_cons pe_int pa_nil))))))
          (pw_or1 (pt_not (pt_val (pe_call GN hr1 (by rfl) gN FN.kp bN .nil pass0 (pa_cons (pv 0) (pa_cons (pv 1) (pa_cons pe_int pa_nil)))))))))
        (pss_one (ps_ret pe_bl)) pss_nil)
      (pss_one (ps_ret (pe_and (pe_call GP hr (by rfl) gP FP.kp bP .nil pass0 (pa_cons (pv 0) (pa_cons (pv 1) pa_nil)))
        (pe_one (pe_call GP hr (by rfl) gP FP.kp bP .nil pass0 (pa_cons (pv 1) (pa_cons (pv 0) pa_nil))))))), ?_⟩
    refine ⟨_, rfl, _, rfl, a, l, s, t, false, rfl, ha, hl, _, rfl, ?_⟩
    have e0 : TG.touches s t = ((TG.spans s.1.x s.2.x t.1.x t.2.x && TG.spans s.1.y s.2.y t.1.y t.2.y) && (TG.parted s t && TG.parted t s)) := rfl
    rw [e0] at q
    show if (!(TG.spans s.1.x s.2.x t.1.x t.2.x)) = true then _ else _
    cases e1 : TG.spans s.1.x s.2.x t.1.x t.2.x with
    | false =>
      rw [e1] at q
      exact iteT q
    | true =>
      rw [e1] at q
      refine iteF ?_
      refine ⟨_, rfl, _, rfl, a, l, s, t, true, rfl, ha, hl, _, rfl, ?_⟩
      show if (!(TG.spans s.1.y s.2.y t.1.y t.2.y)) = true then _ else _
      cases e2 : TG.spans s.1.y s.2.y t.1.y t.2.y with
      | false =>
        rw [e2] at q
        exact iteT q
      | true =>
        rw [e2] at q
        refine iteF ?_
        refine ⟨_, rfl, _, rfl, a, l, s, t, rfl, ha, hl, os, ot, _, rfl, ?_⟩
        cases e3 : TG.parted s t with
        | false =>
          rw [e3] at q
          exact iteF q
        | true =>
          rw [e3] at q
          exact iteT ⟨_, rfl, _, rfl, l, a, t, s, rfl, hl, ha, ot, os, q⟩
end
end Tr

namespace Tr
open PySem PySem.Spec PyProof.Rows L2
open PySem.W (Codec)
/-! ### is_in_bounds, is_refused -/
def inB (n : Int) : Bool := decide ((if n < 0 then -n else n) ≤ 30000)
def spBnd (K : PySem.W.Frag) : Sp := fun vs H Q _ => ∃ (a : Addr) (ns : List Int), vs = [.ref a] ∧ SqL K H a (ns.map V.int) ∧ ns.length ≤ 1000 ∧ ∀ H', Same H H' → Q (.bl (ns.all inB)) H'
theorem int_at {ns : List Int} {i : Nat} {y : V} (hi : (ns.map V.int)[i]? = some y) : ∃ z, ns[i]? = some z ∧ y = V.int z := by
  rw [List.getElem?_map] at hi
  cases e : ns[i]? with
  | none =>
    rw [e] at hi
    cases hi
  | some z =>
    rw [e] at hi
    exact ⟨z, rfl, (Option.some.inj hi).symm⟩
theorem all_id {A : Type} (f : A → Bool) (l : List A) : (l.map f).all id = l.all f := by
  rw [List.all_map]
  rfl
section
variable {P : Program} {w : World} {K : PySem.W.Frag} {mg : Str → Option Value} {base : Heap}
theorem ok_bnd {f : Addr} {fd : FuncData} {tF : Tok} (F : Fun K "is_in_bounds" "is_in_bounds" sBnd f fd) (ma : mg "all" = none) (mb : mg "abs" = none) (mF : mg "FARTHEST" = some (.int 30000 tF)) : FnOk P w K mg base CX0 1 f fd ["row"] (spBnd K) := by
  refine F.ok scBnd (fun vs H Q E h => ?_) (fun cdv A outer s H vs Q E hr h => ?_)
  · obtain ⟨a, ns, rfl, _⟩ := h
    rfl
  · obtain ⟨a, ns, rfl, hS, hlen, q⟩ := h
    refine ⟨_, pss_one (ps_ret (pe_callB (cr_all rfl) (by rfl) ma (by decide +kernel) (pa_cons
      (pe_lc (own := [("number", 1)]) (g := gName 1) (tt := tYes) rfl scBnd.nd (pi_list (pv 0)) (blkOk_by (N := ["row", "number"]) (sc := defScope sBnd) (by decide +kernel)) (fun _ _ _ _ _ => pg_name (i := 1) scBnd.nd rfl (Or.inl rfl)) (fun _ _ _ _ _ => pts_nil)
        (fun _ _ _ _ _ => pe_cmpR op_le (pe_callB call_abs (by rfl) mb (by decide +kernel) (pa_cons (pv 1) pa_nil)) (pe_glob (v := .int 30000) rfl mF ⟨_, rfl⟩) (nomark _))) pa_nil))), ?_⟩
    refine ⟨_, rfl, a, rfl, ⟨_, hS⟩, fun D nD => lc_list (K := K) (a := a) (xs := ns.map V.int) (fun i H' => Same H H' ∧ H' D = some (.lst (((ns.take i).map inB).map V.bl))) ⟨same_upd nD, upd_same⟩ (fun i H' _ h => h.1.seq hS) ?_ ?_⟩
    · rintro i y H' hi ⟨sm, hD⟩
      obtain ⟨z, hz, rfl⟩ := int_at hi
      refine ⟨rfl, ?_⟩
      refine ⟨_, rfl, _, rfl, _, _, rfl, rfl, _, hD, ?_, fun b o e => ?_, ?_⟩
      · rw [List.length_map, List.length_map, List.length_take]
        exact Nat.lt_of_le_of_lt (Nat.min_le_right _ _) (small1000 hlen)
      · rw [upd_ne (ne_of_none e nD)]
        exact sm _ _ e
      · rw [upd_same, take_more hz, List.map_append, List.map_append]
        rfl
    · rintro H' ⟨sm, hD⟩
      rw [List.length_map, List.take_length] at hD
      refine ⟨D, ns.map inB, rfl, SqL.of hD, ?_⟩
      rw [all_id]
      exact q H' sm
/-! ### holes_of, stitches_of -/
/-- by turns x and y -/
def pls : List Int → List Pl
  | x :: y :: r => ⟨x, y⟩ :: pls r
  | _ => []
theorem pls_len : ∀ (m : Nat) (ns : List Int), ns.length = 2 * m → (pls ns).length = m
  | 0, ns, h => by
    cases ns with
    | nil => rfl
    | cons x r => simp at h
  | m + 1, ns, h => by
    match ns, h with
    | x :: y :: r, h =>
      show (pls r).length + 1 = m + 1
      rw [pls_len m r (by simp at h; omega)]
theorem pls_at : ∀ (m : Nat) (ns : List Int) (i : Nat), ns.length = 2 * m → i < m → ∃ p : Pl, (pls ns)[i]? = some p ∧ ns[2 * i]? = some p.x ∧ ns[2 * i + 1]? = some p.y
  | 0, _, _, _, hi => absurd hi (Nat.not_lt_zero _)
  | m + 1, ns, i, h, hi => by
    match ns, i, h with
    | x :: y :: r, 0, h => exact ⟨⟨x, y⟩, rfl, rfl, rfl⟩
    | x :: y :: r, i + 1, h =>
      obtain ⟨p, h1, h2, h3⟩ := pls_at m r i (by simp at h; omega) (by omega)
      exact ⟨p, h1, h2, h3⟩
theorem rgC_two (m : Nat) (hm : m ≤ 1000) : RgC 0 ((2 * m : Nat) : Int) 2 m := by
  have e : Builtin.Range.rangeSize 0 ((2 * m : Nat) : Int) 2 = (m : Int) := by
    unfold Builtin.Range.rangeSize
    rw [if_pos (by decide)]
    split <;> omega
  refine ⟨by decide, by decide, ?_, e⟩
  unfold Builtin.Range.small
  rw [e]
  generalize ej : ((2 * m : Nat) : Int) = j
  generalize em : (m : Int) = z
  have hj : 0 ≤ j ∧ j ≤ 2000 := by omega
  have hz : 0 ≤ z ∧ z ≤ 1000 := by omega
  clear e ej em hm
  simp only [Builtin.Range.rangeFitsLong, Bool.and_eq_true, Bool.or_eq_true, decide_eq_true_eq, beq_iff_eq, show (2 : Int) > 0 by decide, if_true]
  omega
def spHol (K : PySem.W.Frag) : Sp := fun vs H Q _ => ∃ (a : Addr) (ns : List Int) (m : Nat), vs = [.ref a] ∧ SqL K H a (ns.map V.int) ∧ ns.length = 2 * m ∧ m ≤ 1000 ∧ ∀ H' D, Same H H' → H D = none → LsAt PlAt H' D (pls ns) → Q (.ref D) H'
theorem ok_hol {f : Addr} {fd : FuncData} (F : Fun K "holes_of" "holes_of" sHol f fd) (ml : mg "len" = none) (mr : mg "range" = none) : FnOk P w K mg base CX0 1 f fd ["row"] (spHol K) := by
  refine F.ok scHol (fun vs H Q E h => ?_) (fun cdv A outer s H vs Q E hr h => ?_)
  · obtain ⟨a, ns, m, rfl, _⟩ := h
    rfl
  · obtain ⟨a, ns, m, rfl, hS, hlen, hm, q⟩ := h
    refine ⟨_, pss_one (ps_ret (pe_lc (own := [("k", 1)]) (g := gName 1) (tt := tYes) rfl scHol.nd (pi_range3 rfl mr (pa_cons pe_int (pa_cons (pe_callB call_len_seq (by rfl) ml PySem.boot_len (pa_cons (pv 0) pa_nil)) (pa_cons pe_int pa_nil))))
      (blkOk_by (N := ["row", "k"]) (sc := defScope sHol) (by decide +kernel)) (fun _ _ _ _ _ => pg_name (i := 1) scHol.nd rfl (Or.inl rfl)) (fun _ _ _ _ _ => pts_nil)
      (fun _ _ _ _ _ => pe_tup (pa_cons (pe_ix (r := rIxL K) ix_list (pv 0) (pv 1) (fun _ _ => rfl)) (pa_cons (pe_ix (r := rIxL K) ix_list (pv 0) (pe_op op_add (pv 1) pe_int) (fun _ _ => rfl)) pa_nil))))), ?_⟩
    refine ⟨_, rfl, a, _, rfl, .inl hS, ?_⟩
    have el : (((ns.map V.int).length : Nat) : Int) = ((2 * m : Nat) : Int) := by rw [List.length_map, hlen]
    rw [el]
    have L := pls_len m ns hlen
    refine ⟨0, _, 2, m, rfl, rgC_two m hm, fun D nD => lc_it (walk_rangeC (lo := 0) (c := 2) (n := m)) (fun i H' => ∃ as, Grow PlAt H H' D ((pls ns).take i) as)
      ⟨[], Grow.start nD⟩ (fun i H' _ _ => trivial) ?_ ?_⟩
    · rintro i x H1 H' hi ⟨as, G⟩ hy
      obtain ⟨e1, e2⟩ := hy
      subst e1
      have e3 : x = V.int (0 + (i : Nat) * 2) := e2
      subst e3
      obtain ⟨p, hp, hx, hy⟩ := pls_at m ns i hlen hi
      have hS' := G.same.seq hS
      refine ⟨rfl, ?_⟩
      refine ⟨_, rfl, _, rfl, a, _, _, .int p.x, rfl, rfl, hS', at_of (j := 2 * i) (by omega) (by rw [List.getElem?_map, hx]; rfl), ?_⟩
      refine ⟨_, rfl, _, rfl, _, _, rfl, rfl, a, _, _, .int p.y, rfl, rfl, hS', at_of (j := 2 * i + 1) (by omega) (by rw [List.getElem?_map, hy]; rfl), ?_⟩
      refine ⟨(by show 2 ≤ sizeLine; decide), fun t ht => ?_⟩
      have s2 : Same H' (upd H' t (.tup [.int p.x, .int p.y])) := same_upd ht
      refine ⟨as.map V.ref, s2 _ _ G.lst, ?_, as ++ [t], ?_⟩
      · rw [List.length_map, G.len, List.length_take, L]
        exact small1000 (by omega)
      · rw [take_more hp]
        exact Grow.more (R := PlAt) (a := t) (x := p) PlAt.firmT.firm PlAt.keeps G nD s2 ht upd_same
    · rintro H' ⟨as, G⟩
      rw [List.take_of_length_le (by omega)] at G
      exact q H' D G.same nD G.done
end
end Tr

namespace Tr
open PySem PySem.Spec PyProof.Rows L2
open PySem.W (Codec)
def spSti (K : PySem.W.Frag) : Sp := fun vs H Q _ => ∃ (a : Addr) (ns : List Int) (m : Nat), vs = [.ref a] ∧ SqL K H a (ns.map V.int) ∧ ns.length = 2 * m ∧ m ≤ 1000 ∧ ∀ H' D, Same H H' → H D = none → LsAt StAt H' D (Eb.stitchesOf (pls ns)) → Q (.ref D) H'
theorem pairs_len : ∀ ps : List Pl, (Eb.pairsOf ps).length = ps.length - 1
  | [] => rfl
  | [_] => rfl
  | p :: q :: r => by
    show (Eb.pairsOf (q :: r)).length + 1 = (q :: r).length + 1 - 1
    rw [pairs_len (q :: r)]
    show (r.length + 1 - 1) + 1 = r.length + 1 + 1 - 1
    omega
theorem pairs_at : ∀ (ps : List Pl) (i : Nat), i < ps.length - 1 → ∃ p q : Pl, ps[i]? = some p ∧ ps[i + 1]? = some q ∧ (Eb.pairsOf ps)[i]? = some (p, q)
  | [], i, h => absurd h (by simp)
  | [_], i, h => absurd h (by simp)
  | p :: q :: r, 0, _ => ⟨p, q, rfl, rfl, rfl⟩
  | p :: q :: r, i + 1, h => by
    obtain ⟨a, b, h1, h2, h3⟩ := pairs_at (q :: r) i (by simp at h ⊢; omega)
    exact ⟨a, b, h1, h2, h3⟩
theorem sti_pairs {ps : List Pl} (h : ps.length ≠ 1) : Eb.stitchesOf ps = Eb.pairsOf ps := by
  match ps, h with
  | [], _ => rfl
  | [_], h => exact absurd rfl h
  | _ :: _ :: _, _ => rfl
section
variable {P : Program} {w : World} {K : PySem.W.Frag} {mg : Str → Option Value} {base : Heap}
theorem ok_sti {f fH : Addr} {fd fdH : FuncData} (F : Fun K "stitches_of" "stitches_of" sSti f fd) (FH : Fun K "holes_of" "holes_of" sHol fH fdH) (bH : Binds K fdH ["row"] []) (gH : mg "holes_of" = some (.ref fH)) (ml : mg "len" = none) (mr : mg "range" = none) : FnOk P w K mg base CX0 2 f fd ["row"] (spSti K) := by
  have GH : FnOk P w K mg base CX0 1 fH fdH ["row"] (spHol K) := ok_hol FH ml mr
  refine F.ok scSti (fun vs H Q E h => ?_) (fun cdv A outer s H vs Q E hr h => ?_)
  · obtain ⟨a, ns, m, rfl, _⟩ := h
    rfl
  · obtain ⟨r, ns, m, rfl, hR, hns, hm0, q0⟩ := h
    refine ⟨_, pss_cons (ps_set (i := 1) scSti.nd rfl (.inr rfl) (pe_call GH hr (by rfl) gH FH.kp bH .nil pass0 (pa_cons (pv 0) pa_nil)))
      (pss_cons (ps_if (pt_cmpR op_eq (pe_callB call_len_seq (by rfl) ml PySem.boot_len (pa_cons (pv 1) pa_nil)) pe_int (nomark _))
        (pss_one (ps_ret (pe_lst (pa_cons (pe_tup (pa_cons (pe_ix ix_list (pv 1) pe_int (fun _ _ => rfl)) (pa_cons (pe_ix ix_list (pv 1) pe_int (fun _ _ => rfl)) pa_nil))) pa_nil)))) pss_nil)
      (pss_one (ps_ret (pe_lc (own := [("k", 2)]) (g := gName 2) (tt := tYes) rfl scSti.nd (pi_range1 rfl mr (pa_cons (pe_op op_sub (pe_callB call_len_seq (by rfl) ml PySem.boot_len (pa_cons (pv 1) pa_nil)) pe_int) pa_nil))
        (blkOk_by (N := ["row", "holes", "k"]) (sc := defScope sSti) (by decide +kernel)) (fun _ _ _ _ _ => pg_name (i := 2) scSti.nd rfl (Or.inl rfl)) (fun _ _ _ _ _ => pts_nil)
        (fun _ _ _ _ _ => pe_tup (pa_cons (pe_ix (r := rIxL K) ix_list (pv 1) (pv 2) (fun _ _ => rfl)) (pa_cons (pe_ix (r := rIxL K) ix_list (pv 1) (pe_op op_add (pv 2) pe_int) (fun _ _ => rfl)) pa_nil))))))), ?_⟩
    refine ⟨_, rfl, r, ns, m, rfl, hR, hns, hm0, fun H1 a s0 n0 ⟨hs, hL, hlen, hat⟩ => ?_⟩
    have hS : SqL K H1 a (hs.map V.ref) := SqL.of hL
    have lp := pls_len m ns hns
    have hm : (pls ns).length ≤ 1000 := by omega
    revert q0 hlen hat
    generalize pls ns = ps at hm
    intro q0 hlen hat
    have q : ∀ H' D, Same H1 H' → H1 D = none → LsAt StAt H' D (Eb.stitchesOf ps) → Q (.ref D) H' := fun H' D e n => q0 H' D (s0.trans e) (s0.free n)
    refine ⟨_, rfl, a, _, rfl, .inl hS, rfl, _, rfl, ite2 (fun e => ?_) (fun e => ?_)⟩
    · have e0 : (((hs.map V.ref).length : Nat) : Int) = 1 := V.int.inj (of_decide_eq_true e)
      rw [List.length_map] at e0
      have e1 : ps.length = 1 := by omega
      obtain ⟨p, rfl⟩ : ∃ p, ps = [p] := List.length_eq_one_iff.mp e1
      obtain ⟨u, rfl⟩ : ∃ u, hs = [u] := List.length_eq_one_iff.mp (by omega)
      have hu : PlAt H1 u p := hat 0 u p rfl rfl
      refine ⟨_, rfl, a, _, _, .ref u, rfl, rfl, hS, atI_nat (j := 0) rfl, ?_⟩
      refine ⟨_, rfl, a, _, _, .ref u, rfl, rfl, hS, atI_nat (j := 0) rfl, ?_⟩
      refine ⟨(by show 2 ≤ sizeLine; decide), fun t ht => ?_⟩
      refine ⟨(by show 1 ≤ sizeLine; decide), fun D hD => ?_⟩
      have s1 : Same H1 (upd H1 t (.tup [.ref u, .ref u])) := same_upd ht
      have s2 : Same (upd H1 t (.tup [.ref u, .ref u])) (upd (upd H1 t (.tup [.ref u, .ref u])) D (.lst [.ref t])) := same_upd hD
      refine q _ D (s1.trans s2) (s1.free hD) ⟨[t], upd_same, rfl, fun i b x hb hx => ?_⟩
      match i, hb, hx with
      | 0, hb, hx =>
        have e2 : t = b := Option.some.inj hb
        have e3 : (p, p) = x := Option.some.inj hx
        subst e2 e3
        exact ⟨u, u, s2 _ _ upd_same, s2 _ _ (s1 _ _ hu), s2 _ _ (s1 _ _ hu)⟩
      | i + 1, hb, _ => simp at hb
    · have e1 : ps.length ≠ 1 := fun z => e (decide_eq_true (by
        show V.int (((hs.map V.ref).length : Nat) : Int) = V.int 1
        rw [List.length_map, hlen, z]
        rfl))
      rw [sti_pairs e1] at q
      refine ⟨_, rfl, a, _, rfl, .inl hS, _, _, rfl, rfl, ?_⟩
      rw [List.length_map, hlen]
      have en : (((ps.length : Nat) : Int) - 1).toNat = ps.length - 1 := by omega
      refine ⟨_, rfl, by omega, by omega, ?_⟩
      rw [en]
      refine fun D nD => lc_it (walk_range (lo := 0) (n := ps.length - 1)) (fun i H' => ∃ as, Grow StAt H1 H' D ((Eb.pairsOf ps).take i) as)
        ⟨[], Grow.start nD⟩ (fun i H' _ _ => trivial) ?_ ?_
      · rintro i x H2 H' hi ⟨as, G⟩ hy
        obtain ⟨e2, e3⟩ := hy
        subst e2
        have e3 : x = V.int (0 + (i : Nat)) := e3
        subst e3
        obtain ⟨x, y, hx, hy, hxy⟩ := pairs_at ps i hi
        have hS' := G.same.seq hS
        have hi2 : i + 1 < hs.length := by omega
        have hu : hs[i]? = some hs[i] := List.getElem?_eq_getElem (by omega)
        have hv : hs[i + 1]? = some hs[i + 1] := List.getElem?_eq_getElem hi2
        generalize hs[i] = u at hu
        generalize hs[i + 1] = v at hv
        refine ⟨rfl, ?_⟩
        refine ⟨_, rfl, _, rfl, a, _, _, .ref u, rfl, rfl, hS', at_of (j := i) (by omega) (ref_at hu), ?_⟩
        refine ⟨_, rfl, _, rfl, _, _, rfl, rfl, a, _, _, .ref v, rfl, rfl, hS', at_of (j := i + 1) (by omega) (ref_at hv), ?_⟩
        refine ⟨(by show 2 ≤ sizeLine; decide), fun t ht => ?_⟩
        have s2 : Same H' (upd H' t (.tup [.ref u, .ref v])) := same_upd ht
        refine ⟨as.map V.ref, s2 _ _ G.lst, ?_, as ++ [t], ?_⟩
        · rw [List.length_map, G.len, List.length_take, pairs_len]
          exact small1000 (by omega)
        · rw [take_more hxy]
          have hS2 : StAt (upd H' t (.tup [.ref u, .ref v])) t (x, y) := ⟨u, v, upd_same, s2 _ _ (G.same _ _ (hat i u x hu hx)), s2 _ _ (G.same _ _ (hat (i + 1) v y hv hy))⟩
          exact Grow.more (R := StAt) (a := t) (x := (x, y)) StAt.firmT.firm StAt.keeps G nD s2 ht hS2
      · rintro H' ⟨as, G⟩
        rw [List.take_of_length_le (by rw [pairs_len]; omega)] at G
        exact q H' D G.same nD G.done
end
/-! ### rows_touch -/
def okR (ps : List Pl) : Prop := ∀ p ∈ ps, okP p
theorem pairs_mem : ∀ {ps : List Pl} {s : Sti}, s ∈ Eb.pairsOf ps → s.1 ∈ ps ∧ s.2 ∈ ps
  | [], s, h => absurd h (by simp [Eb.pairsOf])
  | [_], s, h => absurd h (by simp [Eb.pairsOf])
  | p :: q :: r, s, h => by
    rcases List.mem_cons.mp (show s ∈ (p, q) :: Eb.pairsOf (q :: r) from h) with rfl | h
    · exact ⟨by simp, by simp⟩
    · obtain ⟨a, b⟩ := pairs_mem h
      exact ⟨List.mem_cons_of_mem _ a, List.mem_cons_of_mem _ b⟩
theorem okR.sti {ps : List Pl} (h : okR ps) {s : Sti} (hs : s ∈ Eb.stitchesOf ps) : okS s := by
  by_cases e : ps.length = 1
  · obtain ⟨p, rfl⟩ : ∃ p, ps = [p] := List.length_eq_one_iff.mp e
    have : s = (p, p) := by simpa [Eb.stitchesOf] using hs
    subst this
    exact ⟨h p (by simp), h p (by simp)⟩
  · rw [sti_pairs e] at hs
    obtain ⟨a, b⟩ := pairs_mem hs
    exact ⟨h _ a, h _ b⟩
theorem sti_len (ps : List Pl) : (Eb.stitchesOf ps).length ≤ ps.length := by
  by_cases e : ps.length = 1
  · obtain ⟨p, rfl⟩ : ∃ p, ps = [p] := List.length_eq_one_iff.mp e
    exact Nat.le_refl _
  · rw [sti_pairs e, pairs_len]
    omega
/-- the first so many bear none -/
def Quiet {A : Type} (f : A → Bool) (l : List A) (i : Nat) : Prop := ∀ j x, j < i → l[j]? = some x → f x = false
theorem Quiet.zero {A : Type} {f : A → Bool} {l : List A} : Quiet f l 0 := fun j _ h => absurd h (Nat.not_lt_zero j)
theorem Quiet.step {A : Type} {f : A → Bool} {l : List A} {i : Nat} {x : A} (q : Quiet f l i) (h : l[i]? = some x) (e : f x = false) : Quiet f l (i + 1) := fun j y hj hy => by
  by_cases c : j = i
  · subst c
    rw [h] at hy
    rw [← Option.some.inj hy]
    exact e
  · exact q j y (by omega) hy
theorem Quiet.none {A : Type} {f : A → Bool} {l : List A} (q : Quiet f l l.length) : l.any f = false := by
  rw [List.any_eq_false]
  intro x hx
  obtain ⟨j, hj, e⟩ := List.mem_iff_getElem.mp hx
  rw [q j x hj (by rw [List.getElem?_eq_getElem hj, e])]
  exact Bool.false_ne_true
theorem any_at {A : Type} {f : A → Bool} {l : List A} {i : Nat} {x : A} (h : l[i]? = some x) (e : f x = true) : l.any f = true :=
  List.any_eq_true.mpr ⟨x, List.mem_of_getElem? h, e⟩
theorem refs_at {as : List Addr} {i : Nat} {y : V} (hi : (as.map V.ref)[i]? = some y) : ∃ a, as[i]? = some a ∧ y = V.ref a := by
  rw [List.getElem?_map] at hi
  cases e : as[i]? with
  | none =>
    rw [e] at hi
    cases hi
  | some z =>
    rw [e] at hi
    exact ⟨z, rfl, (Option.some.inj hi).symm⟩
def spTch : Sp := fun vs H Q _ => ∃ (a b : Addr) (ss ts : List Sti), vs = [.ref a, .ref b] ∧ LsAt StAt H a ss ∧ LsAt StAt H b ts ∧ (∀ s ∈ ss, okS s) ∧ (∀ t ∈ ts, okS t) ∧ Q (.bl (ss.any fun s => ts.any fun t => Eb.stitchesTouch s t)) H
section
variable {P : Program} {w : World} {K : PySem.W.Frag} {mg : Str → Option Value} {base : Heap}
theorem ok_tch {f f2 fP fN fS : Addr} {fd fd2 fdP fdN fdS : FuncData} (F : Fun K "is_touching" "is_touching" sTch f fd)
    (F2 : Fun K "stitches_touch" "stitches_touch" sST f2 fd2) (b2 : Binds K fd2 ["one", "other"] []) (g2 : mg "stitches_touch" = some (.ref f2))
    (FN : Fun K "spans_meet" "spans_meet" sSpn fN fdN) (bN : Binds K fdN ["one", "other", "axis"] []) (gN : mg "spans_meet" = some (.ref fN)) (mx : mg "max" = none) (mn : mg "min" = none)
    (FP : Fun K "is_parted" "is_parted" sPar fP fdP) (bP : Binds K fdP ["stitch", "line"] []) (gP : mg "is_parted" = some (.ref fP))
    (FS : Fun K "side_of" "side_of" sSide fS fdS) (bS : Binds K fdS ["place", "line"] []) (gS : mg "side_of" = some (.ref fS)) : FnOk P w K mg base CX0 4 f fd ["one", "other"] spTch := by
  have G2 : FnOk P w K mg base CX0 3 f2 fd2 ["one", "other"] spST := ok_st F2 FN bN gN mx mn FP bP gP FS bS gS
  refine F.ok scTch (fun vs H Q E h => ?_) (fun cdv A outer s H vs Q E hr h => ?_)
  · obtain ⟨a, b, ps, qs, rfl, _⟩ := h
    rfl
  · obtain ⟨a, b, ss, ts, rfl, hA, hB, oA, oB, q⟩ := h
    refine ⟨_, pss_cons (ps_for PassesOwn.never rfl (pi_list (pv 0)) (pg_name (i := 2) scTch.nd rfl (Or.inl rfl))
        (pss_one (ps_for PassesOwn.never rfl (pi_list (pv 1)) (pg_name (i := 3) scTch.nd rfl (Or.inl rfl))
          (pss_one (ps_if (pt_val (pe_call G2 hr (by rfl) g2 F2.kp b2 .nil pass0 (pa_cons (pv 2) (pa_cons (pv 3) pa_nil)))) (pss_one (ps_ret pe_bl)) pss_nil)))))
      (pss_one (ps_ret pe_bl)), ?_⟩
    obtain ⟨us, hu, lu, au⟩ := hA
    obtain ⟨vs, hv, lv, av⟩ := hB
    refine ⟨_, rfl, a, rfl, ⟨_, SqL.of hu⟩, for_list (K := K) (a := a) (xs := us.map V.ref) (fun i σ H' => ∃ y z : Option V, σ = [some (.ref a), some (.ref b), y, z] ∧ H' = H ∧ Quiet (fun s => ts.any fun t => Eb.stitchesTouch s t) ss i)
      ⟨none, none, rfl, rfl, Quiet.zero⟩ (fun i σ H' _ ⟨_, _, _, e, _⟩ => e ▸ SqL.of hu) ?_ ?_⟩
    · rintro i y σ H' hi ⟨_, _, rfl, rfl, qu⟩
      obtain ⟨u, hui, rfl⟩ := refs_at hi
      have hlt : i < ss.length := lu ▸ (List.getElem?_eq_some_iff.mp hui).1
      have hsi : ss[i]? = some ss[i] := List.getElem?_eq_getElem hlt
      generalize ss[i] = s at hsi
      have hs : StAt H' u s := au i u s hui hsi
      have os : okS s := oA s (List.mem_of_getElem? hsi)
      refine ⟨_, rfl, b, rfl, ⟨_, SqL.of hv⟩, for_list (K := K) (a := b) (xs := vs.map V.ref) (fun j σ H3 => ∃ z : Option V, σ = [some (.ref a), some (.ref b), some (.ref u), z] ∧ H3 = H' ∧ Quiet (fun t => Eb.stitchesTouch s t) ts j)
        ⟨_, rfl, rfl, Quiet.zero⟩ (fun i σ H' _ ⟨_, _, e, _⟩ => e ▸ SqL.of hv) ?_ ?_⟩
      · rintro j y σ H3 hj ⟨_, rfl, rfl, qv⟩
        obtain ⟨v, hvj, rfl⟩ := refs_at hj
        have hlt2 : j < ts.length := lv ▸ (List.getElem?_eq_some_iff.mp hvj).1
        have htj : ts[j]? = some ts[j] := List.getElem?_eq_getElem hlt2
        generalize ts[j] = t at htj
        have ht : StAt H3 v t := av j v t hvj htj
        have ot : okS t := oB t (List.mem_of_getElem? htj)
        refine ⟨_, rfl, _, rfl, u, v, s, t, rfl, hs, ht, os, ot, _, rfl, ?_⟩
        rw [TG.touches_eq]
        cases ec : Eb.stitchesTouch s t with
        | true =>
          refine iteT ?_
          have er : (ss.any fun s => ts.any fun t => Eb.stitchesTouch s t) = true := any_at hsi (any_at htj ec)
          rw [er] at q
          exact q
        | false => exact iteF ⟨_, rfl, rfl, qv.step htj ec⟩
      · rintro σ H3 ⟨z, rfl, rfl, qv⟩
        rw [List.length_map, lv] at qv
        exact ⟨_, _, rfl, rfl, qu.step hsi qv.none⟩
    · rintro σ H3 ⟨_, _, rfl, rfl, qu⟩
      rw [List.length_map, lu] at qu
      have er : (ss.any fun s => ts.any fun t => Eb.stitchesTouch s t) = false := qu.none
      rw [er] at q
      exact q
end
end Tr

namespace Tr
open PySem PySem.Spec PyProof.Rows L2
open PySem.W (Codec)
/-! ### is_shape_count_refused -/
def cntS12 (n : Int) : Bool := decide (n < 1) || decide (12 < n)
def spCnt : Sp := fun vs H Q _ => ∃ n : Int, vs = [.int n] ∧ Q (.bl (cntS12 n)) H
section
variable {P : Program} {w : World} {K : PySem.W.Frag} {mg : Str → Option Value} {base : Heap}
theorem ok_cnt {f : Addr} {fd : FuncData} {tM : Tok} (F : Fun K "is_shape_count_refused" "is_shape_count_refused" sCnt f fd) (mS : mg "MOST_SHAPES" = some (.int 12 tM)) : FnOk P w K mg base CX0 1 f fd ["count"] spCnt := by
  refine F.ok scCnt (fun vs H Q E h => ?_) (fun cdv A outer s H vs Q E hr h => ?_)
  · obtain ⟨n, rfl, _⟩ := h
    rfl
  · obtain ⟨n, rfl, q⟩ := h
    refine ⟨_, pss_one (ps_ret (pe_or (pe_cmpR op_lt (pv 0) pe_int (nomark _)) (pe_one (pe_cmpR op_gt (pv 0) (pe_glob (v := .int 12) rfl mS ⟨_, rfl⟩) (nomark _))))), ?_⟩
    refine ⟨_, rfl, _, _, rfl, rfl, _, rfl, ?_⟩
    unfold cntS12 at q
    cases e1 : decide (n < 1) with
    | true =>
      rw [e1] at q
      exact iteT q
    | false =>
      rw [e1] at q
      exact iteF ⟨_, rfl, _, _, rfl, rfl, q⟩
end
end Tr

namespace Tr
open PySem PySem.Spec PyProof.Rows L2
open PySem.W (Codec)
/-! ### begins_shape, tail_of -/
def begS (ns : List Int) : Bool := decide (ns.headD 0 ≥ 0)
def spBeg (K : PySem.W.Frag) : Sp := fun vs H Q _ => ∃ (a : Addr) (ns : List Int), vs = [.ref a] ∧ SqL K H a (ns.map V.int) ∧ 1 ≤ ns.length ∧ Q (.bl (begS ns)) H
def spTail (K : PySem.W.Frag) : Sp := fun vs H Q _ => ∃ (a : Addr) (ns : List Int), vs = [.ref a] ∧ SqL K H a (ns.map V.int) ∧ 1 ≤ ns.length ∧ ∀ H' p, Same H H' → H p = none → NsAt H' p ns.tail → Q (.ref p) H'
theorem cut_tail (x : V) (xs : List V) : cutV (x :: xs) (some 1) none = xs := by
  have e1 : HT.sIx (x :: xs).length 0 (some 1) = 1 := by
    unfold HT.sIx
    simp
    try omega
  have e2 : HT.sIx (x :: xs).length (x :: xs).length none = (x :: xs).length := by
    unfold HT.sIx
    rfl
  unfold cutV
  rw [e1, e2]
  show List.take (xs.length + 1 - 1) xs = xs
  rw [Nat.add_sub_cancel, List.take_length]
section
variable {P : Program} {w : World} {K : PySem.W.Frag} {mg : Str → Option Value} {base : Heap}
theorem ok_beg {f : Addr} {fd : FuncData} (F : Fun K "begins_shape" "begins_shape" sBeg f fd) : FnOk P w K mg base CX0 1 f fd ["row"] (spBeg K) := by
  refine F.ok scBeg (fun vs H Q E h => ?_) (fun cdv A outer s H vs Q E hr h => ?_)
  · obtain ⟨a, ns, rfl, _⟩ := h
    rfl
  · obtain ⟨a, ns, rfl, hS, hl, q⟩ := h
    cases ns with
    | nil => simp at hl
    | cons n r =>
      exact ⟨_, pss_one (ps_ret (pe_cmpR op_ge (pe_ix ix_list (pv 0) pe_int (fun _ _ => rfl)) pe_int (nomark _))), _, rfl, a, _, _, .int n, rfl, rfl, hS, atI_nat (j := 0) rfl, _, _, rfl, rfl, q⟩
theorem ok_tail {f : Addr} {fd : FuncData} (F : Fun K "tail_of" "tail_of" sTail f fd) : FnOk P w K mg base CX0 1 f fd ["row"] (spTail K) := by
  refine F.ok scTail (fun vs H Q E h => ?_) (fun cdv A outer s H vs Q E hr h => ?_)
  · obtain ⟨a, ns, rfl, _⟩ := h
    rfl
  · obtain ⟨a, ns, rfl, hS, hl, q⟩ := h
    cases ns with
    | nil => simp at hl
    | cons n r =>
      refine ⟨_, pss_one (ps_ret (pe_slice sl_list (pv 0) (po_some pe_int) po_none)), _, rfl, _, rfl, a, _, rfl, hS, fun p np => ?_⟩
      rw [List.map_cons, cut_tail]
      exact q _ p (same_upd np) np upd_same
end
end Tr

namespace Tr
open PySem PySem.Spec PyProof.Rows L2
open PySem.W (Codec)
/-! ### is_drawing_refused -/
/-- a list of lists of whole numbers that is read -/
def RwAt (K : PySem.W.Frag) (H : Hp) (r : Addr) (rows : List (List Int)) : Prop :=
  ∃ as : List Addr, SqL K H r (as.map V.ref) ∧ as.length = rows.length ∧ ∀ (i : Nat) (a : Addr) (x : List Int), as[i]? = some a → rows[i]? = some x → SqL K H a (x.map V.int)
/-- what len asks, told without a block -/
def rLenK (K : PySem.W.Frag) : List V → Hp → (V → Hp → Prop) → Prop := fun xs H Q => ∃ p ys, xs = [V.ref p] ∧ (SqL K H p ys ∨ SqT K H p ys) ∧ Q (V.int ((ys.length : Nat) : Int)) H
def cntS (r : List Int) : Int := ((r.tail.length : Nat) : Int) / 2
def headsS (rows : List (List Int)) : Int := (((rows.filter begS).length : Nat) : Int)
def drefused (rows : List (List Int)) : Bool :=
  cntS12 (headsS rows) || ((rows.any (fun r => decide (cntS r < 1)) || decide ((rows.map cntS).sum > 300)) || !(rows.all fun r => r.tail.all inB))
def spDrw (K : PySem.W.Frag) : Sp := fun vs H Q _ => ∃ (a : Addr) (rows : List (List Int)), vs = [.ref a] ∧ RwAt K H a rows ∧ rows.length ≤ 1000 ∧ (∀ r ∈ rows, 1 ≤ r.length ∧ r.length ≤ 1000) ∧ ∀ H', Same H H' → Q (.bl (drefused rows)) H'
theorem min_any {ns : List Int} {m : Int} (hm : m ∈ ns) (hle : ∀ y, y ∈ ns → m ≤ y) : decide (m < 1) = ns.any fun n => decide (n < 1) := by
  rw [Bool.eq_iff_iff, decide_eq_true_eq, List.any_eq_true]
  constructor
  · intro h
    exact ⟨m, hm, decide_eq_true h⟩
  · rintro ⟨y, hy, h⟩
    have := hle y hy
    have := of_decide_eq_true h
    omega
section
variable {P : Program} {w : World} {K : PySem.W.Frag} {mg : Str → Option Value} {base : Heap}
theorem ok_drw {f fC fB fT fD : Addr} {fd fdC fdB fdT fdD : FuncData} {tF tM tT : Tok} (F : Fun K "is_drawing_refused" "is_drawing_refused" sDrw f fd)
    (FC : Fun K "is_shape_count_refused" "is_shape_count_refused" sCnt fC fdC) (bC : Binds K fdC ["count"] []) (gC : mg "is_shape_count_refused" = some (.ref fC))
    (FD : Fun K "begins_shape" "begins_shape" sBeg fD fdD) (bD : Binds K fdD ["row"] []) (gD : mg "begins_shape" = some (.ref fD))
    (FT : Fun K "tail_of" "tail_of" sTail fT fdT) (bT : Binds K fdT ["row"] []) (gT : mg "tail_of" = some (.ref fT))
    (FB : Fun K "is_in_bounds" "is_in_bounds" sBnd fB fdB) (bB : Binds K fdB ["row"] []) (gB : mg "is_in_bounds" = some (.ref fB))
    (ma : mg "all" = none) (mb : mg "abs" = none) (ml : mg "len" = none) (mn : mg "min" = none) (ms : mg "sum" = none)
    (mF : mg "FARTHEST" = some (.int 30000 tF)) (mS : mg "MOST_SHAPES" = some (.int 12 tM)) (mT : mg "MOST_TOGETHER" = some (.int 300 tT)) : FnOk P w K mg base CX0 2 f fd ["rows"] (spDrw K) := by
  have GB : FnOk P w K mg base CX0 1 fB fdB ["row"] (spBnd K) := ok_bnd FB ma mb mF
  have GT : FnOk P w K mg base CX0 1 fT fdT ["row"] (spTail K) := ok_tail FT
  have GD : FnOk P w K mg base CX0 1 fD fdD ["row"] (spBeg K) := ok_beg FD
  have GC : FnOk P w K mg base CX0 1 fC fdC ["count"] spCnt := ok_cnt FC mS
  refine F.ok scDrw (fun vs H Q E h => ?_) (fun cdv A outer s H vs Q E hr h => ?_)
  · obtain ⟨a, rows, rfl, _⟩ := h
    rfl
  · obtain ⟨a, rows, rfl, ⟨as, hS, hlen, hat⟩, hr1, hr2, q⟩ := h
    refine ⟨_, pss_cons (ps_if (pt_val (pe_call GC hr (by rfl) gC FC.kp bC .nil pass0 (pa_cons (pe_callB call_len_seq (by rfl) ml PySem.boot_len (pa_cons
        (pe_lc (own := [("row", 1)]) (g := gName 1) rfl scDrw.nd (pi_list (pv 0)) (blkOk_by (N := ["rows", "row", "tails", "counts", "tail"]) (sc := defScope sDrw) (by decide +kernel)) (fun _ _ _ _ _ => pg_name (i := 1) scDrw.nd rfl (Or.inl rfl))
          (fun _ _ _ _ _ => pts_one (pt_val (pe_call GD hr (by rfl) gD FD.kp bD .nil pass0 (pa_cons (pv 1) pa_nil)))) (fun _ _ _ _ _ => pv 1)) pa_nil)) pa_nil))) (pss_one (ps_ret pe_bl)) pss_nil)
      (pss_cons (ps_setLc (i := 2) (own := [("row", 1)]) (g := gName 1) (tt := tYes) rfl scDrw.nd rfl rfl (sw_true rfl rfl rfl (by decide +kernel)) (pi_list (pv 0)) (blkOk_by (N := ["rows", "row", "tails", "counts", "tail"]) (sc := defScope sDrw) (by decide +kernel)) (fun _ _ _ _ _ => pg_name (i := 1) scDrw.nd rfl (Or.inl rfl)) (fun _ _ _ _ _ => pts_nil)
          (fun _ _ _ _ _ => pe_call GT hr (by rfl) gT FT.kp bT .nil pass0 (pa_cons (pv 1) pa_nil)))
      (pss_cons (ps_setLc (i := 3) (own := [("tail", 4)]) (g := gName 4) (tt := tYes) rfl scDrw.nd rfl rfl (sw_true rfl rfl rfl (by decide +kernel)) (pi_list (pv 2)) (blkOk_by (N := ["rows", "row", "tails", "counts", "tail"]) (sc := defScope sDrw) (by decide +kernel)) (fun _ _ _ _ _ => pg_name (i := 4) scDrw.nd rfl (Or.inl rfl)) (fun _ _ _ _ _ => pts_nil)
          (fun _ _ _ _ _ => pe_op op_fdiv (pe_callB (r := rLenK K) call_len_seq (by rfl) ml PySem.boot_len (pa_cons (pv 4) pa_nil)) pe_int))
      (pss_cons (ps_if (PW.pt (pw_or (pt_cmpR op_lt (pe_callB (cr_min rfl) (by rfl) mn (by decide +kernel) (pa_cons (pv 3) pa_nil)) pe_int (nomark _)) (pw_or1 (pt_cmpR op_gt (pe_callB (cr_sum rfl) (by rfl) ms (by decide +kernel) (pa_cons (pv 3) pa_nil)) (pe_glob (v := .int 300) rfl mT ⟨_, rfl⟩) (nomark _))))) (pss_one (ps_ret pe_bl)) pss_nil)
      (pss_one (ps_ret (pe_not (pe_callB (cr_all rfl) (by rfl) ma (by decide +kernel) (pa_cons
        (pe_lc (own := [("tail", 4)]) (g := gName 4) (tt := tYes) rfl scDrw.nd (pi_list (pv 2)) (blkOk_by (N := ["rows", "row", "tails", "counts", "tail"]) (sc := defScope sDrw) (by decide +kernel)) (fun _ _ _ _ _ => pg_name (i := 4) scDrw.nd rfl (Or.inl rfl))
          (fun _ _ _ _ _ => pts_nil) (fun _ _ _ _ _ => pe_call GB hr (by rfl) gB FB.kp bB .nil pass0 (pa_cons (pv 4) pa_nil))) pa_nil)))))))), ?_⟩
    have row_at : ∀ {i : Nat} {u : Addr}, as[i]? = some u → ∃ x, rows[i]? = some x ∧ SqL K H u (x.map V.int) ∧ 1 ≤ x.length ∧ x.length ≤ 1000 := fun {i u} hu => by
      have hlt : i < rows.length := hlen ▸ (List.getElem?_eq_some_iff.mp hu).1
      have hx : rows[i]? = some rows[i] := List.getElem?_eq_getElem hlt
      exact ⟨_, hx, hat i u _ hu hx, hr2 _ (List.mem_of_getElem? hx)⟩
    refine ⟨_, rfl, a, rfl, ⟨_, hS⟩, fun D1 n1 => lc_list (K := K) (a := a) (xs := as.map V.ref) (fun i H' => Same H H' ∧ ∃ acc : List V, H' D1 = some (.lst acc) ∧ acc.length = ((rows.take i).filter begS).length)
      ⟨same_upd n1, [], upd_same, by simp⟩ (fun i H' _ h => h.1.seq hS) ?_ ?_⟩
    · rintro i y H' hi ⟨sm, acc, hD, hl⟩
      obtain ⟨u, hu, rfl⟩ := refs_at hi
      obtain ⟨x, hx, hX, l1, l2⟩ := row_at hu
      refine ⟨rfl, ?_⟩
      refine ⟨_, rfl, u, x, rfl, sm.seq hX, l1, _, rfl, ?_⟩
      cases e : begS x with
      | true =>
        refine ⟨_, rfl, acc, hD, ?_, ?_, acc ++ [V.ref u], upd_same, ?_⟩
        · rw [hl]
          have := List.length_filter_le begS (rows.take i)
          rw [List.length_take] at this
          exact small1000 (by omega)
        · intro b o hb
          rw [upd_ne (ne_of_none hb n1)]
          exact sm _ _ hb
        · rw [take_more hx, List.filter_append, List.length_append, List.length_append, hl]
          simp [e]
      | false =>
        refine ⟨sm, acc, hD, ?_⟩
        rw [take_more hx, List.filter_append, List.length_append, hl]
        simp [e]
    · rintro H1 ⟨s1, acc, hD, hl⟩
      rw [List.length_map, hlen, List.take_length] at hl
      refine ⟨D1, acc, rfl, .inl (SqL.of hD), ?_⟩
      have eh : ((acc.length : Nat) : Int) = headsS rows := by
        unfold headsS
        rw [hl]
      rw [eh]
      unfold drefused at q
      refine ⟨_, rfl, _, rfl, ?_⟩
      cases e1 : cntS12 (headsS rows) with
      | true =>
        rw [e1] at q
        exact iteT (q H1 s1)
      | false =>
      rw [e1] at q
      refine iteF ?_
      refine ⟨_, rfl, a, rfl, ⟨_, s1.seq hS⟩, fun D2 n2 => lc_list (K := K) (a := a) (xs := as.map V.ref) (fun i H' => ∃ ts, Grow NsAt H1 H' D2 ((rows.map List.tail).take i) ts) ⟨[], Grow.start n2⟩ (fun i H' _ ⟨_, G⟩ => (s1.trans G.same).seq hS) ?_ ?_⟩
      · rintro i y H' hi ⟨ts, G⟩
        obtain ⟨u, hu, rfl⟩ := refs_at hi
        obtain ⟨x, hx, hX, l1, l2⟩ := row_at hu
        refine ⟨rfl, ?_⟩
        refine ⟨_, rfl, u, x, rfl, (s1.trans G.same).seq hX, l1, fun H2 p s2 np hp => ?_⟩
        refine ⟨ts.map V.ref, s2 _ _ G.lst, ?_, ts ++ [p], ?_⟩
        · rw [List.length_map, G.len, List.length_take, List.length_map]
          exact small1000 (by omega)
        · have hx' : (rows.map List.tail)[i]? = some x.tail := by
            rw [List.getElem?_map, hx]
            rfl
          rw [take_more hx']
          exact Grow.more (R := NsAt) (a := p) (x := x.tail) NsAt.firm NsAt.keeps G n2 s2 np hp
      · rintro H2 ⟨ts, G⟩
        have el : (as.map V.ref).length = (rows.map List.tail).length := by rw [List.length_map, List.length_map, hlen]
        rw [el, List.take_length] at G
        have hT : SqL K H2 D2 (ts.map V.ref) := SqL.of G.lst
        have tl : ts.length = rows.length := by rw [G.len, List.length_map]
        have tail_at : ∀ {i : Nat} {u : Addr}, ts[i]? = some u → ∃ x, rows[i]? = some x ∧ NsAt H2 u x.tail ∧ 1 ≤ x.length ∧ x.length ≤ 1000 := fun {i u} hu => by
          have hlt : i < rows.length := tl ▸ (List.getElem?_eq_some_iff.mp hu).1
          have hx : rows[i]? = some rows[i] := List.getElem?_eq_getElem hlt
          exact ⟨_, hx, (G.at_ i u _ hu (by rw [List.getElem?_map, hx]; rfl)).2, hr2 _ (List.mem_of_getElem? hx)⟩
        refine ⟨_, rfl, D2, rfl, ⟨_, hT⟩, fun D3 n3 => lc_list (K := K) (a := D2) (xs := ts.map V.ref) (fun i H' => Same H2 H' ∧ H' D3 = some (.lst (((rows.take i).map cntS).map V.int))) ⟨same_upd n3, upd_same⟩ (fun i H' _ h => h.1.seq hT) ?_ ?_⟩
        · rintro i y H' hi ⟨sm, hD⟩
          obtain ⟨u, hu, rfl⟩ := refs_at hi
          obtain ⟨x, hx, hX, l1, l2⟩ := tail_at hu
          refine ⟨rfl, ?_⟩
          refine ⟨_, rfl, u, _, rfl, .inl (sm.seq (SqL.of hX)), _, _, rfl, rfl, ⟨by decide, by decide⟩, ?_⟩
          rw [List.length_map]
          refine ⟨_, hD, ?_, fun b o e => ?_, ?_⟩
          · rw [List.length_map, List.length_map, List.length_take]
            exact small1000 (by omega)
          · rw [upd_ne (ne_of_none e n3)]
            exact sm _ _ e
          · rw [upd_same, take_more hx, List.map_append, List.map_append]
            rfl
        · rintro H3 ⟨s3, hD3⟩
          rw [List.length_map, tl, List.take_length] at hD3
          have hpos : 0 < (rows.map cntS).length := by
            rw [List.length_map]
            cases rows with
            | nil => exact absurd e1 (by decide)
            | cons => simp
          have s13 := (s1.trans G.same).trans s3
          refine ⟨_, rfl, D3, _, rfl, SqL.of hD3, hpos, fun m hm hle => ⟨_, _, rfl, rfl, _, rfl, ?_⟩⟩
          rw [min_any hm hle, List.any_map]
          show if (rows.any fun r => decide (cntS r < 1)) = true then _ else _
          cases e3 : rows.any fun r => decide (cntS r < 1) with
          | true =>
            rw [e3] at q
            exact iteT (iteT (q H3 s13))
          | false =>
          rw [e3] at q
          refine iteF ⟨_, rfl, D3, _, rfl, SqL.of hD3, _, _, rfl, rfl, _, rfl, ?_⟩
          cases e4 : decide ((rows.map cntS).sum > 300) with
          | true =>
            rw [e4] at q
            exact iteT (q H3 s13)
          | false =>
          rw [e4] at q
          refine iteF ?_
          have hT3 : SqL K H3 D2 (ts.map V.ref) := s3.seq hT
          refine ⟨_, rfl, D2, rfl, ⟨_, hT3⟩, fun D4 n4 => lc_list (K := K) (a := D2) (xs := ts.map V.ref) (fun i H' => Same H3 H' ∧ H' D4 = some (.lst (((rows.take i).map fun r => r.tail.all inB).map V.bl))) ⟨same_upd n4, upd_same⟩ (fun i H' _ h => h.1.seq hT3) ?_ ?_⟩
          · rintro i y H' hi ⟨sm, hD⟩
            obtain ⟨u, hu, rfl⟩ := refs_at hi
            obtain ⟨x, hx, hX, l1, l2⟩ := tail_at hu
            refine ⟨rfl, ?_⟩
            refine ⟨_, rfl, u, x.tail, rfl, sm.seq (s3.seq (SqL.of hX)), by rw [List.length_tail]; omega, fun H5 s5 => ?_⟩
            refine ⟨_, s5 _ _ hD, ?_, fun b o e => ?_, ?_⟩
            · rw [List.length_map, List.length_map, List.length_take]
              exact small1000 (by omega)
            · rw [upd_ne (ne_of_none e n4)]
              exact s5 _ _ (sm _ _ e)
            · rw [upd_same, take_more hx, List.map_append, List.map_append]
              rfl
          · rintro H5 ⟨s5, hD5⟩
            rw [List.length_map, tl, List.take_length] at hD5
            refine ⟨D4, _, rfl, SqL.of hD5, _, rfl, ?_⟩
            rw [all_id]
            exact q H5 (s13.trans s5)
end
end Tr

namespace Tr
open PySem PySem.Spec PyProof.Rows L2
open PySem.W (Codec)
/-! ### shapes_of -/
def addS (acc : List (List Sti)) (s : List Sti) : List (List Sti) := acc.dropLast ++ [acc.getLastD [] ++ s]
def stepS (acc : List (List Sti)) (r : List Int) : List (List Sti) := addS (if begS r = true then acc ++ [[]] else acc) (Eb.stitchesOf (pls r.tail))
def shpS (rows : List (List Int)) : List (List Sti) := rows.foldl stepS []
/-- a list L of new lists of stitches, no two of them one -/
structure Shs (H0 H : Hp) (L : Addr) (ss : List Addr) (sh : List (List Sti)) : Prop where
  lst : H L = some (.lst (ss.map V.ref))
  same : Same H0 H
  len : ss.length = sh.length
  new : ∀ a ∈ ss, H0 a = none ∧ a ≠ L
  nd : ss.Nodup
  at_ : ∀ (i : Nat) (a : Addr) (x : List Sti), ss[i]? = some a → sh[i]? = some x → LsAt StAt H a x
theorem Shs.there {H0 H : Hp} {L : Addr} {ss : List Addr} {sh : List (List Sti)} (S : Shs H0 H L ss sh) {a : Addr} (h : a ∈ ss) : ∃ o, H a = some o := by
  obtain ⟨i, hi⟩ := List.getElem?_of_mem h
  have h1 := (List.getElem?_eq_some_iff.mp hi).1
  obtain ⟨as, h2, _⟩ := S.at_ i a (sh[i]'(by rw [← S.len]; exact h1)) hi (List.getElem?_eq_getElem _)
  exact ⟨_, h2⟩
theorem Shs.push {H0 H : Hp} {L p : Addr} {ss : List Addr} {sh : List (List Sti)} (S : Shs H0 H L ss sh) (nL : H0 L = none) (np : H p = none) :
    Shs H0 (upd (upd H p (.lst [])) L (.lst (ss.map V.ref ++ [V.ref p]))) L (ss ++ [p]) (sh ++ [[]]) := by
  have nn : p ≠ L := (ne_of_none S.lst np).symm
  have sp : Same H (upd H p (.lst [])) := same_upd np
  have hL := sp _ _ S.lst
  have n0 : H0 p = none := S.same.free np
  have nm : p ∉ ss := fun h => by
    obtain ⟨o, e⟩ := S.there h
    rw [np] at e
    cases e
  refine ⟨?_, fun b o e => ?_, by simp [S.len], fun a ha => ?_, ?_, fun i a x ha hx => ?_⟩
  · rw [upd_same, List.map_append]
    rfl
  · rw [upd_ne (ne_of_none e nL)]
    exact sp _ _ (S.same _ _ e)
  · rcases List.mem_append.mp ha with h | h
    · exact S.new a h
    · rw [List.mem_singleton.mp h]
      exact ⟨n0, nn⟩
  · rw [List.nodup_append]
    refine ⟨S.nd, by simp, fun a ha b hb e => nm ?_⟩
    rw [← List.mem_singleton.mp hb, ← e]
    exact ha
  · by_cases hi : i < ss.length
    · rw [List.getElem?_append_left hi] at ha
      rw [List.getElem?_append_left (by rw [← S.len]; exact hi)] at hx
      exact LsAt.firm (R := StAt) StAt.firmT hL (S.new a (List.mem_of_getElem? ha)).2 (LsAt.keeps (R := StAt) StAt.keeps sp (S.at_ i a x ha hx))
    · have e1 : i = ss.length := by
        have := (List.getElem?_eq_some_iff.mp ha).1
        simp at this
        omega
      subst e1
      rw [List.getElem?_append_right (Nat.le_refl _), Nat.sub_self] at ha
      rw [S.len, List.getElem?_append_right (Nat.le_refl _), Nat.sub_self] at hx
      have e2 : p = a := Option.some.inj ha
      have e3 : [] = x := Option.some.inj hx
      subst e2 e3
      refine ⟨[], ?_, rfl, fun i a x h => by simp at h⟩
      rw [upd_ne nn]
      exact upd_same
theorem Shs.ext {H0 H H' : Hp} {L a : Addr} {ss as bs : List Addr} {sh : List (List Sti)} {x sts : List Sti} (S : Shs H0 H L (ss ++ [a]) (sh ++ [x])) (s : Same H H')
    (ha : H' a = some (.lst (as.map V.ref))) (la : as.length = x.length) (ta : ∀ (i : Nat) (b : Addr) (y : Sti), as[i]? = some b → x[i]? = some y → StAt H' b y)
    (lb : bs.length = sts.length) (tb : ∀ (i : Nat) (b : Addr) (y : Sti), bs[i]? = some b → sts[i]? = some y → StAt H' b y) :
    Shs H0 (upd H' a (.lst (as.map V.ref ++ bs.map V.ref))) L (ss ++ [a]) (sh ++ [x ++ sts]) := by
  have ma : a ∈ ss ++ [a] := by simp
  obtain ⟨n0, nn⟩ := S.new a ma
  have ll : ss.length = sh.length := by
    have := S.len
    simp at this
    exact this
  refine ⟨?_, fun b o e => ?_, by simp [ll], S.new, S.nd, fun i b y hb hy => ?_⟩
  · rw [upd_ne nn.symm]
    exact s _ _ S.lst
  · rw [upd_ne (ne_of_none e n0)]
    exact s _ _ (S.same _ _ e)
  · by_cases hi : i < ss.length
    · have hb' := hb
      rw [List.getElem?_append_left hi] at hb
      rw [List.getElem?_append_left (by rw [← ll]; exact hi)] at hy
      have hy2 : (sh ++ [x])[i]? = some y := by
        rw [List.getElem?_append_left (by rw [← ll]; exact hi)]
        exact hy
      have nb : b ≠ a := by
        intro e
        have nd := S.nd
        rw [List.nodup_append] at nd
        exact nd.2.2 b (List.mem_of_getElem? hb) a (by simp) e
      exact LsAt.firm (R := StAt) StAt.firmT ha nb (LsAt.keeps (R := StAt) StAt.keeps s (S.at_ i b y hb' hy2))
    · have e1 : i = ss.length := by
        have := (List.getElem?_eq_some_iff.mp hb).1
        simp at this
        omega
      subst e1
      rw [List.getElem?_append_right (Nat.le_refl _), Nat.sub_self] at hb
      rw [ll, List.getElem?_append_right (Nat.le_refl _), Nat.sub_self] at hy
      have e2 : a = b := Option.some.inj hb
      have e3 : x ++ sts = y := Option.some.inj hy
      subst e2 e3
      refine ⟨as ++ bs, by rw [upd_same, List.map_append], by simp [la, lb], fun j c z hc hz => StAt.firmT ha ?_⟩
      by_cases hj : j < as.length
      · rw [List.getElem?_append_left hj] at hc
        rw [List.getElem?_append_left (by rw [← la]; exact hj)] at hz
        exact ta j c z hc hz
      · rw [List.getElem?_append_right (by omega)] at hc
        rw [List.getElem?_append_right (by omega), ← la] at hz
        exact tb _ c z hc hz
end Tr

namespace Tr
open PySem PySem.Spec PyProof.Rows L2
open PySem.W (Codec)
theorem stepS_ne (acc : List (List Sti)) (r : List Int) : stepS acc r ≠ [] := by
  unfold stepS addS
  simp
theorem stepS_len (acc : List (List Sti)) (r : List Int) : (stepS acc r).length ≤ acc.length + 1 := by
  unfold stepS addS
  split <;> simp <;> omega
theorem stepS_all {acc : List (List Sti)} {r : List Int} {B C : Nat} (h : ∀ x ∈ acc, x.length ≤ B) (hs : (Eb.stitchesOf (pls r.tail)).length ≤ C) {x : List Sti} (hx : x ∈ stepS acc r) : x.length ≤ B + C := by
  unfold stepS addS at hx
  have key : ∀ l : List (List Sti), (∀ x ∈ l, x.length ≤ B) → ∀ x ∈ l.dropLast ++ [l.getLastD [] ++ Eb.stitchesOf (pls r.tail)], x.length ≤ B + C := by
    intro l hl x hx
    rcases List.mem_append.mp hx with h1 | h1
    · have := hl x (List.dropLast_subset _ h1)
      omega
    · rw [List.mem_singleton.mp h1, List.length_append]
      have : (l.getLastD []).length ≤ B := by
        rw [List.getLastD_eq_getLast?]
        cases e : l.getLast? with
        | none => simp
        | some y => exact hl y (List.mem_of_getLast? e)
      omega
  refine key _ ?_ x hx
  split
  · intro y hy
    rcases List.mem_append.mp hy with h1 | h1
    · exact h y h1
    · rw [List.mem_singleton.mp h1]
      simp
  · exact h
theorem stepS_beg {acc : List (List Sti)} {r : List Int} (e : begS r = true) : stepS acc r = acc ++ [[] ++ Eb.stitchesOf (pls r.tail)] := by
  unfold stepS addS
  rw [if_pos e]
  simp
theorem stepS_on {acc : List (List Sti)} {x : List Sti} {r : List Int} (e : begS r = false) : stepS (acc ++ [x]) r = acc ++ [x ++ Eb.stitchesOf (pls r.tail)] := by
  unfold stepS addS
  rw [if_neg (by rw [e]; exact Bool.false_ne_true)]
  simp
def spShp (K : PySem.W.Frag) : Sp := fun vs H Q _ => ∃ (a : Addr) (rows : List (List Int)), vs = [.ref a] ∧ RwAt K H a rows ∧ rows.length ≤ 1000 ∧ (∀ r ∈ rows, (∃ m, r.length = 2 * m + 1) ∧ r.length ≤ 1000) ∧ (∀ r, rows[0]? = some r → begS r = true) ∧
  ∀ H' D, Same H H' → LsAt (LsAt StAt) H' D (shpS rows) → Q (.ref D) H'
section
variable {P : Program} {w : World} {K : PySem.W.Frag} {mg : Str → Option Value} {base : Heap}
theorem ok_shp {f fT fD fG fH : Addr} {fd fdT fdD fdG fdH : FuncData} (F : Fun K "shapes_of" "shapes_of" sShp f fd)
    (FD : Fun K "begins_shape" "begins_shape" sBeg fD fdD) (bD : Binds K fdD ["row"] []) (gD : mg "begins_shape" = some (.ref fD))
    (FT : Fun K "tail_of" "tail_of" sTail fT fdT) (bT : Binds K fdT ["row"] []) (gT : mg "tail_of" = some (.ref fT))
    (FG : Fun K "stitches_of" "stitches_of" sSti fG fdG) (bG : Binds K fdG ["row"] []) (gG : mg "stitches_of" = some (.ref fG))
    (FH : Fun K "holes_of" "holes_of" sHol fH fdH) (bH : Binds K fdH ["row"] []) (gH : mg "holes_of" = some (.ref fH)) (ml : mg "len" = none) (mr : mg "range" = none) : FnOk P w K mg base CX0 3 f fd ["rows"] (spShp K) := by
  have GT : FnOk P w K mg base CX0 1 fT fdT ["row"] (spTail K) := ok_tail FT
  have GD : FnOk P w K mg base CX0 1 fD fdD ["row"] (spBeg K) := ok_beg FD
  have GG : FnOk P w K mg base CX0 2 fG fdG ["row"] (spSti K) := ok_sti FG FH bH gH ml mr
  refine F.ok scShp (fun vs H Q E h => ?_) (fun cdv A outer s H vs Q E hr h => ?_)
  · obtain ⟨a, rows, rfl, _⟩ := h
    rfl
  · obtain ⟨a, rows, rfl, ⟨as, hS, hlen, hat⟩, hr1, hr2, hfst, q⟩ := h
    have hr1' : Room 1 _ := hr.mono (by decide)
    refine ⟨_, pss_cons (ps_set (i := 1) scShp.nd rfl (.inl rfl) (pe_lst pa_nil))
      (pss_cons (ps_for PassesOwn.never rfl (pi_list (pv 0)) (pg_name (i := 2) scShp.nd rfl (Or.inl rfl))
        (pss_cons (ps_if (pt_val (pe_call GD hr1' (by rfl) gD FD.kp bD .nil pass0 (pa_cons (pv 2) pa_nil)))
            (pss_one (ps_expr (pe_bm PySem.F.plainAttrs_list PySem.F.slot_list_append PySem.F.type_list_append mt_append (pv 1) (pa_cons (pe_lst pa_nil) pa_nil)))) pss_nil)
        (pss_one (ps_expr (pe_bm PySem.F.plainAttrs_list PySem.F.slot_list_extend PySem.F.type_list_extend mt_extend (pe_ix ix_list (pv 1) (pe_un un_neg pe_int) (fun _ _ => rfl))
          (pa_cons (pe_call GG hr (by rfl) gG FG.kp bG .nil pass0 (pa_cons (pe_call GT hr1' (by rfl) gT FT.kp bT .nil pass0 (pa_cons (pv 2) pa_nil)) pa_nil)) pa_nil))))))
      (pss_one (ps_ret (pv 1)))), ?_⟩
    refine ⟨(by show 0 ≤ sizeLine; decide), fun L nL => ?_⟩
    have sL : Same H (upd H L (.lst [])) := same_upd nL
    refine ⟨_, rfl, a, rfl, ⟨_, sL.seq hS⟩, for_list (K := K) (a := a) (xs := as.map V.ref) (fun i σ H' => ∃ (y : Option V) (ss : List Addr), σ = [some (.ref a), some (.ref L), y] ∧ Shs H H' L ss ((rows.take i).foldl stepS []) ∧ (i = 0 ∨ (rows.take i).foldl stepS [] ≠ []) ∧ ((rows.take i).foldl stepS []).length ≤ i ∧ ∀ x ∈ (rows.take i).foldl stepS [], x.length ≤ i * 500)
      ⟨none, [], rfl, ⟨upd_same, sL, rfl, fun a h => by simp at h, List.nodup_nil, fun i a x h => by simp at h⟩, .inl rfl, Nat.le_refl _, fun x h => by simp at h⟩ (fun i σ H' _ ⟨_, _, _, S, _⟩ => S.same.seq hS) ?_ ?_⟩
    · rintro i y σ H' hi ⟨y0, ss, rfl, S, hne, hlen2, hbnd⟩
      obtain ⟨u, hu, rfl⟩ := refs_at hi
      have hlt : i < rows.length := hlen ▸ (List.getElem?_eq_some_iff.mp hu).1
      have hx : rows[i]? = some rows[i] := List.getElem?_eq_getElem hlt
      generalize rows[i] = r at hx
      have hX : SqL K H u (r.map V.int) := hat i u r hu hx
      obtain ⟨⟨m, hm0⟩, l2⟩ := hr2 r (List.mem_of_getElem? hx)
      have hm : r.tail.length = 2 * m := by rw [List.length_tail]; omega
      refine ⟨_, rfl, u, r, rfl, S.same.seq hX, by omega, _, rfl, ?_⟩
      cases e : begS r with
      | true =>
        refine iteT ⟨_, rfl, .inl ⟨rfl, _, SqL.of S.lst⟩, (by show 0 ≤ sizeLine; decide), fun p np => ⟨L, _, _, rfl, rfl, same_upd np _ _ S.lst, ?_, ?_⟩⟩
        · rw [List.length_map, S.len]
          exact small1000 (by omega)
        · have S1 := S.push nL np
          have est : stepS ((rows.take i).foldl stepS []) r = (rows.take i).foldl stepS [] ++ [[] ++ Eb.stitchesOf (pls r.tail)] := stepS_beg e
          generalize upd (upd H' p (.lst [])) L (.lst (ss.map V.ref ++ [V.ref p])) = H1 at S1
          obtain ⟨ss0, a0, sh0, x0, S1, est, hbx⟩ : ∃ ss0 a0 sh0 x0, Shs H H1 L (ss0 ++ [a0]) (sh0 ++ [x0]) ∧ stepS ((rows.take i).foldl stepS []) r = sh0 ++ [x0 ++ Eb.stitchesOf (pls r.tail)] ∧ x0.length ≤ i * 500 := ⟨ss, p, _, [], S1, est, Nat.zero_le _⟩
          obtain ⟨as0, ha0, la0, ta0⟩ := S1.at_ ss0.length a0 x0 (by simp) (by rw [show ss0.length = sh0.length by have := S1.len; simpa using this]; simp)
          have hL1 : SqL K H1 L (ss0.map V.ref ++ [V.ref a0]) := SqL.of (by rw [S1.lst, List.map_append]; rfl)
          refine ⟨_, rfl, _, rfl, L, _, _, .ref a0, rfl, rfl, hL1, atI_last _ _, .inl ⟨rfl, _, SqL.of ha0⟩, ?_⟩
          refine ⟨_, rfl, u, r, rfl, S1.same.seq hX, by omega, fun H2 p s2 np hp => ?_⟩
          refine ⟨p, r.tail, m, rfl, SqL.of hp, hm, by omega, fun H3 D s3 nD hD => ?_⟩
          obtain ⟨bs, hb, lb, tb⟩ := hD
          have s23 := s2.trans s3
          have hls : (Eb.stitchesOf (pls r.tail)).length ≤ 500 := by
            have e1 := sti_len (pls r.tail)
            rw [pls_len m r.tail hm] at e1
            omega
          have hx0 : x0.length ≤ i * 500 := hbx
          refine ⟨a0, D, _, _, rfl, rfl, s23 _ _ ha0, hb, ?_, ?_⟩
          · rw [List.length_map, List.length_map, la0, lb]
            exact line_of (by omega)
          · have S2 := Shs.ext S1 s23 (s23 _ _ ha0) la0 (fun i b y h1 h2 => StAt.keeps s23 (ta0 i b y h1 h2)) lb tb
            rw [← est] at S2
            refine ⟨_, ss0 ++ [a0], rfl, ?_, .inr (by rw [take_more hx, List.foldl_append]; exact stepS_ne _ _), ?_, ?_⟩
            · rw [take_more hx, List.foldl_append]
              exact S2
            · rw [take_more hx, List.foldl_append]
              have := stepS_len ((rows.take i).foldl stepS []) r
              show (stepS _ r).length ≤ i + 1
              omega
            · rw [take_more hx, List.foldl_append]
              intro x h
              have := stepS_all hbnd hls (show x ∈ stepS _ r from h)
              omega
      | false =>
        have hne' : (rows.take i).foldl stepS [] ≠ [] := by
          rcases hne with e0 | e0
          · subst e0
            rw [hfst r hx] at e
            cases e
          · exact e0
        refine iteF ?_
        have eL : (rows.take i).foldl stepS [] = ((rows.take i).foldl stepS []).dropLast ++ [((rows.take i).foldl stepS []).getLast hne'] := (List.dropLast_concat_getLast hne').symm
        have hss : ss ≠ [] := fun z => hne' (by
          have := S.len
          rw [z] at this
          exact List.length_eq_zero_iff.mp this.symm)
        have eS : ss = ss.dropLast ++ [ss.getLast hss] := (List.dropLast_concat_getLast hss).symm
        obtain ⟨ss0, a0, sh0, x0, e1, e2⟩ : ∃ ss0 a0 sh0 x0, ss = ss0 ++ [a0] ∧ (rows.take i).foldl stepS [] = sh0 ++ [x0] := ⟨_, _, _, _, eS, eL⟩
        have S1 : Shs H H' L (ss0 ++ [a0]) (sh0 ++ [x0]) := by
          rw [← e1, ← e2]
          exact S
        have est : stepS ((rows.take i).foldl stepS []) r = sh0 ++ [x0 ++ Eb.stitchesOf (pls r.tail)] := by
          rw [e2]
          exact stepS_on e
        have hbx : x0.length ≤ i * 500 := hbnd x0 (by rw [e2]; simp)
        clear S e1 eS eL
        generalize H' = H1 at S1
        obtain ⟨as0, ha0, la0, ta0⟩ := S1.at_ ss0.length a0 x0 (by simp) (by rw [show ss0.length = sh0.length by have := S1.len; simpa using this]; simp)
        have hL1 : SqL K H1 L (ss0.map V.ref ++ [V.ref a0]) := SqL.of (by rw [S1.lst, List.map_append]; rfl)
        refine ⟨_, rfl, _, rfl, L, _, _, .ref a0, rfl, rfl, hL1, atI_last _ _, .inl ⟨rfl, _, SqL.of ha0⟩, ?_⟩
        refine ⟨_, rfl, u, r, rfl, S1.same.seq hX, by omega, fun H2 p s2 np hp => ?_⟩
        refine ⟨p, r.tail, m, rfl, SqL.of hp, hm, by omega, fun H3 D s3 nD hD => ?_⟩
        obtain ⟨bs, hb, lb, tb⟩ := hD
        have s23 := s2.trans s3
        have hls : (Eb.stitchesOf (pls r.tail)).length ≤ 500 := by
          have e1 := sti_len (pls r.tail)
          rw [pls_len m r.tail hm] at e1
          omega
        have hx0 : x0.length ≤ i * 500 := hbx
        refine ⟨a0, D, _, _, rfl, rfl, s23 _ _ ha0, hb, ?_, ?_⟩
        · rw [List.length_map, List.length_map, la0, lb]
          exact line_of (by omega)
        · have S2 := Shs.ext S1 s23 (s23 _ _ ha0) la0 (fun i b y h1 h2 => StAt.keeps s23 (ta0 i b y h1 h2)) lb tb
          rw [← est] at S2
          refine ⟨_, ss0 ++ [a0], rfl, ?_, .inr (by rw [take_more hx, List.foldl_append]; exact stepS_ne _ _), ?_, ?_⟩
          · rw [take_more hx, List.foldl_append]
            exact S2
          · rw [take_more hx, List.foldl_append]
            have := stepS_len ((rows.take i).foldl stepS []) r
            show (stepS _ r).length ≤ i + 1
            omega
          · rw [take_more hx, List.foldl_append]
            intro x h
            have := stepS_all hbnd hls (show x ∈ stepS _ r from h)
            omega
    · rintro σ H' ⟨y0, ss, rfl, S, _⟩
      rw [List.length_map, hlen, List.take_length] at S
      exact ⟨_, rfl, q H' L S.same ⟨ss, S.lst, S.len, S.at_⟩⟩
end
end Tr

namespace Tr
open PySem PySem.Spec PyProof.Rows L2
open PySem.W (Codec)
/-! ### ones_before, number_of -/
def tchS (ss ts : List Sti) : Bool := ss.any fun s => ts.any fun t => Eb.stitchesTouch s t
def onesS (sh : List (List Sti)) (j : Nat) : List Nat := (List.range j).filter fun i => tchS (sh.getD i []) (sh.getD j [])
def natsI (l : List Nat) : List Int := l.map fun (i : Nat) => (i : Int)
def numS (l : List Nat) : Nat := (l.map fun i => 2 ^ i).sum
def okSh (sh : List (List Sti)) : Prop := ∀ x ∈ sh, ∀ s ∈ x, okS s
def spOnes (K : PySem.W.Frag) : Sp := fun vs H Q _ => ∃ (j : Nat) (L : Addr) (sh : List (List Sti)), vs = [.int (j : Nat), .ref L] ∧ LsAt (LsAt StAt) H L sh ∧ j < sh.length ∧ sh.length ≤ 1000 ∧ okSh sh ∧
  ∀ H' D, Same H H' → H D = none → NsAt H' D (natsI (onesS sh j)) → Q (.ref D) H'
def spNum (K : PySem.W.Frag) : Sp := fun vs H Q _ => ∃ (a : Addr) (l : List Nat), vs = [.ref a] ∧ SqL K H a ((natsI l).map V.int) ∧ (∀ i ∈ l, i ≤ 1000) ∧ Q (.int ((numS l : Nat) : Int)) H
theorem ls_at {A : Type} {R : Hp → Addr → A → Prop} {H : Hp} {as : List Addr} {xs : List A} (hl : as.length = xs.length) (hat : ∀ (i : Nat) (a : Addr) (x : A), as[i]? = some a → xs[i]? = some x → R H a x) {i : Nat} (h : i < xs.length) : ∃ (a : Addr) (x : A), as[i]? = some a ∧ xs[i]? = some x ∧ R H a x :=
  have h1 : as[i]? = some (as[i]'(by omega)) := List.getElem?_eq_getElem _
  have h2 : xs[i]? = some xs[i] := List.getElem?_eq_getElem h
  ⟨_, _, h1, h2, hat _ _ _ h1 h2⟩
theorem getD_at {A : Type} {l : List A} {i : Nat} {x d : A} (h : l[i]? = some x) : l.getD i d = x := by
  rw [List.getD_eq_getElem?_getD, h]
  rfl
section
variable {P : Program} {w : World} {K : PySem.W.Frag} {mg : Str → Option Value} {base : Heap}
theorem ok_ones {f f4 f2 fP fN fS : Addr} {fd fd4 fd2 fdP fdN fdS : FuncData} (F : Fun K "ones_before" "ones_before" sOnes f fd)
    (F4 : Fun K "is_touching" "is_touching" sTch f4 fd4) (b4 : Binds K fd4 ["one", "other"] []) (g4 : mg "is_touching" = some (.ref f4))
    (F2 : Fun K "stitches_touch" "stitches_touch" sST f2 fd2) (b2 : Binds K fd2 ["one", "other"] []) (g2 : mg "stitches_touch" = some (.ref f2))
    (FN : Fun K "spans_meet" "spans_meet" sSpn fN fdN) (bN : Binds K fdN ["one", "other", "axis"] []) (gN : mg "spans_meet" = some (.ref fN)) (mx : mg "max" = none) (mn : mg "min" = none)
    (FP : Fun K "is_parted" "is_parted" sPar fP fdP) (bP : Binds K fdP ["stitch", "line"] []) (gP : mg "is_parted" = some (.ref fP))
    (FS : Fun K "side_of" "side_of" sSide fS fdS) (bS : Binds K fdS ["place", "line"] []) (gS : mg "side_of" = some (.ref fS)) (mr : mg "range" = none) : FnOk P w K mg base CX0 5 f fd ["j", "shapes"] (spOnes K) := by
  have G4 : FnOk P w K mg base CX0 4 f4 fd4 ["one", "other"] spTch := ok_tch F4 F2 b2 g2 FN bN gN mx mn FP bP gP FS bS gS
  refine F.ok scOnes (fun vs H Q E h => ?_) (fun cdv A outer s H vs Q E hr h => ?_)
  · obtain ⟨j, L, sh, rfl, _⟩ := h
    rfl
  · obtain ⟨j, L, sh, rfl, ⟨as, hL, hlen, hat⟩, hj, hn, ok, q⟩ := h
    refine ⟨_, pss_one (ps_ret (pe_lc (own := [("i", 2)]) (g := gName 2) rfl scOnes.nd (pi_range1 rfl mr (pa_cons (pv 0) pa_nil)) (blkOk_by (N := ["j", "shapes", "i"]) (sc := defScope sOnes) (by decide +kernel)) (fun _ _ _ _ _ => pg_name (i := 2) scOnes.nd rfl (Or.inl rfl))
      (fun _ _ _ _ _ => pts_one (pt_val (pe_call G4 hr (by rfl) g4 F4.kp b4 .nil pass0 (pa_cons (pe_ix (r := rIxL K) ix_list (pv 1) (pv 2) (fun _ _ => rfl)) (pa_cons (pe_ix (r := rIxL K) ix_list (pv 1) (pv 0) (fun _ _ => rfl)) pa_nil))))) (fun _ _ _ _ _ => pv 2))), ?_⟩
    refine ⟨_, rfl, _, rfl, by omega, by omega, ?_⟩
    rw [show ((j : Nat) : Int).toNat = j by omega]
    refine fun D nD => lc_it (walk_range (lo := 0) (n := j)) (fun i H' => Same H H' ∧ NsAt H' D (natsI ((List.range i).filter fun i => tchS (sh.getD i []) (sh.getD j []))))
      ⟨same_upd nD, upd_same⟩ (fun i H' _ _ => trivial) ?_ ?_
    · rintro i x H1 H' hi ⟨sm, hD⟩ hy
      obtain ⟨e1, e2⟩ := hy
      subst e1
      have e2 : x = V.int (0 + (i : Nat)) := e2
      subst e2
      obtain ⟨u, xu, hu1, hu2, hu3⟩ := ls_at hlen hat (i := i) (by omega)
      obtain ⟨v, xv, hv1, hv2, hv3⟩ := ls_at hlen hat hj
      have hS' := sm.seq (SqL.of (K := K) hL)
      refine ⟨rfl, ?_⟩
      refine ⟨_, rfl, _, rfl, L, _, _, .ref u, rfl, rfl, hS', at_of (j := i) (by omega) (ref_at hu1), ?_⟩
      refine ⟨_, rfl, _, rfl, L, _, _, .ref v, rfl, rfl, hS', at_of (j := j) (by omega) (ref_at hv1), ?_⟩
      refine ⟨u, v, xu, xv, rfl, LsAt.keeps (R := StAt) StAt.keeps sm hu3, LsAt.keeps (R := StAt) StAt.keeps sm hv3, ok xu (List.mem_of_getElem? hu2), ok xv (List.mem_of_getElem? hv2), _, rfl, ?_⟩
      have et : (xu.any fun s => xv.any fun t => Eb.stitchesTouch s t) = tchS (sh.getD i []) (sh.getD j []) := by
        rw [getD_at hu2, getD_at hv2]
        rfl
      rw [et, List.range_succ, List.filter_append]
      cases e : tchS (sh.getD i []) (sh.getD j []) with
      | true =>
        have ef : [i].filter (fun i => tchS (sh.getD i []) (sh.getD j [])) = [i] := by rw [List.filter_cons, if_pos e, List.filter_nil]
        rw [ef]
        refine ⟨_, rfl, _, hD, ?_, fun b o hb => ?_, ?_⟩
        · rw [List.length_map, natsI, List.length_map]
          have := List.length_filter_le (fun i => tchS (sh.getD i []) (sh.getD j [])) (List.range i)
          rw [List.length_range] at this
          exact small1000 (by omega)
        · rw [upd_ne (ne_of_none hb nD)]
          exact sm _ _ hb
        · show upd H' D _ D = _
          rw [upd_same]
          unfold natsI
          rw [List.map_append, List.map_append, Int.zero_add]
          rfl
      | false =>
        have ef : [i].filter (fun i => tchS (sh.getD i []) (sh.getD j [])) = [] := by rw [List.filter_cons, if_neg (by rw [e]; exact Bool.false_ne_true), List.filter_nil]
        rw [ef, List.append_nil]
        exact ⟨sm, hD⟩
    · rintro H' ⟨sm, hD⟩
      exact q H' D sm nD hD
theorem ok_num {f : Addr} {fd : FuncData} (F : Fun K "number_of" "number_of" sNum f fd) : FnOk P w K mg base CX0 1 f fd ["before"] (spNum K) := by
  refine F.ok scNum (fun vs H Q E h => ?_) (fun cdv A outer s H vs Q E hr h => ?_)
  · obtain ⟨a, l, rfl, _⟩ := h
    rfl
  · obtain ⟨a, l, rfl, hS, hl, q⟩ := h
    refine ⟨_, pss_cons (ps_set (i := 1) scNum.nd rfl (.inl rfl) pe_int)
      (pss_cons (ps_for PassesOwn.never rfl (pi_list (pv 0)) (pg_name (i := 2) scNum.nd rfl (Or.inl rfl))
        (pss_one (ps_aug (i := 1) scNum.nd rfl (.inl rfl) (pe_op op_shl pe_int (pv 2)) ip_add)))
      (pss_one (ps_ret (pv 1)))), ?_⟩
    refine ⟨_, rfl, a, rfl, ⟨_, hS⟩, for_list (K := K) (a := a) (xs := (natsI l).map V.int) (fun i σ H' => ∃ y : Option V, σ = [some (.ref a), some (.int ((numS (l.take i) : Nat) : Int)), y] ∧ H' = H)
      ⟨none, rfl, rfl⟩ (fun i σ H' _ ⟨_, _, e⟩ => e ▸ hS) ?_ ?_⟩
    · rintro i y σ H' hi ⟨_, rfl, rfl⟩
      obtain ⟨z, hz, rfl⟩ := int_at hi
      obtain ⟨k, hk, rfl⟩ : ∃ k, l[i]? = some k ∧ z = ((k : Nat) : Int) := by
        rw [natsI, List.getElem?_map] at hz
        cases e : l[i]? with
        | none => rw [e] at hz; cases hz
        | some k => rw [e] at hz; exact ⟨k, rfl, (Option.some.inj hz).symm⟩
      have hk1 := hl k (List.mem_of_getElem? hk)
      refine ⟨_, rfl, _, rfl, _, _, rfl, rfl, ⟨by omega, by omega, by decide⟩, _, _, rfl, rfl, some (.int ((k : Nat) : Int)), ?_, rfl⟩
      have e : (((numS (l.take i) : Nat) : Int) + 1 * 2 ^ ((k : Nat) : Int).toNat) = ((numS (l.take (i + 1)) : Nat) : Int) := by
        unfold numS
        rw [take_more hk, List.map_append, List.sum_append, Int.toNat_natCast]
        simp
      show [_, some (V.int (((numS (l.take i) : Nat) : Int) + 1 * 2 ^ ((k : Nat) : Int).toNat)), _] = _
      rw [e]
    · rintro σ H' ⟨_, rfl, rfl⟩
      rw [List.length_map, natsI, List.length_map, List.take_length]
      exact ⟨_, rfl, q⟩
end
end Tr

namespace Tr
open PySem PySem.Spec PyProof.Rows L2
open PySem.W (Codec)
/-! ### places, as the specification reads them -/
theorem places_pls : ∀ (m : Nat) (ns : List Int), ns.length = 2 * m → YqstfaNeutral.places? ns = some (pls ns)
  | 0, ns, h => by
    cases ns with
    | nil => rfl
    | cons x r => simp at h
  | m + 1, ns, h => by
    match ns, h with
    | x :: y :: r, h =>
      show (YqstfaNeutral.places? r).map (fun l => (⟨x, y⟩ : Pl) :: l) = some (⟨x, y⟩ :: pls r)
      rw [places_pls m r (by simp at h; omega)]
      rfl
theorem places_even : ∀ (n : Nat) (ns : List Int), ns.length ≤ n → (YqstfaNeutral.places? ns).isSome = true → ∃ m, ns.length = 2 * m
  | _, [], _, _ => ⟨0, rfl⟩
  | _, [x], _, h => by simp [YqstfaNeutral.places?] at h
  | 0, x :: y :: r, hn, _ => absurd hn (by simp)
  | n + 1, x :: y :: r, hn, h => by
    have h2 : ((YqstfaNeutral.places? r).map (fun l => (⟨x, y⟩ : Pl) :: l)).isSome = true := h
    rw [Option.isSome_map] at h2
    obtain ⟨m, e⟩ := places_even n r (by simp at hn; omega) h2
    exact ⟨m + 1, by simp [e]; omega⟩
theorem inB_iff (n : Int) : inB n = true ↔ -30000 ≤ n ∧ n ≤ 30000 := by
  unfold inB
  rw [decide_eq_true_eq]
  split <;> omega
theorem ok_iff (p : Pl) : Eb.Place.ok p = true ↔ okP p := by
  unfold Eb.Place.ok Eb.within okP Eb.EDGE
  simp only [Bool.and_eq_true, decide_eq_true_eq]
theorem ok_inB (p : Pl) : Eb.Place.ok p = (inB p.x && inB p.y) := by
  rw [Bool.eq_iff_iff, ok_iff, Bool.and_eq_true, inB_iff, inB_iff]
  rfl
theorem pls_all : ∀ (m : Nat) (ns : List Int), ns.length = 2 * m → (pls ns).all Eb.Place.ok = ns.all inB
  | 0, ns, h => by
    cases ns with
    | nil => rfl
    | cons x r => simp at h
  | m + 1, ns, h => by
    match ns, h with
    | x :: y :: r, h =>
      show (Eb.Place.ok ⟨x, y⟩ && (pls r).all Eb.Place.ok) = (inB x && (inB y && r.all inB))
      rw [pls_all m r (by simp at h; omega), ok_inB, Bool.and_assoc]
end Tr

namespace Tr
open PySem PySem.Spec PyProof.Rows L2
open PySem.W (Codec)
/-! ### what is due of over -/
abbrev Shp := Eb.Shape
def stOf (s : Shp) : List Sti := s.rows.flatMap Eb.stitchesOf
def shS (l : List Shp) : List (List Sti) := l.map stOf
theorem any_any_swap {A B C : Type} (xs : List A) (g : A → List B) (ys : List C) (p : B → C → Bool) :
    ((xs.flatMap g).any fun s => ys.any fun t => p s t) = xs.any fun x => (g x).any fun s => ys.any fun t => p s t := List.any_flatMap ..
theorem touches_st (a b : Shp) : Eb.Shape.touches a b = tchS (stOf a) (stOf b) := by
  unfold Eb.Shape.touches tchS stOf Eb.rowsTouch
  rw [Bool.eq_iff_iff]
  simp only [List.any_eq_true, List.mem_flatMap]
  constructor
  · rintro ⟨x, hx, y, hy, s, hs, t, ht, e⟩
    exact ⟨s, ⟨x, hx, hs⟩, t, ⟨y, hy, ht⟩, e⟩
  · rintro ⟨s, ⟨x, hx, hs⟩, t, ⟨y, hy, ht⟩, e⟩
    exact ⟨x, hx, y, hy, s, hs, t, ht, e⟩
/-- what the rest's shapes make of the last shape so far -/
def joinS (acc : List (List Sti)) (x : List Sti) : List Shp → List (List Sti)
  | [] => acc ++ [x]
  | s :: z => if s.thread = 256 then acc ++ [x ++ stOf s] ++ shS z else acc ++ [x] ++ shS (s :: z)
/-- what shapes? tells of rows -/
structure ShOk (rows : List (List Int)) (l : List Shp) : Prop where
  odd : ∀ r ∈ rows, ∃ m, r.length = 2 * m + 1
  fold : ∀ (acc : List (List Sti)) (x : List Sti), rows.foldl stepS (acc ++ [x]) = joinS acc x l
  rows_ : l.flatMap Eb.Shape.rows = rows.map fun r => pls r.tail
  len : l.length = (rows.filter begS).length + (match l with | [] => 0 | s :: _ => if s.thread = 256 then 1 else 0)
  some_ : ∀ s ∈ l, s.rows ≠ []
  first : ∀ r, rows[0]? = some r → ∃ s z, l = s :: z ∧ (s.thread = 256 ↔ begS r = false)
theorem pl_some {p : List Int} {lp : List Pl} (h : YqstfaNeutral.places? p = some lp) : ∃ m, p.length = 2 * m ∧ lp = pls p := by
  obtain ⟨m, e⟩ := places_even _ p (Nat.le_refl _) (by rw [h]; rfl)
  refine ⟨m, e, ?_⟩
  rw [places_pls m p e] at h
  exact (Option.some.inj h).symm
theorem beg_neg {p : List Int} : begS (-1 :: p) = false := rfl
theorem beg_pos {t : Int} {p : List Int} (h : 0 ≤ t) : begS (t :: p) = true := decide_eq_true h
theorem shapes_ok : ∀ (rows : List (List Int)) (l : List Shp), (∀ r ∈ rows, r.headD 0 ≤ 255) → YqstfaNeutral.shapes? rows = some l → ShOk rows l
  | [], l, _, h => by
    have e : [] = l := Option.some.inj h
    subst e
    exact ⟨by simp, fun acc x => rfl, rfl, rfl, by simp, by simp⟩
  | [] :: _, _, _, h => by cases h
  | (t :: p) :: rows, l, hh, h => by
    have h : ((YqstfaNeutral.places? p).bind fun l => (YqstfaNeutral.shapes? rows).bind fun s => if t = -1 then (match s with
      | [] => some [(⟨256, [l]⟩ : Shp)]
      | x :: z => some (if x.thread = 256 then (⟨256, l :: x.rows⟩ : Shp) :: z else ⟨256, [l]⟩ :: x :: z)) else (YqstfaNeutral.nat? t).bind fun n => match s with
      | x :: z => some (if x.thread = 256 then (⟨n, l :: x.rows⟩ : Shp) :: z else ⟨n, [l]⟩ :: x :: z)
      | [] => some [(⟨n, [l]⟩ : Shp)]) = some l := h
    cases ep : YqstfaNeutral.places? p with
    | none => rw [ep] at h; cases h
    | some lp =>
    rw [ep] at h
    cases es : YqstfaNeutral.shapes? rows with
    | none => rw [es] at h; cases h
    | some s =>
    rw [es] at h
    obtain ⟨m, hm, rfl⟩ := pl_some ep
    have ih := shapes_ok rows s (fun r hr => hh r (List.mem_cons_of_mem _ hr)) es
    have hodd : ∀ r ∈ (t :: p) :: rows, ∃ m, r.length = 2 * m + 1 := by
      intro r hr
      rcases List.mem_cons.mp hr with rfl | hr
      · exact ⟨m, by simp [hm]⟩
      · exact ih.odd r hr
    simp only [Option.bind_some] at h
    by_cases ht : t = -1
    · subst ht
      rw [if_pos rfl] at h
      have hst : ∀ acc x, stepS (acc ++ [x]) (-1 :: p) = acc ++ [x ++ Eb.stitchesOf (pls p)] := fun acc x => stepS_on beg_neg
      have hfl : (((-1 :: p) :: rows).filter begS).length = (rows.filter begS).length := by rw [List.filter_cons, if_neg (by rw [beg_neg]; exact Bool.false_ne_true)]
      have hfo : ∀ acc x, ((-1 :: p) :: rows).foldl stepS (acc ++ [x]) = joinS acc (x ++ Eb.stitchesOf (pls p)) s := fun acc x => by rw [List.foldl_cons, hst]; exact ih.fold _ _
      cases s with
      | nil =>
        have e := Option.some.inj h
        subst e
        refine ⟨hodd, fun acc x => ?_, ?_, ?_, by simp, fun r hr => ?_⟩
        · rw [hfo]
          simp [joinS, stOf, shS]
        · have := ih.rows_
          rw [List.map_cons, ← this]
          simp
        · have h2 : 0 = (rows.filter begS).length + 0 := ih.len
          rw [hfl]
          show 1 = _ + (if (256 : Nat) = 256 then 1 else 0)
          rw [if_pos rfl]
          omega
        · have e := Option.some.inj hr
          subst e
          exact ⟨_, _, rfl, by simp [beg_neg]⟩
      | cons y z =>
        have e := Option.some.inj h
        by_cases hy : y.thread = 256
        · rw [if_pos hy] at e
          subst e
          refine ⟨hodd, fun acc x => ?_, ?_, ?_, ?_, fun r hr => ?_⟩
          · rw [hfo]
            simp [joinS, hy, stOf, shS]
          · have := ih.rows_
            rw [List.map_cons, ← this]
            simp
          · have h2 : z.length + 1 = (rows.filter begS).length + (if y.thread = 256 then 1 else 0) := ih.len
            rw [if_pos hy] at h2
            rw [hfl]
            show z.length + 1 = _ + (if (256 : Nat) = 256 then 1 else 0)
            rw [if_pos rfl]
            omega
          · intro s hs
            rcases List.mem_cons.mp hs with rfl | hs
            · simp
            · exact ih.some_ s (List.mem_cons_of_mem _ hs)
          · have e := Option.some.inj hr
            subst e
            exact ⟨_, _, rfl, by simp [beg_neg]⟩
        · rw [if_neg hy] at e
          subst e
          refine ⟨hodd, fun acc x => ?_, ?_, ?_, ?_, fun r hr => ?_⟩
          · rw [hfo]
            simp [joinS, hy, stOf, shS]
          · have := ih.rows_
            rw [List.map_cons, ← this]
            simp
          · have h2 : z.length + 1 = (rows.filter begS).length + (if y.thread = 256 then 1 else 0) := ih.len
            rw [if_neg hy] at h2
            rw [hfl]
            show z.length + 1 + 1 = _ + (if (256 : Nat) = 256 then 1 else 0)
            rw [if_pos rfl]
            omega
          · intro s hs
            rcases List.mem_cons.mp hs with rfl | hs
            · simp
            · exact ih.some_ s hs
          · have e := Option.some.inj hr
            subst e
            exact ⟨_, _, rfl, by simp [beg_neg]⟩
    · rw [if_neg ht] at h
      by_cases h0 : 0 ≤ t
      · have en : YqstfaNeutral.nat? t = some t.toNat := if_pos h0
        rw [en] at h
        have hn : t.toNat ≠ 256 := by
          have := hh (t :: p) (by simp)
          simp at this
          omega
        generalize t.toNat = n at h hn
        simp only [Option.bind_some] at h
        have hb : begS (t :: p) = true := beg_pos h0
        have hst : ∀ acc x, stepS (acc ++ [x]) (t :: p) = (acc ++ [x]) ++ [Eb.stitchesOf (pls p)] := fun acc x => by rw [stepS_beg hb]; rfl
        have hfl : (((t :: p) :: rows).filter begS).length = (rows.filter begS).length + 1 := by rw [List.filter_cons, if_pos hb]; rfl
        have hfo : ∀ acc x, ((t :: p) :: rows).foldl stepS (acc ++ [x]) = joinS (acc ++ [x]) (Eb.stitchesOf (pls p)) s := fun acc x => by rw [List.foldl_cons, hst]; exact ih.fold _ _
        cases s with
        | nil =>
          have e := Option.some.inj h
          subst e
          refine ⟨hodd, fun acc x => ?_, ?_, ?_, by simp, fun r hr => ?_⟩
          · rw [hfo]
            simp [joinS, stOf, shS, hn]
          · have := ih.rows_
            rw [List.map_cons, ← this]
            simp
          · have h2 : 0 = (rows.filter begS).length + 0 := ih.len
            rw [hfl]
            show 1 = _ + (if n = 256 then 1 else 0)
            rw [if_neg hn]
            omega
          · have e := Option.some.inj hr
            subst e
            exact ⟨_, _, rfl, by simp [hb, hn]⟩
        | cons y z =>
          have e := Option.some.inj h
          by_cases hy : y.thread = 256
          · rw [if_pos hy] at e
            subst e
            refine ⟨hodd, fun acc x => ?_, ?_, ?_, ?_, fun r hr => ?_⟩
            · rw [hfo]
              simp [joinS, hy, hn, stOf, shS]
            · have := ih.rows_
              rw [List.map_cons, ← this]
              simp
            · have h2 : z.length + 1 = (rows.filter begS).length + (if y.thread = 256 then 1 else 0) := ih.len
              rw [if_pos hy] at h2
              rw [hfl]
              show z.length + 1 = _ + (if n = 256 then 1 else 0)
              rw [if_neg hn]
              omega
            · intro s hs
              rcases List.mem_cons.mp hs with rfl | hs
              · simp
              · exact ih.some_ s (List.mem_cons_of_mem _ hs)
            · have e := Option.some.inj hr
              subst e
              exact ⟨_, _, rfl, by simp [hb, hn]⟩
          · rw [if_neg hy] at e
            subst e
            refine ⟨hodd, fun acc x => ?_, ?_, ?_, ?_, fun r hr => ?_⟩
            · rw [hfo]
              simp [joinS, hy, hn, stOf, shS]
            · have := ih.rows_
              rw [List.map_cons, ← this]
              simp
            · have h2 : z.length + 1 = (rows.filter begS).length + (if y.thread = 256 then 1 else 0) := ih.len
              rw [if_neg hy] at h2
              rw [hfl]
              show z.length + 1 + 1 = _ + (if n = 256 then 1 else 0)
              rw [if_neg hn]
              omega
            · intro s hs
              rcases List.mem_cons.mp hs with rfl | hs
              · simp
              · exact ih.some_ s hs
            · have e := Option.some.inj hr
              subst e
              exact ⟨_, _, rfl, by simp [hb, hn]⟩
      · have en : YqstfaNeutral.nat? t = none := if_neg h0
        rw [en] at h
        cases h
end Tr

namespace Tr
open PySem PySem.Spec PyProof.Rows L2
open PySem.W (Codec)
/-! ### the bits of a number -/
def bitsTo (f : Nat → Bool) (j : Nat) : Nat := numS ((List.range j).filter f)
theorem bitsTo_zero (f : Nat → Bool) : bitsTo f 0 = 0 := rfl
theorem bitsTo_succ (f : Nat → Bool) (j : Nat) : bitsTo f (j + 1) = bitsTo f j + if f j = true then 2 ^ j else 0 := by
  unfold bitsTo numS
  rw [List.range_succ, List.filter_append, List.map_append, List.sum_append]
  congr 1
  cases e : f j with
  | true => simp [e]
  | false => simp [e]
theorem bitsTo_lt (f : Nat → Bool) : ∀ j, bitsTo f j < 2 ^ j
  | 0 => by rw [bitsTo_zero]; decide
  | j + 1 => by
    have := bitsTo_lt f j
    rw [bitsTo_succ, Nat.pow_succ]
    split <;> omega
theorem bitsTo_bit (f : Nat → Bool) : ∀ (j i : Nat), (bitsTo f j).testBit i = (decide (i < j) && f i)
  | 0, i => by simp [bitsTo_zero]
  | j + 1, i => by
    have lt := bitsTo_lt f j
    rw [bitsTo_succ]
    by_cases e : f j = true
    · rw [if_pos e, Nat.add_comm]
      rcases Nat.lt_trichotomy i j with h | h | h
      · rw [Nat.testBit_two_pow_add_gt h, bitsTo_bit f j i]
        simp [h, show i < j + 1 by omega]
      · subst h
        rw [Nat.testBit_two_pow_add_eq, Nat.testBit_lt_two_pow lt]
        simp [e]
      · have l2 : 2 ^ j + bitsTo f j < 2 ^ i := by
          have : 2 ^ (j + 1) ≤ 2 ^ i := Nat.pow_le_pow_right (by decide) h
          rw [Nat.pow_succ] at this
          omega
        rw [Nat.testBit_lt_two_pow l2]
        simp [show ¬ i < j + 1 by omega]
    · rw [if_neg e, Nat.add_zero, bitsTo_bit f j i]
      by_cases h : i = j
      · subst h
        simp [e]
      · simp [show (i < j + 1) ↔ (i < j) by omega]
theorem foldr_sum (l : List Nat) : l.foldr (fun (a b : Nat) => a + b) 0 = l.sum := rfl
theorem take_bits (Pd : Shp → Bool) : ∀ (l : List Shp) (m : Nat), m ≤ l.length →
    (((l.take m).zipIdx.map fun (x : Shp × Nat) => if Pd x.1 = true then 2 ^ x.2 else 0)).sum = bitsTo (fun i => (l[i]?.map Pd).getD false) m
  | l, 0, _ => by simp [bitsTo_zero]
  | l, m + 1, h => by
    have hm : l[m]? = some l[m] := List.getElem?_eq_getElem (by omega)
    rw [take_more hm, List.zipIdx_append, List.map_append, List.sum_append, take_bits Pd l m (by omega), bitsTo_succ]
    congr 1
    simp [hm, show min m l.length = m by omega]
theorem sh_at {l : List Shp} {i : Nat} {s : Shp} (h : l[i]? = some s) : (shS l).getD i [] = stOf s := by
  apply getD_at
  unfold shS
  rw [List.getElem?_map, h]
  rfl
theorem ones_bits (sh : List (List Sti)) (j : Nat) : numS (onesS sh j) = bitsTo (fun i => tchS (sh.getD i []) (sh.getD j [])) j := rfl
theorem bitsTo_congr {f g : Nat → Bool} {j : Nat} (h : ∀ i, i < j → f i = g i) : bitsTo f j = bitsTo g j := by
  unfold bitsTo
  rw [List.filter_congr fun i hi => h i (List.mem_range.mp hi)]
theorem over_at (l : List Shp) (j : Nat) (h : j < l.length) : Eb.overOf l j = numS (onesS (shS l) j) := by
  have hj : l[j]? = some l[j] := List.getElem?_eq_getElem h
  unfold Eb.overOf
  rw [hj]
  show ((l.take j).zipIdx.map fun (x : Shp × Nat) => if x.1.touches l[j] = true then 2 ^ x.2 else 0).foldr _ 0 = _
  rw [foldr_sum, take_bits (fun s => s.touches l[j]) l j (by omega), ones_bits]
  refine bitsTo_congr fun i hi => ?_
  have hi2 : l[i]? = some l[i] := List.getElem?_eq_getElem (by omega)
  rw [hi2, sh_at hi2, sh_at hj]
  exact touches_st _ _
theorem sh_len (l : List Shp) : (shS l).length = l.length := List.length_map ..
theorem over_all (l : List Shp) : Eb.over l = (List.range l.length).map fun j => numS (onesS (shS l) j) := by
  unfold Eb.over
  exact List.map_congr_left fun j hj => over_at l j (List.mem_range.mp hj)
theorem touching_all (l : List Shp) : Eb.touching l = ((List.range l.length).map fun j => (onesS (shS l) j).length).sum := by
  unfold Eb.touching
  rw [foldr_sum]
  congr 1
  refine List.map_congr_left fun j hj => ?_
  rw [over_at l j (List.mem_range.mp hj), ones_bits]
  show _ = ((List.range j).filter _).length
  congr 1
  refine List.filter_congr fun i hi => ?_
  rw [bitsTo_bit]
  simp [List.mem_range.mp hi]
/-! ### what is refused -/
theorem flat_len (l : List Shp) : (l.flatMap fun (s : Shp) => s.rows.flatMap fun (r : Eb.Way) => r).length = ((l.flatMap Eb.Shape.rows).map List.length).sum := by
  induction l with
  | nil => rfl
  | cons s z ih =>
    rw [List.flatMap_cons, List.length_append, ih, List.flatMap_cons, List.map_append, List.sum_append]
    congr 1
    induction s.rows with
    | nil => rfl
    | cons r rs ih2 =>
      rw [List.flatMap_cons, List.length_append, ih2]
      rfl
theorem all_rows (l : List Shp) (h1 : ∀ s ∈ l, s.thread < 256) (h2 : ∀ s ∈ l, s.rows ≠ []) :
    (l.all fun (s : Shp) => decide (s.thread < 256) && (!s.rows.isEmpty && s.rows.all fun (r : Eb.Way) => !r.isEmpty && r.all Eb.Place.ok)) = (l.flatMap Eb.Shape.rows).all fun (r : Eb.Way) => !r.isEmpty && r.all Eb.Place.ok := by
  rw [List.all_flatMap, Bool.eq_iff_iff, List.all_eq_true, List.all_eq_true]
  refine forall_congr' fun s => ?_
  refine imp_congr_right fun hs => ?_
  have e1 : decide (s.thread < 256) = true := decide_eq_true (h1 s hs)
  have e2 : s.rows.isEmpty = false := by
    cases e : s.rows with
    | nil => exact absurd e (h2 s hs)
    | cons => rfl
  rw [e1, e2]
  simp
theorem rows_le (rows : List (List Int)) (h : ∀ r ∈ rows, 1 ≤ cntS r) : ((rows.length : Nat) : Int) ≤ (rows.map cntS).sum := by
  induction rows with
  | nil => exact Int.le_refl _
  | cons r rs ih =>
    have h1 := h r (by simp)
    have h2 := ih fun x hx => h x (List.mem_cons_of_mem _ hx)
    rw [List.map_cons, List.sum_cons, List.length_cons]
    omega
theorem lens_sum (rows : List (List Int)) (h : ∀ r ∈ rows, ∃ m, r.length = 2 * m + 1) : ((((rows.map fun r => pls r.tail).map List.length).sum : Nat) : Int) = (rows.map cntS).sum := by
  induction rows with
  | nil => rfl
  | cons r rs ih =>
    obtain ⟨m, hm⟩ := h r (by simp)
    have h2 := ih fun x hx => h x (List.mem_cons_of_mem _ hx)
    have e : r.tail.length = 2 * m := by rw [List.length_tail]; omega
    rw [List.map_cons, List.map_cons, List.sum_cons, List.map_cons, List.sum_cons, Int.natCast_add, h2, pls_len m r.tail e]
    unfold cntS
    rw [e]
    omega
theorem row_ok2 {r : List Int} (h : ∃ m, r.length = 2 * m + 1) : (!(pls r.tail).isEmpty && (pls r.tail).all Eb.Place.ok) = (decide (1 ≤ cntS r) && r.tail.all inB) := by
  obtain ⟨m, hm⟩ := h
  have e : r.tail.length = 2 * m := by rw [List.length_tail]; omega
  rw [pls_all m _ e]
  congr 1
  have l := pls_len m _ e
  rw [Bool.eq_iff_iff, decide_eq_true_eq]
  unfold cntS
  rw [e]
  cases h : pls r.tail with
  | nil =>
    rw [h] at l
    have : m = 0 := l.symm
    subst this
    simp
  | cons x y =>
    rw [h] at l
    simp at l
    simp
    omega
theorem drawn_ok {rows : List (List Int)} {l : List Shp} (O : ShOk rows l) (h1 : ∀ s ∈ l, s.thread < 256) : Eb.Drawn.ok l = !(drefused rows) := by
  have hl : l.length = (rows.filter begS).length := by
    have := O.len
    cases l with
    | nil => exact this
    | cons s z =>
      have h2 : s.thread ≠ 256 := by have := h1 s (by simp); omega
      have h3 : (s :: z).length = _ + (if s.thread = 256 then 1 else 0) := this
      rw [if_neg h2] at h3
      exact h3
  have hh : headsS rows = ((l.length : Nat) : Int) := by
    unfold headsS
    rw [hl]
  unfold Eb.Drawn.ok drefused cntS12 Eb.SHAPES Eb.ROWS Eb.ROWHOLES
  rw [flat_len, all_rows l h1 O.some_, O.rows_, hh, List.length_map, List.all_map]
  have hs := lens_sum rows O.odd
  have ha : (rows.all ((fun (r : Eb.Way) => !r.isEmpty && r.all Eb.Place.ok) ∘ fun r => pls r.tail)) = rows.all fun r => decide (1 ≤ cntS r) && r.tail.all inB := by
    rw [Bool.eq_iff_iff, List.all_eq_true, List.all_eq_true]
    refine forall_congr' fun r => ?_
    refine imp_congr_right fun hr => ?_
    show (!(pls r.tail).isEmpty && (pls r.tail).all Eb.Place.ok) = true ↔ _
    rw [row_ok2 (O.odd r hr)]
  rw [ha]
  generalize ((rows.map fun r => pls r.tail).map List.length).sum = N at hs
  rw [Bool.eq_iff_iff]
  simp only [Bool.and_eq_true, decide_eq_true_eq, List.all_eq_true, Bool.not_eq_true', Bool.or_eq_false_iff, decide_eq_false_iff_not, List.any_eq_false, Bool.not_eq_false']
  constructor
  · rintro ⟨a1, a2, a3, a4, a5⟩
    refine ⟨⟨by omega, by omega⟩, ⟨fun r hr => ?_, by omega⟩, fun r hr => (a5 r hr).2⟩
    have := (a5 r hr).1
    omega
  · rintro ⟨⟨a1, a2⟩, ⟨a3, a4⟩, a5⟩
    have a3' : ∀ r ∈ rows, 1 ≤ cntS r := fun r hr => by
      have := a3 r hr
      omega
    have := rows_le rows a3'
    exact ⟨by omega, by omega, by omega, by omega, fun r hr => ⟨a3' r hr, a5 r hr⟩⟩
def pairsS (sh : List (List Sti)) : Nat := ((List.range sh.length).map fun j => (onesS sh j).length).sum
def dueO (rows : List (List Int)) : List Int :=
  if drefused rows = true then [-1] else ((pairsS (shpS rows) : Nat) : Int) :: (List.range (shpS rows).length).map fun j => ((numS (onesS (shpS rows) j) : Nat) : Int)
theorem shp_is {rows : List (List Int)} {l : List Shp} (O : ShOk rows l) (h1 : ∀ s ∈ l, s.thread < 256) (hh : ∀ r ∈ rows, r.headD 0 ≤ 255) (hl : YqstfaNeutral.shapes? rows = some l) : shpS rows = shS l := by
  cases rows with
  | nil =>
    have e : [] = l := Option.some.inj hl
    subst e
    rfl
  | cons r rs =>
    obtain ⟨s, z, e, hb⟩ := O.first r rfl
    have nt : s.thread ≠ 256 := by
      have := h1 s (by rw [e]; simp)
      omega
    have hr : begS r = true := by
      cases e2 : begS r with
      | true => rfl
      | false => exact absurd (hb.mpr e2) nt
    -- a shape ahead, taken away again
    have f := O.fold [] [(⟨0, 0⟩, ⟨0, 0⟩)]
    have g : ∀ acc, stepS acc r = acc ++ [Eb.stitchesOf (pls r.tail)] := fun acc => by
      rw [stepS_beg hr, List.nil_append]
    have key : ∀ (rs : List (List Int)) (a b : List (List Sti)), b ≠ [] → rs.foldl stepS (a ++ b) = a ++ rs.foldl stepS b := by
      intro rs
      induction rs with
      | nil => intro a b _; rfl
      | cons q rs ih =>
        intro a b hb
        have e : stepS (a ++ b) q = a ++ stepS b q := by
          unfold stepS addS
          split
          · simp [List.append_assoc]
          · rw [List.dropLast_append_of_ne_nil hb]
            have : (a ++ b).getLastD [] = b.getLastD [] := by
              rw [List.getLastD_eq_getLast?, List.getLastD_eq_getLast?, List.getLast?_append]
              cases eb : b.getLast? with
              | none => exact absurd (List.getLast?_eq_none_iff.mp eb) hb
              | some y => rfl
            rw [this, List.append_assoc]
        rw [List.foldl_cons, List.foldl_cons, e]
        exact ih a _ (stepS_ne _ _)
    rw [List.foldl_cons, g] at f
    unfold shpS
    rw [List.foldl_cons, g, List.nil_append]
    have e3 := key rs ([] ++ [[(⟨0, 0⟩, ⟨0, 0⟩)]]) ([Eb.stitchesOf (pls r.tail)]) (by simp)
    rw [List.nil_append] at e3 f
    rw [e3, e] at f
    have f2 : joinS [] [(⟨0, 0⟩, ⟨0, 0⟩)] (s :: z) = [[(⟨0, 0⟩, ⟨0, 0⟩)]] ++ shS (s :: z) := if_neg nt
    rw [f2] at f
    rw [e]
    exact List.append_cancel_left f
theorem over_due {rows : List (List Int)} (h : PyYqstfa.over_asked rows = true) : PyYqstfa.over rows = dueO rows ∧ (∀ r ∈ rows, ∃ m, r.length = 2 * m + 1) ∧ ∀ r, rows[0]? = some r → begS r = true := by
  have h : (if rows.any (fun r => decide (255 < r.headD 0)) = true then none else (YqstfaNeutral.shapes? rows).bind fun l => if l.any (fun s => decide (255 < s.thread)) = true then none else some (Yqstfa.Call.over l)).isSome = true := h
  have g : PyYqstfa.over rows = (match (if rows.any (fun r => decide (255 < r.headD 0)) = true then none else (YqstfaNeutral.shapes? rows).bind fun l => if l.any (fun s => decide (255 < s.thread)) = true then none else some (Yqstfa.Call.over l)) with
    | some x => YqstfaNeutral.told (Yqstfa.answer x)
    | none => []) := rfl
  by_cases e1 : rows.any (fun r => decide (255 < r.headD 0)) = true
  · rw [if_pos e1] at h
    cases h
  rw [if_neg e1] at h g
  cases e2 : YqstfaNeutral.shapes? rows with
  | none => rw [e2] at h; cases h
  | some l =>
  rw [e2] at h g
  simp only [Option.bind_some] at h g
  by_cases e3 : l.any (fun s => decide (255 < s.thread)) = true
  · rw [if_pos e3] at h
    cases h
  rw [if_neg e3] at g
  have hh : ∀ r ∈ rows, r.headD 0 ≤ 255 := fun r hr => by
    have := (List.any_eq_false.mp (Bool.eq_false_iff.mpr e1)) r hr
    simpa using this
  have h1 : ∀ s ∈ l, s.thread < 256 := fun s hs => by
    have := (List.any_eq_false.mp (Bool.eq_false_iff.mpr e3)) s hs
    simp at this
    omega
  have O := shapes_ok rows l hh e2
  refine ⟨?_, O.odd, fun r hr => ?_⟩
  · rw [g]
    show YqstfaNeutral.told (if Eb.Drawn.ok l = true then .numbers (Eb.touching l) (Eb.over l) else .no (-1)) = _
    rw [drawn_ok O h1]
    unfold dueO
    rw [shp_is O h1 hh e2]
    cases drefused rows with
    | true => rfl
    | false =>
      show ((Eb.touching l : Nat) : Int) :: (Eb.over l).map _ = ((pairsS (shS l) : Nat) : Int) :: _
      rw [touching_all, over_all, List.map_map]
      unfold pairsS
      rw [sh_len]
      rfl
  · obtain ⟨s, z, e, hb⟩ := O.first r hr
    cases e4 : begS r with
    | true => rfl
    | false =>
      have := hb.mpr e4
      have := h1 s (by rw [e]; simp)
      omega
end Tr

namespace Tr
open PySem PySem.Spec PyProof.Rows L2
open PySem.W (Codec)
/-! ### over -/
theorem ok_way {ps : List Pl} (h : ps.all Eb.Place.ok = true) : okR ps := fun p hp => (ok_iff p).mp (List.all_eq_true.mp h p hp)
theorem step_okSh {acc : List (List Sti)} {r : List Int} (h : okSh acc) (hr : ∃ m, r.length = 2 * m + 1) (hb : r.tail.all inB = true) : okSh (stepS acc r) := by
  have hs : ∀ s ∈ Eb.stitchesOf (pls r.tail), okS s := fun s hs => by
    obtain ⟨m, hm⟩ := hr
    have e : r.tail.length = 2 * m := by rw [List.length_tail]; omega
    exact okR.sti (ok_way (by rw [pls_all m _ e]; exact hb)) hs
  have key : ∀ l : List (List Sti), okSh l → okSh (addS l (Eb.stitchesOf (pls r.tail))) := by
    intro l hl x hx s hsx
    rcases List.mem_append.mp hx with h1 | h1
    · exact hl x (List.dropLast_subset _ h1) s hsx
    · rw [List.mem_singleton.mp h1] at hsx
      rcases List.mem_append.mp hsx with h2 | h2
      · rw [List.getLastD_eq_getLast?] at h2
        cases e : l.getLast? with
        | none => rw [e] at h2; simp at h2
        | some y => rw [e] at h2; exact hl y (List.mem_of_getLast? e) s h2
      · exact hs s h2
  unfold stepS
  split
  · refine key _ fun x hx => ?_
    rcases List.mem_append.mp hx with h1 | h1
    · exact h x h1
    · rw [List.mem_singleton.mp h1]
      intro s hs
      simp at hs
  · exact key _ h
theorem shp_okSh : ∀ (rows : List (List Int)) (acc : List (List Sti)), okSh acc → (∀ r ∈ rows, (∃ m, r.length = 2 * m + 1) ∧ r.tail.all inB = true) → okSh (rows.foldl stepS acc)
  | [], acc, h, _ => h
  | r :: rs, acc, h, hr => by
    rw [List.foldl_cons]
    exact shp_okSh rs _ (step_okSh h (hr r (by simp)).1 (hr r (by simp)).2) fun x hx => hr x (List.mem_cons_of_mem _ hx)
theorem shp_len : ∀ (rows : List (List Int)) (acc : List (List Sti)), (rows.foldl stepS acc).length ≤ acc.length + rows.length
  | [], acc => Nat.le_refl _
  | r :: rs, acc => by
    rw [List.foldl_cons]
    have h1 := shp_len rs (stepS acc r)
    have h2 := stepS_len acc r
    rw [List.length_cons]
    omega
theorem refused_ok {rows : List (List Int)} (h : drefused rows = false) : ∀ r ∈ rows, r.tail.all inB = true := by
  unfold drefused at h
  rw [Bool.or_eq_false_iff, Bool.or_eq_false_iff (x := _ || _) (y := !_)] at h
  have h2 := h.2.2
  rw [Bool.not_eq_false'] at h2
  exact List.all_eq_true.mp h2
theorem sum_cast : ∀ l : List Nat, (l.map fun (n : Nat) => (n : Int)).sum = ((l.sum : Nat) : Int)
  | [] => rfl
  | a :: l => by
    rw [List.map_cons, List.sum_cons, List.sum_cons, sum_cast l, Int.natCast_add]
theorem natsI_len (l : List Nat) : (natsI l).length = l.length := List.length_map ..
def spOver (K : PySem.W.Frag) : Sp := fun vs H Q _ => ∃ (a : Addr) (rows : List (List Int)), vs = [.ref a] ∧ RwAt K H a rows ∧ rows.length ≤ 1000 ∧ (∀ r ∈ rows, (∃ m, r.length = 2 * m + 1) ∧ r.length ≤ 1000) ∧ (∀ r, rows[0]? = some r → begS r = true) ∧
  ∀ H' p, H' p = some (.lst ((dueO rows).map V.int)) → Q (.ref p) H'
section
variable {P : Program} {w : World} {K : PySem.W.Frag} {mg : Str → Option Value} {base : Heap}
theorem ok_over {f fW fC fO fM fX fB fT fD fG fH f4 f2 fP fN fS : Addr} {fd fdW fdC fdO fdM fdX fdB fdT fdD fdG fdH fd4 fd2 fdP fdN fdS : FuncData} {tF tM tT : Tok} (F : Fun K "over" "over" sOver f fd)
    (FW : Fun K "is_drawing_refused" "is_drawing_refused" sDrw fW fdW) (bW : Binds K fdW ["rows"] []) (gW : mg "is_drawing_refused" = some (.ref fW))
    (FC : Fun K "is_shape_count_refused" "is_shape_count_refused" sCnt fC fdC) (bC : Binds K fdC ["count"] []) (gC : mg "is_shape_count_refused" = some (.ref fC))
    (FX : Fun K "shapes_of" "shapes_of" sShp fX fdX) (bX : Binds K fdX ["rows"] []) (gX : mg "shapes_of" = some (.ref fX))
    (FO : Fun K "ones_before" "ones_before" sOnes fO fdO) (bO : Binds K fdO ["j", "shapes"] []) (gO : mg "ones_before" = some (.ref fO))
    (FM : Fun K "number_of" "number_of" sNum fM fdM) (bM : Binds K fdM ["before"] []) (gM : mg "number_of" = some (.ref fM))
    (FD : Fun K "begins_shape" "begins_shape" sBeg fD fdD) (bD : Binds K fdD ["row"] []) (gD : mg "begins_shape" = some (.ref fD))
    (FT : Fun K "tail_of" "tail_of" sTail fT fdT) (bT : Binds K fdT ["row"] []) (gT : mg "tail_of" = some (.ref fT))
    (FB : Fun K "is_in_bounds" "is_in_bounds" sBnd fB fdB) (bB : Binds K fdB ["row"] []) (gB : mg "is_in_bounds" = some (.ref fB))
    (FG : Fun K "stitches_of" "stitches_of" sSti fG fdG) (bG : Binds K fdG ["row"] []) (gG : mg "stitches_of" = some (.ref fG))
    (FH : Fun K "holes_of" "holes_of" sHol fH fdH) (bH : Binds K fdH ["row"] []) (gH : mg "holes_of" = some (.ref fH))
    (F4 : Fun K "is_touching" "is_touching" sTch f4 fd4) (b4 : Binds K fd4 ["one", "other"] []) (g4 : mg "is_touching" = some (.ref f4))
    (F2 : Fun K "stitches_touch" "stitches_touch" sST f2 fd2) (b2 : Binds K fd2 ["one", "other"] []) (g2 : mg "stitches_touch" = some (.ref f2))
    (FN : Fun K "spans_meet" "spans_meet" sSpn fN fdN) (bN : Binds K fdN ["one", "other", "axis"] []) (gN : mg "spans_meet" = some (.ref fN))
    (FP : Fun K "is_parted" "is_parted" sPar fP fdP) (bP : Binds K fdP ["stitch", "line"] []) (gP : mg "is_parted" = some (.ref fP))
    (FS : Fun K "side_of" "side_of" sSide fS fdS) (bS : Binds K fdS ["place", "line"] []) (gS : mg "side_of" = some (.ref fS))
    (ma : mg "all" = none) (mb : mg "abs" = none) (ml : mg "len" = none) (mr : mg "range" = none) (mx : mg "max" = none) (mn : mg "min" = none) (ms : mg "sum" = none)
    (mF : mg "FARTHEST" = some (.int 30000 tF)) (mS : mg "MOST_SHAPES" = some (.int 12 tM)) (mT : mg "MOST_TOGETHER" = some (.int 300 tT)) : FnOk P w K mg base CX0 6 f fd ["rows"] (spOver K) := by
  have GW : FnOk P w K mg base CX0 2 fW fdW ["rows"] (spDrw K) := ok_drw FW FC bC gC FD bD gD FT bT gT FB bB gB ma mb ml mn ms mF mS mT
  have GX : FnOk P w K mg base CX0 3 fX fdX ["rows"] (spShp K) := ok_shp FX FD bD gD FT bT gT FG bG gG FH bH gH ml mr
  have GO : FnOk P w K mg base CX0 5 fO fdO ["j", "shapes"] (spOnes K) := ok_ones FO F4 b4 g4 F2 b2 g2 FN bN gN mx mn FP bP gP FS bS gS mr
  have GM : FnOk P w K mg base CX0 1 fM fdM ["before"] (spNum K) := ok_num FM
  refine F.ok scOver (fun vs H Q E h => ?_) (fun cdv A outer s H vs Q E hr h => ?_)
  · obtain ⟨a, rows, rfl, _⟩ := h
    rfl
  · obtain ⟨a, rows, rfl, hR, hr1, hr2, hfst, q⟩ := h
    have hrW : Room 2 _ := hr.mono (by decide)
    have hrX : Room 3 _ := hr.mono (by decide)
    have hrM : Room 1 _ := hr.mono (by decide)
    refine ⟨_, pss_cons (ps_if (pt_val (pe_call GW hrW (by rfl) gW FW.kp bW .nil pass0 (pa_cons (pv 0) pa_nil))) (pss_one (ps_ret (pe_lst (pa_cons (pe_un un_neg pe_int) pa_nil)))) pss_nil)
      (pss_cons (ps_set (i := 1) scOver.nd rfl (.inr rfl) (pe_call GX hrX (by rfl) gX FX.kp bX .nil pass0 (pa_cons (pv 0) pa_nil)))
      (pss_cons (ps_setLc (i := 2) (own := [("j", 3)]) (g := gName 3) (tt := tYes) rfl scOver.nd rfl rfl (sw_true rfl rfl rfl (by decide +kernel)) (pi_range1 rfl mr (pa_cons (pe_callB call_len_seq (by rfl) ml PySem.boot_len (pa_cons (pv 1) pa_nil)) pa_nil)) (blkOk_by (N := ["rows", "shapes", "befores", "j", "pairs", "before"]) (sc := defScope sOver) (by decide +kernel)) (fun _ _ _ _ _ => pg_name (i := 3) scOver.nd rfl (Or.inl rfl)) (fun _ _ _ _ _ => pts_nil)
          (fun _ _ _ _ _ => pe_call GO hr (by rfl) gO FO.kp bO .nil pass0 (pa_cons (pv 3) (pa_cons (pv 1) pa_nil))))
      (pss_cons (ps_set (i := 4) scOver.nd rfl (.inl rfl) (pe_callB (cr_sum rfl) (by rfl) ms (by decide +kernel) (pa_cons
          (pe_lc (own := [("before", 5)]) (g := gName 5) (tt := tYes) rfl scOver.nd (pi_list (pv 2)) (blkOk_by (N := ["rows", "shapes", "befores", "j", "pairs", "before"]) (sc := defScope sOver) (by decide +kernel)) (fun _ _ _ _ _ => pg_name (i := 5) scOver.nd rfl (Or.inl rfl)) (fun _ _ _ _ _ => pts_nil)
            (fun _ _ _ _ _ => pe_callB (r := rLenK K) call_len_seq (by rfl) ml PySem.boot_len (pa_cons (pv 5) pa_nil))) pa_nil)))
      (pss_one (ps_ret (pe_op op_cat (pe_lst (pa_cons (pv 4) pa_nil))
          (pe_lc (own := [("before", 5)]) (g := gName 5) (tt := tYes) rfl scOver.nd (pi_list (pv 2)) (blkOk_by (N := ["rows", "shapes", "befores", "j", "pairs", "before"]) (sc := defScope sOver) (by decide +kernel)) (fun _ _ _ _ _ => pg_name (i := 5) scOver.nd rfl (Or.inl rfl)) (fun _ _ _ _ _ => pts_nil)
            (fun _ _ _ _ _ => pe_call GM hrM (by rfl) gM FM.kp bM .nil pass0 (pa_cons (pv 5) pa_nil))))))))), ?_⟩
    refine ⟨_, rfl, a, rows, rfl, hR, hr1, fun r h => by obtain ⟨⟨m, hm⟩, l⟩ := hr2 r h; omega, fun H1 s1 => ⟨_, rfl, ?_⟩⟩
    unfold dueO at q
    cases e1 : drefused rows with
    | true =>
      rw [e1] at q
      refine iteT ⟨_, rfl, (by show 1 ≤ sizeLine; decide), fun p hp => ?_⟩
      exact q _ p upd_same
    | false =>
    rw [e1] at q
    refine iteF ?_
    have hok : okSh (shpS rows) := shp_okSh rows [] (fun x hx => by simp at hx) fun r hr => ⟨(hr2 r hr).1, refused_ok e1 r hr⟩
    have hln : (shpS rows).length ≤ 1000 := by
      have := shp_len rows []
      simp at this
      exact Nat.le_trans this hr1
    obtain ⟨as, hS, hlen, hat⟩ := hR
    refine ⟨_, rfl, a, rows, rfl, ⟨as, s1.seq hS, hlen, fun i u x h1 h2 => s1.seq (hat i u x h1 h2)⟩, hr1, hr2, hfst, fun H2 L s2 hL => ?_⟩
    generalize shpS rows = sh at hok hln hL q
    have hLs := hL
    obtain ⟨ss, hL1, hL2, hL3⟩ := hL
    refine ⟨_, rfl, L, _, rfl, .inl (SqL.of hL1), ?_⟩
    rw [List.length_map, hL2]
    refine ⟨_, rfl, by omega, by omega, ?_⟩
    rw [show ((sh.length : Nat) : Int).toNat = sh.length by omega]
    refine fun D3 n3 => lc_it (walk_range (lo := 0) (n := sh.length)) (fun i H' => ∃ ts, Grow NsAt H2 H' D3 (((List.range sh.length).map fun j => natsI (onesS sh j)).take i) ts)
      ⟨[], Grow.start n3⟩ (fun i H' _ _ => trivial) ?_ ?_
    · rintro i x H0 H' hi ⟨ts, G⟩ hy
      obtain ⟨e3, e2⟩ := hy
      subst e3
      have e2 : x = V.int (0 + (i : Nat)) := e2
      subst e2
      refine ⟨rfl, ?_⟩
      rw [Int.zero_add]
      refine ⟨_, rfl, _, rfl, i, L, sh, rfl, LsAt.keeps (R := LsAt StAt) (LsAt.keeps (R := StAt) StAt.keeps) G.same hLs, hi, hln, hok, fun H4 D4 s4 n4 h4 => ?_⟩
      refine ⟨ts.map V.ref, s4 _ _ G.lst, ?_, ts ++ [D4], ?_⟩
      · rw [List.length_map, G.len, List.length_take, List.length_map, List.length_range]
        exact small1000 (by omega)
      · have hx : ((List.range sh.length).map fun j => natsI (onesS sh j))[i]? = some (natsI (onesS sh i)) := by
          rw [List.getElem?_map, List.getElem?_range hi]
          rfl
        rw [take_more hx]
        exact Grow.more (R := NsAt) (a := D4) (x := natsI (onesS sh i)) NsAt.firm NsAt.keeps G n3 s4 n4 h4
    · rintro H3 ⟨ts, G⟩
      rw [List.take_of_length_le (by rw [List.length_map, List.length_range]; exact Nat.le_refl _)] at G
      have hT : SqL K H3 D3 (ts.map V.ref) := SqL.of G.lst
      have tl : ts.length = sh.length := by rw [G.len, List.length_map, List.length_range]
      have b_at : ∀ {i : Nat} {u : Addr}, ts[i]? = some u → i < sh.length ∧ NsAt H3 u (natsI (onesS sh i)) := fun {i u} hu => by
        have hlt : i < sh.length := tl ▸ (List.getElem?_eq_some_iff.mp hu).1
        exact ⟨hlt, (G.at_ i u _ hu (by rw [List.getElem?_map, List.getElem?_range hlt]; rfl)).2⟩
      have ra : ∀ {i : Nat}, i < sh.length → List.range (i + 1) = List.range i ++ [i] := fun _ => List.range_succ
      refine ⟨_, rfl, D3, rfl, ⟨_, hT⟩, fun D5 n5 => lc_list (K := K) (a := D3) (xs := ts.map V.ref) (fun i H' => Same H3 H' ∧ NsAt H' D5 (natsI ((List.range i).map fun j => (onesS sh j).length))) ⟨same_upd n5, upd_same⟩ (fun i H' _ h => h.1.seq hT) ?_ ?_⟩
      · rintro i y H' hi ⟨sm, hD⟩
        obtain ⟨u, hu, rfl⟩ := refs_at hi
        obtain ⟨hlt, hB⟩ := b_at hu
        refine ⟨rfl, ?_⟩
        refine ⟨_, rfl, u, _, rfl, .inl (sm.seq (SqL.of hB)), ?_⟩
        rw [List.length_map, natsI_len]
        refine ⟨_, hD, ?_, fun b o e => ?_, ?_⟩
        · rw [List.length_map, natsI_len, List.length_map, List.length_range]
          exact small1000 (by omega)
        · rw [upd_ne (ne_of_none e n5)]
          exact sm _ _ e
        · show upd H' D5 _ D5 = _
          rw [upd_same, ra hlt]
          unfold natsI
          rw [List.map_append, List.map_append, List.map_append]
          rfl
      · rintro H5 ⟨s5, hD5⟩
        rw [List.length_map, tl] at hD5
        refine ⟨D5, _, rfl, SqL.of hD5, ?_⟩
        have ep : (natsI ((List.range sh.length).map fun j => (onesS sh j).length)).sum = ((pairsS sh : Nat) : Int) := sum_cast _
        rw [ep]
        refine ⟨_, rfl, (by show 1 ≤ sizeLine; decide), fun D6 n6 => ?_⟩
        have s6 : Same H5 (upd H5 D6 (.lst [.int ((pairsS sh : Nat) : Int)])) := same_upd n6
        have hT6 : SqL K _ D3 (ts.map V.ref) := s6.seq (s5.seq hT)
        generalize e6 : upd H5 D6 (.lst [.int ((pairsS sh : Nat) : Int)]) = H6 at s6 hT6
        have h6 : H6 D6 = some (.lst [.int ((pairsS sh : Nat) : Int)]) := by rw [← e6]; exact upd_same
        refine ⟨_, rfl, D3, rfl, ⟨_, hT6⟩, fun D7 n7 => lc_list (K := K) (a := D3) (xs := ts.map V.ref) (fun i H' => Same H6 H' ∧ NsAt H' D7 (natsI ((List.range i).map fun j => numS (onesS sh j)))) ⟨same_upd n7, upd_same⟩ (fun i H' _ h => h.1.seq hT6) ?_ ?_⟩
        · rintro i y H' hi ⟨sm, hD⟩
          obtain ⟨u, hu, rfl⟩ := refs_at hi
          obtain ⟨hlt, hB⟩ := b_at hu
          refine ⟨rfl, ?_⟩
          refine ⟨_, rfl, u, onesS sh i, rfl, sm.seq (s6.seq (s5.seq (SqL.of hB))), fun k hk => ?_, ?_⟩
          · have := List.mem_range.mp (List.mem_filter.mp hk).1
            omega
          refine ⟨_, hD, ?_, fun b o e => ?_, ?_⟩
          · rw [List.length_map, natsI_len, List.length_map, List.length_range]
            exact small1000 (by omega)
          · rw [upd_ne (ne_of_none e n7)]
            exact sm _ _ e
          · show upd H' D7 _ D7 = _
            rw [upd_same, ra hlt]
            unfold natsI
            rw [List.map_append, List.map_append, List.map_append]
            rfl
        · rintro H7 ⟨s7, hD7⟩
          rw [List.length_map, tl] at hD7
          refine ⟨D6, D7, _, _, rfl, rfl, s7 _ _ h6, hD7, ?_, fun p hp => ?_⟩
          · rw [List.length_map, natsI_len, List.length_map, List.length_range]
            exact line_of (by simp; omega)
          · refine q _ p ?_
            rw [upd_same]
            unfold natsI
            rw [if_neg (by decide), List.map_cons, List.map_map, List.map_map, List.map_map]
            rfl
end
end Tr

/-! ### the end: what the top has written, and the row's head -/
namespace Tr
open PySem PySem.Spec PyProof.Rows L2
open PySem.W (Codec)
theorem all_mk {P : Program} {w : World} {K : PySem.W.Frag} {h : Heap} {mg : Str → Option Value} {fa f1 f2 f3 f4 f5 f6 f7 f8 f9 f10 f11 f12 f13 f14 f15 f16 : Addr} (X : K.In h) (G : h.Ns mainGlobals mg) (hfa : mg "over" = some (.ref fa))
    {od1 an1 od2 an2 od3 an3 od4 an4 od5 an5 od6 an6 od7 an7 od8 an8 od9 an9 od10 an10 od11 an11 od12 an12 od13 an13 od14 an14 od15 an15 od16 an16 : Option Addr} {sl1 sl2 sl3 sl4 sl5 sl6 sl7 sl8 sl9 sl10 sl11 sl12 sl13 sl14 sl15 sl16 : Array (Option Value)} {oc1 kV1 dc1 pm1 cd1 ct1 oc2 kV2 dc2 pm2 cd2 ct2 oc3 kV3 dc3 pm3 cd3 ct3 oc4 kV4 dc4 pm4 cd4 ct4 oc5 kV5 dc5 pm5 cd5 ct5 oc6 kV6 dc6 pm6 cd6 ct6 oc7 kV7 dc7 pm7 cd7 ct7 oc8 kV8 dc8 pm8 cd8 ct8 oc9 kV9 dc9 pm9 cd9 ct9 oc10 kV10 dc10 pm10 cd10 ct10 oc11 kV11 dc11 pm11 cd11 ct11 oc12 kV12 dc12 pm12 cd12 ct12 oc13 kV13 dc13 pm13 cd13 ct13 oc14 kV14 dc14 pm14 cd14 ct14 oc15 kV15 dc15 pm15 cd15 ct15 oc16 kV16 dc16 pm16 cd16 ct16 : Value} {tF tM tT : Tok}
    (a1 : PySem.W.nsIn K mainGlobals "over" = some (some (.ref f1))) (l1 : K.lookup f1 = some ⟨oc1, od1, .func (PySem.W.fnOf "over" "over" (defArgs sOver) (defBody sOver) (defScope sOver) .none kV1 dc1 pm1 an1 cd1 ct1), sl1⟩) (c1 : PySem.W.codeIn K cd1 "over" = true) (k1 : PySem.W.keepIn K (.ref f1) = true)
    (a2 : PySem.W.nsIn K mainGlobals "is_drawing_refused" = some (some (.ref f2))) (l2 : K.lookup f2 = some ⟨oc2, od2, .func (PySem.W.fnOf "is_drawing_refused" "is_drawing_refused" (defArgs sDrw) (defBody sDrw) (defScope sDrw) .none kV2 dc2 pm2 an2 cd2 ct2), sl2⟩) (c2 : PySem.W.codeIn K cd2 "is_drawing_refused" = true) (k2 : PySem.W.keepIn K (.ref f2) = true)
    (a3 : PySem.W.nsIn K mainGlobals "is_shape_count_refused" = some (some (.ref f3))) (l3 : K.lookup f3 = some ⟨oc3, od3, .func (PySem.W.fnOf "is_shape_count_refused" "is_shape_count_refused" (defArgs sCnt) (defBody sCnt) (defScope sCnt) .none kV3 dc3 pm3 an3 cd3 ct3), sl3⟩) (c3 : PySem.W.codeIn K cd3 "is_shape_count_refused" = true) (k3 : PySem.W.keepIn K (.ref f3) = true)
    (a4 : PySem.W.nsIn K mainGlobals "shapes_of" = some (some (.ref f4))) (l4 : K.lookup f4 = some ⟨oc4, od4, .func (PySem.W.fnOf "shapes_of" "shapes_of" (defArgs sShp) (defBody sShp) (defScope sShp) .none kV4 dc4 pm4 an4 cd4 ct4), sl4⟩) (c4 : PySem.W.codeIn K cd4 "shapes_of" = true) (k4 : PySem.W.keepIn K (.ref f4) = true)
    (a5 : PySem.W.nsIn K mainGlobals "ones_before" = some (some (.ref f5))) (l5 : K.lookup f5 = some ⟨oc5, od5, .func (PySem.W.fnOf "ones_before" "ones_before" (defArgs sOnes) (defBody sOnes) (defScope sOnes) .none kV5 dc5 pm5 an5 cd5 ct5), sl5⟩) (c5 : PySem.W.codeIn K cd5 "ones_before" = true) (k5 : PySem.W.keepIn K (.ref f5) = true)
    (a6 : PySem.W.nsIn K mainGlobals "number_of" = some (some (.ref f6))) (l6 : K.lookup f6 = some ⟨oc6, od6, .func (PySem.W.fnOf "number_of" "number_of" (defArgs sNum) (defBody sNum) (defScope sNum) .none kV6 dc6 pm6 an6 cd6 ct6), sl6⟩) (c6 : PySem.W.codeIn K cd6 "number_of" = true) (k6 : PySem.W.keepIn K (.ref f6) = true)
    (a7 : PySem.W.nsIn K mainGlobals "begins_shape" = some (some (.ref f7))) (l7 : K.lookup f7 = some ⟨oc7, od7, .func (PySem.W.fnOf "begins_shape" "begins_shape" (defArgs sBeg) (defBody sBeg) (defScope sBeg) .none kV7 dc7 pm7 an7 cd7 ct7), sl7⟩) (c7 : PySem.W.codeIn K cd7 "begins_shape" = true) (k7 : PySem.W.keepIn K (.ref f7) = true)
    (a8 : PySem.W.nsIn K mainGlobals "tail_of" = some (some (.ref f8))) (l8 : K.lookup f8 = some ⟨oc8, od8, .func (PySem.W.fnOf "tail_of" "tail_of" (defArgs sTail) (defBody sTail) (defScope sTail) .none kV8 dc8 pm8 an8 cd8 ct8), sl8⟩) (c8 : PySem.W.codeIn K cd8 "tail_of" = true) (k8 : PySem.W.keepIn K (.ref f8) = true)
    (a9 : PySem.W.nsIn K mainGlobals "is_in_bounds" = some (some (.ref f9))) (l9 : K.lookup f9 = some ⟨oc9, od9, .func (PySem.W.fnOf "is_in_bounds" "is_in_bounds" (defArgs sBnd) (defBody sBnd) (defScope sBnd) .none kV9 dc9 pm9 an9 cd9 ct9), sl9⟩) (c9 : PySem.W.codeIn K cd9 "is_in_bounds" = true) (k9 : PySem.W.keepIn K (.ref f9) = true)
    (a10 : PySem.W.nsIn K mainGlobals "stitches_of" = some (some (.ref f10))) (l10 : K.lookup f10 = some ⟨oc10, od10, .func (PySem.W.fnOf "stitches_of" "stitches_of" (defArgs sSti) (defBody sSti) (defScope sSti) .none kV10 dc10 pm10 an10 cd10 ct10), sl10⟩) (c10 : PySem.W.codeIn K cd10 "stitches_of" = true) (k10 : PySem.W.keepIn K (.ref f10) = true)
    (a11 : PySem.W.nsIn K mainGlobals "holes_of" = some (some (.ref f11))) (l11 : K.lookup f11 = some ⟨oc11, od11, .func (PySem.W.fnOf "holes_of" "holes_of" (defArgs sHol) (defBody sHol) (defScope sHol) .none kV11 dc11 pm11 an11 cd11 ct11), sl11⟩) (c11 : PySem.W.codeIn K cd11 "holes_of" = true) (k11 : PySem.W.keepIn K (.ref f11) = true)
    (a12 : PySem.W.nsIn K mainGlobals "is_touching" = some (some (.ref f12))) (l12 : K.lookup f12 = some ⟨oc12, od12, .func (PySem.W.fnOf "is_touching" "is_touching" (defArgs sTch) (defBody sTch) (defScope sTch) .none kV12 dc12 pm12 an12 cd12 ct12), sl12⟩) (c12 : PySem.W.codeIn K cd12 "is_touching" = true) (k12 : PySem.W.keepIn K (.ref f12) = true)
    (a13 : PySem.W.nsIn K mainGlobals "stitches_touch" = some (some (.ref f13))) (l13 : K.lookup f13 = some ⟨oc13, od13, .func (PySem.W.fnOf "stitches_touch" "stitches_touch" (defArgs sST) (defBody sST) (defScope sST) .none kV13 dc13 pm13 an13 cd13 ct13), sl13⟩) (c13 : PySem.W.codeIn K cd13 "stitches_touch" = true) (k13 : PySem.W.keepIn K (.ref f13) = true)
    (a14 : PySem.W.nsIn K mainGlobals "spans_meet" = some (some (.ref f14))) (l14 : K.lookup f14 = some ⟨oc14, od14, .func (PySem.W.fnOf "spans_meet" "spans_meet" (defArgs sSpn) (defBody sSpn) (defScope sSpn) .none kV14 dc14 pm14 an14 cd14 ct14), sl14⟩) (c14 : PySem.W.codeIn K cd14 "spans_meet" = true) (k14 : PySem.W.keepIn K (.ref f14) = true)
    (a15 : PySem.W.nsIn K mainGlobals "is_parted" = some (some (.ref f15))) (l15 : K.lookup f15 = some ⟨oc15, od15, .func (PySem.W.fnOf "is_parted" "is_parted" (defArgs sPar) (defBody sPar) (defScope sPar) .none kV15 dc15 pm15 an15 cd15 ct15), sl15⟩) (c15 : PySem.W.codeIn K cd15 "is_parted" = true) (k15 : PySem.W.keepIn K (.ref f15) = true)
    (a16 : PySem.W.nsIn K mainGlobals "side_of" = some (some (.ref f16))) (l16 : K.lookup f16 = some ⟨oc16, od16, .func (PySem.W.fnOf "side_of" "side_of" (defArgs sSide) (defBody sSide) (defScope sSide) .none kV16 dc16 pm16 an16 cd16 ct16), sl16⟩) (c16 : PySem.W.codeIn K cd16 "side_of" = true) (k16 : PySem.W.keepIn K (.ref f16) = true)
    (z1 : PySem.W.nsIn K mainGlobals "all" = some none) (z2 : PySem.W.nsIn K mainGlobals "abs" = some none) (z3 : PySem.W.nsIn K mainGlobals "len" = some none) (z4 : PySem.W.nsIn K mainGlobals "range" = some none) (z5 : PySem.W.nsIn K mainGlobals "max" = some none) (z6 : PySem.W.nsIn K mainGlobals "min" = some none) (z7 : PySem.W.nsIn K mainGlobals "sum" = some none)
    (y1 : PySem.W.nsIn K mainGlobals "FARTHEST" = some (some (.int 30000 tF))) (y2 : PySem.W.nsIn K mainGlobals "MOST_SHAPES" = some (some (.int 12 tM))) (y3 : PySem.W.nsIn K mainGlobals "MOST_TOGETHER" = some (some (.int 300 tT))) :
    ∃ fd : FuncData, (∀ (s : Shared) (us : List Value), us.length = (["rows"] : List Str).length → BindsTo s fd ⟨us, []⟩ ((["rows"] : List Str).zip us)) ∧ ∀ base : Heap, K.In base → base.Ns mainGlobals mg → FnOk P w K mg base CX0 6 fa fd ["rows"] (spOver K) := by
  have e := hfa.symm.trans (PySem.W.mg_of X G a1)
  cases e
  have F1 := fun_mk (st := sOver) l1 c1 k1
  have F2 := fun_mk (st := sDrw) l2 c2 k2
  have F3 := fun_mk (st := sCnt) l3 c3 k3
  have F4 := fun_mk (st := sShp) l4 c4 k4
  have F5 := fun_mk (st := sOnes) l5 c5 k5
  have F6 := fun_mk (st := sNum) l6 c6 k6
  have F7 := fun_mk (st := sBeg) l7 c7 k7
  have F8 := fun_mk (st := sTail) l8 c8 k8
  have F9 := fun_mk (st := sBnd) l9 c9 k9
  have F10 := fun_mk (st := sSti) l10 c10 k10
  have F11 := fun_mk (st := sHol) l11 c11 k11
  have F12 := fun_mk (st := sTch) l12 c12 k12
  have F13 := fun_mk (st := sST) l13 c13 k13
  have F14 := fun_mk (st := sSpn) l14 c14 k14
  have F15 := fun_mk (st := sPar) l15 c15 k15
  have F16 := fun_mk (st := sSide) l16 c16 k16
  have b2 := F2.binds (ps := ["rows"]) fun _ _ _ _ _ _ us hl => match us, hl with | [_], _ => rfl
  have b3 := F3.binds (ps := ["count"]) fun _ _ _ _ _ _ us hl => match us, hl with | [_], _ => rfl
  have b4 := F4.binds (ps := ["rows"]) fun _ _ _ _ _ _ us hl => match us, hl with | [_], _ => rfl
  have b5 := F5.binds (ps := ["j", "shapes"]) fun _ _ _ _ _ _ us hl => match us, hl with | [_, _], _ => rfl
  have b6 := F6.binds (ps := ["before"]) fun _ _ _ _ _ _ us hl => match us, hl with | [_], _ => rfl
  have b7 := F7.binds (ps := ["row"]) fun _ _ _ _ _ _ us hl => match us, hl with | [_], _ => rfl
  have b8 := F8.binds (ps := ["row"]) fun _ _ _ _ _ _ us hl => match us, hl with | [_], _ => rfl
  have b9 := F9.binds (ps := ["row"]) fun _ _ _ _ _ _ us hl => match us, hl with | [_], _ => rfl
  have b10 := F10.binds (ps := ["row"]) fun _ _ _ _ _ _ us hl => match us, hl with | [_], _ => rfl
  have b11 := F11.binds (ps := ["row"]) fun _ _ _ _ _ _ us hl => match us, hl with | [_], _ => rfl
  have b12 := F12.binds (ps := ["one", "other"]) fun _ _ _ _ _ _ us hl => match us, hl with | [_, _], _ => rfl
  have b13 := F13.binds (ps := ["one", "other"]) fun _ _ _ _ _ _ us hl => match us, hl with | [_, _], _ => rfl
  have b14 := F14.binds (ps := ["one", "other", "axis"]) fun _ _ _ _ _ _ us hl => match us, hl with | [_, _, _], _ => rfl
  have b15 := F15.binds (ps := ["stitch", "line"]) fun _ _ _ _ _ _ us hl => match us, hl with | [_, _], _ => rfl
  have b16 := F16.binds (ps := ["place", "line"]) fun _ _ _ _ _ _ us hl => match us, hl with | [_, _], _ => rfl
  exact ⟨PySem.W.fnOf "over" "over" (defArgs sOver) (defBody sOver) (defScope sOver) .none kV1 dc1 pm1 an1 cd1 ct1, fun s us hu => match us, hu with | [_], _ => .of_eq rfl, fun base _ _ => ok_over F1 F2 b2 (PySem.W.mg_of X G a2) F3 b3 (PySem.W.mg_of X G a3) F4 b4 (PySem.W.mg_of X G a4) F5 b5 (PySem.W.mg_of X G a5) F6 b6 (PySem.W.mg_of X G a6) F7 b7 (PySem.W.mg_of X G a7) F8 b8 (PySem.W.mg_of X G a8) F9 b9 (PySem.W.mg_of X G a9) F10 b10 (PySem.W.mg_of X G a10) F11 b11 (PySem.W.mg_of X G a11) F12 b12 (PySem.W.mg_of X G a12) F13 b13 (PySem.W.mg_of X G a13) F14 b14 (PySem.W.mg_of X G a14) F15 b15 (PySem.W.mg_of X G a15) F16 b16 (PySem.W.mg_of X G a16) (PySem.W.mg_none_of X G z1) (PySem.W.mg_none_of X G z2) (PySem.W.mg_none_of X G z3) (PySem.W.mg_none_of X G z4) (PySem.W.mg_none_of X G z5) (PySem.W.mg_none_of X G z6) (PySem.W.mg_none_of X G z7) (PySem.W.mg_of X G y1) (PySem.W.mg_of X G y2) (PySem.W.mg_of X G y3)⟩
theorem rows_dw {K : PySem.W.Frag} {H : Hp} : ∀ (rows : List (List Int)) (xs : List V), DwAll K H xs (rows.map fun r => PySem.W.WData.list (r.map PySem.W.WData.int)) →
    ∃ as : List Addr, xs = as.map V.ref ∧ as.length = rows.length ∧ ∀ (i : Nat) (a : Addr) (x : List Int), as[i]? = some a → rows[i]? = some x → SqL K H a (x.map V.int)
  | [], xs, h => by
    cases h
    exact ⟨[], rfl, rfl, fun i a x h => by simp at h⟩
  | r :: rows, xs, h => by
    cases h with
    | cons h1 h2 =>
      cases h1 with
      | lst hs ha =>
        obtain ⟨as, e, hl, hat⟩ := rows_dw rows _ h2
        have e2 := ints_dw r _ ha
        subst e e2
        refine ⟨_ :: as, rfl, by simp [hl], fun i a x ha hx => ?_⟩
        match i, ha, hx with
        | 0, ha, hx =>
          have e3 := Option.some.inj ha
          have e4 := Option.some.inj hx
          subst e3 e4
          exact hs
        | i + 1, ha, hx => exact hat i a x ha hx
end Tr
open PySem PySem.W PyProof.Rows
set_option maxRecDepth 100000 in
set_option maxHeartbeats 0 in
theorem PySem.Challenge.cw_threadrow_s02_over_holds : PySem.Challenge.rw_threadrow_s02_over.Holds := by
  w_on; k_headS; (case hw => exact ⟨[.list []], by decide +kernel, by decide +kernel⟩)
  k_fillS
  refine L2.walk_specK (r := PySem.Challenge.rw_threadrow_s02_over) (k := 6) (CX := L2.CX0) (ps := ["rows"]) (sp := Tr.spOver) (by decide +kernel) rfl rfl ⟨rfl, by decide, by decide⟩ (fun w h Y => PySem.W.kIn_of Y) ?F ?S (fun _ _ _ _ z => z)
  case F =>
    intro w mg fa h Y KX G hmg
    refine' Tr.all_mk KX G hmg ?a1 ?l1 ?c1 ?k1 ?a2 ?l2 ?c2 ?k2 ?a3 ?l3 ?c3 ?k3 ?a4 ?l4 ?c4 ?k4 ?a5 ?l5 ?c5 ?k5 ?a6 ?l6 ?c6 ?k6 ?a7 ?l7 ?c7 ?k7 ?a8 ?l8 ?c8 ?k8 ?a9 ?l9 ?c9 ?k9 ?a10 ?l10 ?c10 ?k10 ?a11 ?l11 ?c11 ?k11 ?a12 ?l12 ?c12 ?k12 ?a13 ?l13 ?c13 ?k13 ?a14 ?l14 ?c14 ?k14 ?a15 ?l15 ?c15 ?k15 ?a16 ?l16 ?c16 ?k16 ?z1 ?z2 ?z3 ?z4 ?z5 ?z6 ?z7 ?y1 ?y2 ?y3
    (case a1 => k_is)
    (case l1 => k_is)
    (case c1 => k_is)
    (case k1 => k_is)
    (case a2 => k_is)
    (case l2 => k_is)
    (case c2 => k_is)
    (case k2 => k_is)
    (case a3 => k_is)
    (case l3 => k_is)
    (case c3 => k_is)
    (case k3 => k_is)
    (case a4 => k_is)
    (case l4 => k_is)
    (case c4 => k_is)
    (case k4 => k_is)
    (case a5 => k_is)
    (case l5 => k_is)
    (case c5 => k_is)
    (case k5 => k_is)
    (case a6 => k_is)
    (case l6 => k_is)
    (case c6 => k_is)
    (case k6 => k_is)
    (case a7 => k_is)
    (case l7 => k_is)
    (case c7 => k_is)
    (case k7 => k_is)
    (case a8 => k_is)
    (case l8 => k_is)
    (case c8 => k_is)
    (case k8 => k_is)
    (case a9 => k_is)
    (case l9 => k_is)
    (case c9 => k_is)
    (case k9 => k_is)
    (case a10 => k_is)
    (case l10 => k_is)
    (case c10 => k_is)
    (case k10 => k_is)
    (case a11 => k_is)
    (case l11 => k_is)
    (case c11 => k_is)
    (case k11 => k_is)
    (case a12 => k_is)
    (case l12 => k_is)
    (case c12 => k_is)
    (case k12 => k_is)
    (case a13 => k_is)
    (case l13 => k_is)
    (case c13 => k_is)
    (case k13 => k_is)
    (case a14 => k_is)
    (case l14 => k_is)
    (case c14 => k_is)
    (case k14 => k_is)
    (case a15 => k_is)
    (case l15 => k_is)
    (case c15 => k_is)
    (case k15 => k_is)
    (case a16 => k_is)
    (case l16 => k_is)
    (case c16 => k_is)
    (case k16 => k_is)
    (case z1 => k_is)
    (case z2 => k_is)
    (case z3 => k_is)
    (case z4 => k_is)
    (case z5 => k_is)
    (case z6 => k_is)
    (case z7 => k_is)
    (case y1 => k_is)
    (case y2 => k_is)
    (case y3 => k_is)
  case S =>
    intro K H xs a hO hwi hask hx
    cases hx with
    | cons h1 h2 =>
      cases h2
      cases h1 with
      | lst hs ha =>
        obtain ⟨as, e, hl, hat⟩ := Tr.rows_dw a.1 _ ha
        subst e
        have q : ((Codec.inLen 0 100 a.1 && a.1.all fun r => (Codec.inLen 1 615 r && r.all (Codec.inInt (-32768) 32767))) && true) = true := hwi
        rw [Bool.and_eq_true, Bool.and_eq_true] at q
        have q1 := (Codec.inNat_iff.mp q.1.1).2
        have q2 : ∀ r ∈ a.1, r.length ≤ 615 := fun r hr => by
          have z := List.all_eq_true.mp q.1.2 r hr
          rw [Bool.and_eq_true] at z
          exact (Codec.inNat_iff.mp z.1).2
        obtain ⟨e, hodd, hfst⟩ := Tr.over_due (rows := a.1) hask
        refine ⟨_, a.1, rfl, ⟨as, hs, hl, hat⟩, Nat.le_trans q1 (by decide), fun r hr => ⟨hodd r hr, Nat.le_trans (q2 r hr) (by decide)⟩, hfst, fun H' p hp => ?_⟩
        rw [← e] at hp
        exact .lst (L2.SqL.of hp) (L2.dw_ints _)
#print axioms PySem.Challenge.cw_threadrow_s02_over_holds
