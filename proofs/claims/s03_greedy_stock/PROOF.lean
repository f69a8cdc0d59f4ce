import PyProof.Rows.All
import Wide.All
import OpenK.AllK
import Wide.FinOn
import Open.SpecLaws
import KE.OsGo
import KE.DataMinMax
import HandS.ForSpec
import HandS.Comp
import HandS.Iter
import HandS.Text
import HandS.Walk
import HandS.SortKw
import HandS.SortInts
import HandS.List
import PyProof.Rows.BitMore
import PySem.Challenge.RW_boxeskept_s03_greedy_stock
set_option Elab.async false
set_option linter.all false
set_option maxRecDepth 100000
set_option maxHeartbeats 2000000

/-! Rules that the layer lacks: a slice with a step, min of a list of whole numbers with default= -/
namespace Bx
open PySem PySem.Spec PyProof.Rows L2
/-- the items that a slice with a step picks -/
def pickV (xs : List V) (lo hi st : Option Int) : List V := (sliceRange (sliceBounds lo hi st xs.length).1 (sliceBounds lo hi st xs.length).2.1 (sliceBounds lo hi st xs.length).2.2).filterMap fun i => xs[i]?
theorem vals_pick {xs : List V} {us : List Value} (r : Vals xs us) : ∀ l : List Nat, Vals (l.filterMap fun i => xs[i]?) (l.filterMap fun i => us[i]?)
  | [] => .nil
  | i :: l => by
    have ih := vals_pick r l
    cases e : xs[i]? with
    | none =>
      have e2 := r.none_of e
      rw [List.filterMap_cons, List.filterMap_cons, e, e2]
      exact ih
    | some x =>
      obtain ⟨u, e2, ru⟩ := r.get e
      rw [List.filterMap_cons, List.filterMap_cons, e, e2]
      exact .cons ru ih
def tSl3 (K : PySem.W.Frag) (te : TE) (tl th ts : TO) : TE := fun σ H Q => te σ H fun x H1 => tl σ H1 fun l H2 => th σ H2 fun u H3 => ts σ H3 fun c H4 =>
  ∃ a xs, x = .ref a ∧ SqL K H4 a xs ∧ c ≠ some 0 ∧ ∀ p, H4 p = none → Q (.ref p) (upd H4 p (.lst (pickV xs l u c)))
/-- xs[lo:hi:st] of a list -/
theorem pe_slice3 {X : Cx} {e s : Expr} {lo hi : Option Expr} {te : TE} {tl th ts : TO} {pos p2 : Pos} (he : PE X e te) (hl : PO X lo tl) (hu : PO X hi th) (hs : PO X (some s) ts) : PE X (.Subscript e (.Slice lo hi (some s) p2) pos) (tSl3 X.K te tl th ts) := by
  refine ⟨fun pins s0 σ H Q I h => ?_⟩
  refine Subscript_ (thn (he.run pins s0 σ H _ I h) fun v s1 ⟨x, H1, I1, r1, q1⟩ => ?_)
  refine wpAny_Slice (thn (hl.run pins s1 σ H1 _ I1 q1) fun vl s2 ⟨l, H2, I2, pl, q2⟩ => thn (hu.run pins s2 σ H2 _ I2 q2) fun vu s3 ⟨u, H3, I3, pu, q3⟩ => thn (hs.run pins s3 σ H3 _ I3 q3) fun vs s4 ⟨c, H4, I4, pc, q4⟩ => ?_)
  obtain ⟨a, xs, ex, hx, hc, q⟩ := q4
  subst ex
  cases r1
  have I5 : Inv X pins σ H4 { s4 with heap := s4.heap.push { cls := .type "slice", data := .fields #[vl, vu, vs] } } := I4.kept (t' := s4.toks) fun b ob q => Heap.get?_push_of_some _ q
  obtain ⟨its, r, ht, hz⟩ := I5.list hx
  have hlen := r.length
  show wpAny (model X.prog X.w) X.A (subscriptTail e (.Slice lo hi (some s) p2) (.ref a) (.ref s4.heap.objs.size)) (EP X pins σ Q) X.xe { s4 with heap := s4.heap.push { cls := .type "slice", data := .fields #[vl, vu, vs] } }
  refine tail_any (ops := [.ref a, .ref s4.heap.objs.size]) ht.isList.typeIs (PySem.slot_list_getitem.lookup) ?_ (by with_unfolding_all rfl)
  refine wpAny_getItem_list_slice ht.isList (Heap.IsSliceOf.new _ vl vu vs) pl pu pc hc ?_ (by rw [List.size_toArray]; omega)
  have e : slicePick its.toArray l u c = ((sliceRange (sliceBounds l u c xs.length).1 (sliceBounds l u c xs.length).2.1 (sliceBounds l u c xs.length).2.2).filterMap fun i => its[i]?).toArray := by
    unfold slicePick
    rw [List.size_toArray, ← hlen]
    congr 1
    congr 1
    funext i
    exact List.getElem?_toArray
  have hz2 := slicePick_size_le its.toArray l u c
  rw [e] at hz2 ⊢
  rw [List.size_toArray, List.size_toArray] at hz2
  have hv : Vals (pickV xs l u c) _ := vals_pick r (sliceRange (sliceBounds l u c xs.length).1 (sliceBounds l u c xs.length).2.1 (sliceBounds l u c xs.length).2.2)
  refine ⟨.ref _, _, I5.laid (t' := s4.toks) (o := .lst (pickV xs l u c)) (fun b ob q => Heap.get?_push_of_some _ q) (Nat.le_refl _) ?_, rfl, q _ (I5.hok.fresh (Nat.le_refl _))⟩
  exact ⟨by rw [hv.length]; omega, _, 0, hv, Heap.get?_push_size _ rfl⟩
/-- min of whole numbers, d if there are none -/
def minI (d : Int) : List Int → Int
  | [] => d
  | x :: xs => xs.foldl min x
theorem readsAll_of {h : Heap} {ns : List Int} : ∀ {us : List Value}, IntsAre us ns → ReadsAll h us (ns.map .int) [] := by
  induction ns with
  | nil => intro us r; cases r; exact .nil
  | cons n ns ih =>
    intro us r
    cases r with
    | cons _ t r => exact .cons (as := []) (bs := []) (.int n t) (ih r)
def rMinD (K : PySem.W.Frag) : List V → List V → Hp → VK → Prop := fun vs zs H Q => ∃ (a : Addr) (ns : List Int) (d : Int), vs = [V.ref a] ∧ zs = [.int d] ∧ SqL K H a (ns.map V.int) ∧ Q (.int (minI d ns)) H
theorem cr_minD {X : Cx} (hc : X.calm = true) (hu : X.A.units + 64 < cLine) : CallRK X (.builtin "min") [Str.ofString "default"] (rMinD X.K) := by
  intro pins s σ H vs zs us ws Q I r rz h
  obtain ⟨a, ns, d, rfl, rfl, hs, q⟩ := h
  obtain rfl := Vals.ref1 r
  obtain ⟨w1, rfl, e1⟩ := vals1 rz
  obtain ⟨t, rfl⟩ := e1
  obtain ⟨its, rv, hl, hz⟩ := I.list hs
  have hi := rv.ints
  have hd : ∀ l : List Int, PyData.depthAll (l.map PyData.int) ≤ 1 := fun l => by
    induction l with
    | nil => decide
    | cons n l ih =>
      rw [List.map_cons, PyData.depthAll]
      exact Nat.max_le.mpr ⟨Nat.zero_le _, ih⟩
  refine PySem.W.min_list_default (xs := ns.map PyData.int) (as := []) (I.ok.hd hc) hl.isList (readsAll_of hi) ⟨fun x hx y hy => ?_, fun x hx => ?_⟩ (by have := hd ns; omega) (fun e h' tk hk => ?_) fun y ys i v h' tk bs e hv hr hk => ?_
  · obtain ⟨m, _, rfl⟩ := List.mem_map.mp hx
    obtain ⟨n, _, rfl⟩ := List.mem_map.mp hy
    rfl
  · obtain ⟨m, _, rfl⟩ := List.mem_map.mp hx
    exact fun z => nomatch z
  · have e0 : ns = [] := List.map_eq_nil_iff.mp e
    subst e0
    exact ⟨.int d, H, I.kept hk, ⟨_, rfl⟩, q⟩
  · cases ns with
    | nil => cases e
    | cons n ns =>
      rw [List.map_cons] at e
      obtain ⟨e1, e2⟩ := List.cons.inj e
      subst e1 e2
      rw [PySem.W.minD_ints] at hr
      cases hr with
      | int _ t => exact ⟨.int _, H, I.kept hk, ⟨_, rfl⟩, q⟩
end Bx

namespace Bx
open Kbe3

/-! ### the mirror -/
def inRange (ns : List Int) (g : Int) : Bool := ns.all fun n => decide (1 ≤ n) && decide (n ≤ g)
def hasLength (len : Nat) (step most : Nat) : Bool := decide (len % step = 0) && decide (len ≤ step * most)
def areBoxes (bs : List Int) : Bool := hasLength bs.length 3 7 && inRange bs 20
def grp (ns : List Int) (i : Nat) : List Int := (ns.drop i).take 3
/-- each group of four begins with edge lengths in range -/
def edgesOk (its : List Int) : Bool := (List.range (its.length / 4)).all fun i => inRange (grp its (4 * i)) 20
def quants (its : List Int) : List Int := (List.range (its.length / 4)).map fun i => its.getD (4 * i + 3) 0
def areItems (its : List Int) : Bool := hasLength its.length 4 8 && edgesOk its && inRange (quants its) 99
def isort (l : List Int) : List Int := l.mergeSort (fun a b => decide (a ≤ b))
def sizes (ns : List Int) (step : Nat) : List (List Int) := (List.range (ns.length / step)).map fun i => isort (grp ns (step * i))
def vol (s : List Int) : Int := s.getD 0 0 * s.getD 1 0 * s.getD 2 0
def goes (a b : List Int) : Bool := decide (a.getD 0 0 ≤ b.getD 0 0) && decide (a.getD 1 0 ≤ b.getD 1 0) && decide (a.getD 2 0 ≤ b.getD 2 0)
def bit (stock : Int) (i : Nat) : Bool := decide (stock / 2 ^ i % 2 = 1)
def stocked (stock : Int) (boxes : List Int) : List (List Int) := ((sizes boxes 3).zipIdx.filter fun e => bit stock e.2).map Prod.fst
def minD (d : Int) : List Int → Int
  | [] => d
  | x :: xs => xs.foldl min x
def itemCost (it : List Int) (bs : List (List Int)) : Int := minD 100000 ((bs.filter (goes it)).map vol)
def stockCost (stock : Int) (boxes items : List Int) : Int := ((sizes items 4).zip (quants items)).foldl (fun c p => c + p.2 * itemCost p.1 (stocked stock boxes)) 0
def totalCost (stock : Int) (boxes items : List Int) : List Int :=
  if !areBoxes boxes || !areItems items then [-22]
  else if (2 : Int) ^ (boxes.length / 3) ≤ stock then [-2]
  else [stockCost stock boxes items]
/-- what is asked of a sorted size: three edges from 1 to 20 -/
def okS (s : List Int) : Prop := ∃ a b c, s = [a, b, c] ∧ 1 ≤ a ∧ a ≤ b ∧ b ≤ c ∧ c ≤ 20

/-! ### sorting three -/
theorem isort_perm (l : List Int) : (isort l).Perm l := List.mergeSort_perm l _
theorem isort_pw (l : List Int) : (isort l).Pairwise (· ≤ ·) := by
  have h := List.pairwise_mergeSort (le := fun a b : Int => decide (a ≤ b)) (fun a b c h1 h2 => by simp at *; omega) (fun a b => by simp; omega) l
  exact h.imp (fun h => by simpa using h)
theorem sorted_unique {a b : List Int} (ha : a.Pairwise (· ≤ ·)) (hb : b.Pairwise (· ≤ ·)) (h : a.Perm b) : a = b :=
  List.Perm.eq_of_pairwise (le := (· ≤ ·)) (fun _ _ _ _ h1 h2 => Int.le_antisymm h1 h2) ha hb h
theorem isort_eq {l s : List Int} (h : s.Perm l) (hs : s.Pairwise (· ≤ ·)) : s = isort l :=
  sorted_unique hs (isort_pw l) (h.trans (isort_perm l).symm)
theorem isort3 (a b c : Int) : isort [a, b, c] = [min a (min b c), a + b + c - min a (min b c) - max a (max b c), max a (max b c)] := by
  symm
  apply isort_eq
  · by_cases h1 : a ≤ b <;> by_cases h2 : b ≤ c <;> by_cases h3 : a ≤ c
    · have e : [min a (min b c), a + b + c - min a (min b c) - max a (max b c), max a (max b c)] = [a, b, c] := by
        congr 1
        · omega
        · congr 1
          · omega
          · congr 1; omega
      rw [e]
    · omega
    · have e : [min a (min b c), a + b + c - min a (min b c) - max a (max b c), max a (max b c)] = [a, c, b] := by
        congr 1
        · omega
        · congr 1
          · omega
          · congr 1; omega
      rw [e]
      exact (List.Perm.swap b c []).cons a
    · have e : [min a (min b c), a + b + c - min a (min b c) - max a (max b c), max a (max b c)] = [c, a, b] := by
        congr 1
        · omega
        · congr 1
          · omega
          · congr 1; omega
      rw [e]
      exact (List.Perm.swap a c [b]).trans ((List.Perm.swap b c []).cons a)
    · have e : [min a (min b c), a + b + c - min a (min b c) - max a (max b c), max a (max b c)] = [b, a, c] := by
        congr 1
        · omega
        · congr 1
          · omega
          · congr 1; omega
      rw [e]
      exact List.Perm.swap a b [c]
    · have e : [min a (min b c), a + b + c - min a (min b c) - max a (max b c), max a (max b c)] = [b, c, a] := by
        congr 1
        · omega
        · congr 1
          · omega
          · congr 1; omega
      rw [e]
      exact ((List.Perm.swap a c []).cons b).trans (List.Perm.swap a b [c])
    · omega
    · have e : [min a (min b c), a + b + c - min a (min b c) - max a (max b c), max a (max b c)] = [c, b, a] := by
        congr 1
        · omega
        · congr 1
          · omega
          · congr 1; omega
      rw [e]
      exact ((List.Perm.swap b c [a]).trans ((List.Perm.swap a c []).cons b)).trans (List.Perm.swap a b [c])
  · simp only [List.pairwise_cons, List.mem_cons, List.not_mem_nil, or_false, forall_eq_or_imp, forall_eq, false_implies, implies_true, List.Pairwise.nil, and_true]
    omega
end Bx
namespace Bx
open Kbe3

/-! ### groups -/
def groups (ns : List Int) (step : Nat) : List (List Int) := (List.range (ns.length / step)).map fun i => grp ns (step * i)
theorem sizes_groups (ns : List Int) (step : Nat) : sizes ns step = (groups ns step).map isort := by
  unfold sizes groups
  rw [List.map_map]
  rfl
def sz (g : List Int) : Size := ⟨(g.getD 0 0).toNat, (g.getD 1 0).toNat, (g.getD 2 0).toNat⟩
def mkItem (p : List Int × Int) : Item := ⟨sz p.1, p.2.toNat⟩
theorem groups3_cons (a b c : Int) (r : List Int) : groups (a :: b :: c :: r) 3 = [a, b, c] :: groups r 3 := by
  unfold groups
  have e : (a :: b :: c :: r).length / 3 = r.length / 3 + 1 := by
    simp only [List.length_cons]; omega
  rw [e, List.range_succ_eq_map, List.map_cons, List.map_map]
  rfl
theorem groups4_cons (a b c q : Int) (r : List Int) : groups (a :: b :: c :: q :: r) 4 = [a, b, c] :: groups r 4 := by
  unfold groups
  have e : (a :: b :: c :: q :: r).length / 4 = r.length / 4 + 1 := by
    simp only [List.length_cons]; omega
  rw [e, List.range_succ_eq_map, List.map_cons, List.map_map]
  rfl
theorem quants_cons (a b c q : Int) (r : List Int) : quants (a :: b :: c :: q :: r) = q :: quants r := by
  unfold quants
  have e : (a :: b :: c :: q :: r).length / 4 = r.length / 4 + 1 := by
    simp only [List.length_cons]; omega
  rw [e, List.range_succ_eq_map, List.map_cons, List.map_map]
  rfl
theorem edgesOk_cons (a b c q : Int) (r : List Int) : edgesOk (a :: b :: c :: q :: r) = (inRange [a, b, c] 20 && edgesOk r) := by
  unfold edgesOk
  have e : (a :: b :: c :: q :: r).length / 4 = r.length / 4 + 1 := by
    simp only [List.length_cons]; omega
  rw [e, List.range_succ_eq_map, List.all_cons, List.all_map]
  rfl
theorem inRange_cons (a : Int) (r : List Int) (g : Int) : inRange (a :: r) g = ((decide (1 ≤ a) && decide (a ≤ g)) && inRange r g) := rfl
theorem inRange_iff {ns : List Int} {g : Int} : inRange ns g = true ↔ ∀ x ∈ ns, 1 ≤ x ∧ x ≤ g := by
  unfold inRange
  simp
theorem validSize_iff {a b c : Int} (_ : 0 ≤ a) (_ : 0 ≤ b) (_ : 0 ≤ c) : validSize ⟨a.toNat, b.toNat, c.toNat⟩ = inRange [a, b, c] 20 := by
  rw [Bool.eq_iff_iff, inRange_iff]
  simp only [validSize, Bool.and_eq_true, decide_eq_true_eq, List.mem_cons, List.not_mem_nil, or_false, forall_eq_or_imp, forall_eq]
  omega
/-- the specification reads just what the mirror takes -/
theorem parse3 : ∀ bs : List Int, (∀ x ∈ bs, 0 ≤ x) → parseSizes (bs.map Int.toNat) = if bs.length % 3 = 0 ∧ inRange bs 20 = true then some ((groups bs 3).map sz) else none
  | [], _ => rfl
  | [a], _ => by
    rw [if_neg (by rintro ⟨h, _⟩; simp at h)]
    rfl
  | [a, b], _ => by
    rw [if_neg (by rintro ⟨h, _⟩; simp at h)]
    rfl
  | a :: b :: c :: r, h => by
    have h1 : 0 ≤ a := h a (by simp)
    have h2 : 0 ≤ b := h b (by simp)
    have h3 : 0 ≤ c := h c (by simp)
    have ih := parse3 r (fun x hx => h x (by simp [hx]))
    have e : parseSizes ((a :: b :: c :: r).map Int.toNat) = if validSize ⟨a.toNat, b.toNat, c.toNat⟩ then (parseSizes (r.map Int.toNat)).map fun parsed => ⟨a.toNat, b.toNat, c.toNat⟩ :: parsed else none := rfl
    rw [e, ih, validSize_iff h1 h2 h3, groups3_cons]
    have el : (a :: b :: c :: r).length % 3 = r.length % 3 := by
      simp only [List.length_cons]; omega
    have er : inRange (a :: b :: c :: r) 20 = (inRange [a, b, c] 20 && inRange r 20) := by
      show inRange ([a, b, c] ++ r) 20 = _
      unfold inRange
      rw [List.all_append]
    rw [el, er]
    by_cases c1 : inRange [a, b, c] 20 = true
    · rw [if_pos c1, c1, Bool.true_and]
      by_cases c2 : r.length % 3 = 0 ∧ inRange r 20 = true
      · rw [if_pos c2, if_pos c2]; rfl
      · rw [if_neg c2, if_neg c2]; rfl
    · rw [if_neg c1, if_neg (by rw [Bool.and_eq_true]; exact fun q => c1 q.2.1)]
theorem parse4 : ∀ its : List Int, (∀ x ∈ its, 0 ≤ x) → parseItems (its.map Int.toNat) =
    if its.length % 4 = 0 ∧ edgesOk its = true ∧ inRange (quants its) 99 = true then some (((groups its 4).zip (quants its)).map mkItem) else none
  | [], _ => rfl
  | [a], _ => by
    rw [if_neg (by rintro ⟨h, _⟩; simp at h)]
    rfl
  | [a, b], _ => by
    rw [if_neg (by rintro ⟨h, _⟩; simp at h)]
    rfl
  | [a, b, c], _ => by
    rw [if_neg (by rintro ⟨h, _⟩; simp at h)]
    rfl
  | a :: b :: c :: q :: r, h => by
    have h1 : 0 ≤ a := h a (by simp)
    have h2 : 0 ≤ b := h b (by simp)
    have h3 : 0 ≤ c := h c (by simp)
    have h4 : 0 ≤ q := h q (by simp)
    have ih := parse4 r (fun x hx => h x (by simp [hx]))
    have e : parseItems ((a :: b :: c :: q :: r).map Int.toNat) = if validSize ⟨a.toNat, b.toNat, c.toNat⟩ ∧ 1 ≤ q.toNat ∧ q.toNat ≤ 99 then (parseItems (r.map Int.toNat)).map fun parsed => ⟨⟨a.toNat, b.toNat, c.toNat⟩, q.toNat⟩ :: parsed else none := rfl
    rw [e, ih, validSize_iff h1 h2 h3, groups4_cons, quants_cons, edgesOk_cons, inRange_cons q]
    have el : (a :: b :: c :: q :: r).length % 4 = r.length % 4 := by
      simp only [List.length_cons]; omega
    rw [el]
    by_cases c1 : inRange [a, b, c] 20 = true ∧ 1 ≤ q.toNat ∧ q.toNat ≤ 99
    · have e1 : (decide (1 ≤ q) && decide (q ≤ 99)) = true := by
        rw [Bool.and_eq_true, decide_eq_true_eq, decide_eq_true_eq]
        have := c1.2
        omega
      rw [if_pos c1, c1.1, e1, Bool.true_and, Bool.true_and]
      by_cases c2 : r.length % 4 = 0 ∧ edgesOk r = true ∧ inRange (quants r) 99 = true
      · rw [if_pos c2, if_pos c2]; rfl
      · rw [if_neg c2, if_neg c2]; rfl
    · rw [if_neg c1, if_neg]
      rintro ⟨_, q2, q3⟩
      rw [Bool.and_eq_true] at q2 q3
      rw [Bool.and_eq_true, decide_eq_true_eq, decide_eq_true_eq] at q3
      have h5 := q3.1
      exact c1 ⟨q2.1, by omega, by omega⟩

/-! ### groups that are sizes -/
def okG (g : List Int) : Prop := ∃ a b c, g = [a, b, c] ∧ (1 ≤ a ∧ a ≤ 20) ∧ (1 ≤ b ∧ b ≤ 20) ∧ (1 ≤ c ∧ c ≤ 20)
theorem okG_of {a b c : Int} (h : inRange [a, b, c] 20 = true) : okG [a, b, c] := by
  rw [inRange_iff] at h
  exact ⟨a, b, c, rfl, h a (by simp), h b (by simp), h c (by simp)⟩
theorem groups3_ok : ∀ bs : List Int, bs.length % 3 = 0 → inRange bs 20 = true → ∀ g ∈ groups bs 3, okG g
  | [], _, _, g, hg => by cases hg
  | [a], h, _, _, _ => by simp at h
  | [a, b], h, _, _, _ => by simp at h
  | a :: b :: c :: r, h, hr, g, hg => by
    have el : (a :: b :: c :: r).length % 3 = r.length % 3 := by
      simp only [List.length_cons]; omega
    have er : inRange (a :: b :: c :: r) 20 = (inRange [a, b, c] 20 && inRange r 20) := by
      show inRange ([a, b, c] ++ r) 20 = _
      unfold inRange
      rw [List.all_append]
    rw [er, Bool.and_eq_true] at hr
    rw [groups3_cons] at hg
    rcases List.mem_cons.mp hg with rfl | hg
    · exact okG_of hr.1
    · exact groups3_ok r (by omega) hr.2 g hg
theorem groups4_ok : ∀ its : List Int, its.length % 4 = 0 → edgesOk its = true → ∀ g ∈ groups its 4, okG g
  | [], _, _, g, hg => by cases hg
  | [a], h, _, _, _ => by simp at h
  | [a, b], h, _, _, _ => by simp at h
  | [a, b, c], h, _, _, _ => by simp at h
  | a :: b :: c :: q :: r, h, hr, g, hg => by
    have el : (a :: b :: c :: q :: r).length % 4 = r.length % 4 := by
      simp only [List.length_cons]; omega
    rw [edgesOk_cons, Bool.and_eq_true] at hr
    rw [groups4_cons] at hg
    rcases List.mem_cons.mp hg with rfl | hg
    · exact okG_of hr.1
    · exact groups4_ok r (by omega) hr.2 g hg
theorem sorted_sz {g : List Int} {a b c : Int} (e : g = [a, b, c]) (ha : 1 ≤ a ∧ a ≤ 20) (hb : 1 ≤ b ∧ b ≤ 20) (hc : 1 ≤ c ∧ c ≤ 20) :
    (((sorted (sz g)).a : Nat) : Int) = (isort g).getD 0 0 ∧ (((sorted (sz g)).b : Nat) : Int) = (isort g).getD 1 0 ∧ (((sorted (sz g)).c : Nat) : Int) = (isort g).getD 2 0 := by
  subst e
  rw [isort3]
  obtain ⟨u, rfl⟩ := Int.eq_ofNat_of_zero_le (show 0 ≤ a by omega)
  obtain ⟨v, rfl⟩ := Int.eq_ofNat_of_zero_le (show 0 ≤ b by omega)
  obtain ⟨t, rfl⟩ := Int.eq_ofNat_of_zero_le (show 0 ≤ c by omega)
  clear ha hb hc
  show ((min u (min v t) : Nat) : Int) = min (u : Int) (min (v : Int) t) ∧ ((u + v + t - min u (min v t) - max u (max v t) : Nat) : Int) = (u : Int) + v + t - min (u : Int) (min (v : Int) t) - max (u : Int) (max (v : Int) t) ∧ ((max u (max v t) : Nat) : Int) = max (u : Int) (max (v : Int) t)
  omega
theorem goes_fits {g h : List Int} (hg : okG g) (hh : okG h) : goes (isort g) (isort h) = fits (sz g) (sz h) := by
  obtain ⟨a, b, c, e, ha, hb, hc⟩ := hg
  obtain ⟨x, y, z, e2, hx, hy, hz⟩ := hh
  obtain ⟨a1, a2, a3⟩ := sorted_sz e ha hb hc
  obtain ⟨b1, b2, b3⟩ := sorted_sz e2 hx hy hz
  unfold goes fits
  dsimp only
  rw [← a1, ← a2, ← a3, ← b1, ← b2, ← b3]
  simp only [Int.ofNat_le]
theorem vol_volume {g : List Int} (hg : okG g) : vol (isort g) = (volume (sz g) : Nat) := by
  obtain ⟨a, b, c, rfl, ha, hb, hc⟩ := hg
  have e1 : vol (isort [a, b, c]) = vol [a, b, c] := by
    have hp := isort_perm [a, b, c]
    rw [isort3] at hp ⊢
    show min a (min b c) * (a + b + c - min a (min b c) - max a (max b c)) * max a (max b c) = a * b * c
    have h1 : ∀ (u v w : Int), ([u, v, w] : List Int).Perm [a, b, c] → u * v * w = a * b * c := by
      intro u v w hp
      have h2 := hp.foldr_eq' (f := fun x y : Int => x * y) (fun x _ y _ z => by rw [← Int.mul_assoc, Int.mul_comm y x, Int.mul_assoc]) 1
      simp only [List.foldr_cons, List.foldr_nil, Int.mul_one] at h2
      rw [Int.mul_assoc, h2, Int.mul_assoc]
    exact h1 _ _ _ hp
  rw [e1]
  show a * b * c = ((a.toNat * b.toNat * c.toNat : Nat) : Int)
  rw [Int.natCast_mul, Int.natCast_mul, Int.toNat_of_nonneg (by omega), Int.toNat_of_nonneg (by omega), Int.toNat_of_nonneg (by omega)]
theorem mul3_le {a b c : Nat} (ha : a ≤ 20) (hb : b ≤ 20) (hc : c ≤ 20) : a * b * c ≤ 8000 :=
  Nat.le_trans (Nat.mul_le_mul (Nat.mul_le_mul ha hb) hc) (by decide)
theorem volume_le {g : List Int} (hg : okG g) : volume (sz g) ≤ 8000 := by
  obtain ⟨a, b, c, rfl, ha, hb, hc⟩ := hg
  exact mul3_le (show a.toNat ≤ 20 by omega) (show b.toNat ≤ 20 by omega) (show c.toNat ≤ 20 by omega)
theorem bit_hasBit {stock : Int} (h : 0 ≤ stock) (i : Nat) : bit stock i = hasBit stock.toNat i := by
  obtain ⟨n, rfl⟩ := Int.eq_ofNat_of_zero_le h
  rw [Int.toNat_natCast, Bool.eq_iff_iff]
  unfold bit hasBit
  rw [decide_eq_true_eq, beq_iff_eq]
  have e : ((n : Int) / 2 ^ i % 2) = ((n / 2 ^ i % 2 : Nat) : Int) := by
    rw [Int.natCast_emod, Int.natCast_ediv, Int.natCast_pow]
    rfl
  rw [e]
  omega
/-- the least volume of the stocked boxes that it goes into, from d -/
theorem least_eq {g : List Int} (hg : okG g) {stock : Int} (hs : 0 ≤ stock) : ∀ (G : List (List Int)) (k d : Nat), (∀ h ∈ G, okG h) →
    (((((G.map isort).zipIdx k).filter fun e => bit stock e.2).map Prod.fst |>.filter (goes (isort g))).map vol).foldl min (d : Int)
      = (((((G.map sz).zipIdx k).filter fun e => hasBit stock.toNat e.2 && fits (sz g) e.1).foldl (fun least e => min least (volume e.1)) d : Nat) : Int)
  | [], _, _, _ => rfl
  | h :: G, k, d, hG => by
    have hh : okG h := hG h (by simp)
    have ih := fun d => least_eq hg hs G (k + 1) d fun x hx => hG x (by simp [hx])
    rw [List.map_cons, List.map_cons, List.zipIdx_cons, List.zipIdx_cons, List.filter_cons, List.filter_cons]
    dsimp only
    rw [← bit_hasBit hs, ← goes_fits hg hh]
    cases hb : bit stock k with
    | false =>
      rw [if_neg (by simp), if_neg (by simp)]
      exact ih d
    | true =>
      rw [if_pos rfl, List.map_cons, List.filter_cons, Bool.true_and]
      by_cases hf : goes (isort g) (isort h) = true
      · rw [if_pos hf, if_pos hf, List.map_cons, List.foldl_cons, List.foldl_cons, vol_volume hh]
        have e : min (d : Int) ((volume (sz h) : Nat) : Int) = ((min d (volume (sz h)) : Nat) : Int) := by omega
        rw [e]
        exact ih _
      · rw [if_neg hf, if_neg hf]
        exact ih d
theorem minD_eq {d : Int} {l : List Int} (h : ∀ x ∈ l, x ≤ d) : minD d l = l.foldl min d := by
  cases l with
  | nil => rfl
  | cons x xs =>
    have := h x (by simp)
    rw [List.foldl_cons, show min d x = x by omega]
    rfl
theorem stocked_groups (stock : Int) (boxes : List Int) : stocked stock boxes = (((groups boxes 3).map isort).zipIdx.filter fun e => bit stock e.2).map Prod.fst := by
  unfold stocked
  rw [sizes_groups]
theorem stocked_mem {stock : Int} {boxes s : List Int} (h : s ∈ stocked stock boxes) : ∃ g ∈ groups boxes 3, s = isort g := by
  rw [stocked_groups] at h
  obtain ⟨e, he, rfl⟩ := List.mem_map.mp h
  obtain ⟨h1, _⟩ := List.mem_filter.mp he
  have h2 := List.fst_mem_of_mem_zipIdx h1
  obtain ⟨g, hg, e2⟩ := List.mem_map.mp h2
  exact ⟨g, hg, e2.symm⟩
theorem itemCost_eq {g : List Int} (hg : okG g) {stock : Int} (hs : 0 ≤ stock) {boxes : List Int} (hG : ∀ h ∈ groups boxes 3, okG h) :
    itemCost (isort g) (stocked stock boxes) = (Kbe3.itemCost ((groups boxes 3).map sz) stock.toNat (sz g) : Nat) := by
  unfold itemCost
  rw [minD_eq, stocked_groups]
  · exact least_eq hg hs (groups boxes 3) 0 100000 hG
  · intro x hx
    obtain ⟨s, hs2, rfl⟩ := List.mem_map.mp hx
    obtain ⟨g2, h2, rfl⟩ := stocked_mem (List.mem_filter.mp hs2).1
    rw [vol_volume (hG g2 h2)]
    have := volume_le (hG g2 h2)
    omega
theorem foldl_cost {stock : Int} (hs : 0 ≤ stock) {boxes : List Int} (hG : ∀ h ∈ groups boxes 3, okG h) : ∀ (G : List (List Int)) (qs : List Int) (d : Nat), (∀ h ∈ G, okG h) → (∀ q ∈ qs, 0 ≤ q) →
    ((G.map isort).zip qs).foldl (fun c p => c + p.2 * itemCost p.1 (stocked stock boxes)) (d : Int)
      = ((((G.zip qs).map mkItem).map fun item => item.quantity * Kbe3.itemCost ((groups boxes 3).map sz) stock.toNat item.size).foldl (· + ·) d : Nat)
  | [], _, _, _, _ => by simp
  | _ :: _, [], _, _, _ => by simp
  | g :: G, q :: qs, d, h1, h2 => by
    have hq := h2 q (by simp)
    have e : (d : Int) + q * itemCost (isort g) (stocked stock boxes) = ((d + q.toNat * Kbe3.itemCost ((groups boxes 3).map sz) stock.toNat (sz g) : Nat) : Int) := by
      rw [itemCost_eq (h1 g (by simp)) hs hG, Int.natCast_add, Int.natCast_mul, Int.toNat_of_nonneg hq]
    show ((G.map isort).zip qs).foldl _ ((d : Int) + q * itemCost (isort g) (stocked stock boxes)) = _
    rw [e]
    exact foldl_cost hs hG G qs _ (fun x hx => h1 x (by simp [hx])) (fun x hx => h2 x (by simp [hx]))
theorem areBoxes_iff {bs : List Int} : areBoxes bs = true ↔ bs.length % 3 = 0 ∧ bs.length ≤ 21 ∧ inRange bs 20 = true := by
  unfold areBoxes hasLength
  rw [Bool.and_eq_true, Bool.and_eq_true, decide_eq_true_eq, decide_eq_true_eq]
  exact ⟨fun h => ⟨h.1.1, h.1.2, h.2⟩, fun h => ⟨⟨h.1, h.2.1⟩, h.2.2⟩⟩
theorem areItems_iff {its : List Int} : areItems its = true ↔ its.length % 4 = 0 ∧ its.length ≤ 32 ∧ edgesOk its = true ∧ inRange (quants its) 99 = true := by
  unfold areItems hasLength
  rw [Bool.and_eq_true, Bool.and_eq_true, Bool.and_eq_true, decide_eq_true_eq, decide_eq_true_eq]
  exact ⟨fun h => ⟨h.1.1.1, h.1.1.2, h.1.2, h.2⟩, fun h => ⟨⟨⟨h.1, h.2.1⟩, h.2.2.1⟩, h.2.2.2⟩⟩
theorem groups_length (ns : List Int) (k : Nat) : (groups ns k).length = ns.length / k := by
  unfold groups
  simp
theorem quants_length (ns : List Int) : (quants ns).length = ns.length / 4 := by
  unfold quants
  simp
theorem stockCost_eq {stock : Int} (hs : 0 ≤ stock) {boxes items : List Int} (hb : areBoxes boxes = true) (hi : areItems items = true) :
    stockCost stock boxes items = (Kbe3.totalCost ((groups boxes 3).map sz) (((groups items 4).zip (quants items)).map mkItem) stock.toNat : Nat) := by
  rw [areBoxes_iff] at hb
  rw [areItems_iff] at hi
  unfold stockCost Kbe3.totalCost
  rw [sizes_groups]
  refine foldl_cost hs (groups3_ok boxes hb.1 hb.2.2) (groups items 4) (quants items) 0 (groups4_ok items hi.1 hi.2.2.1) fun q hq => ?_
  have := inRange_iff.mp hi.2.2.2 q hq
  omega
/-- what the specification does with boxes and items -/
theorem with_eq {boxes items : List Int} (pb : ∀ x ∈ boxes, 0 ≤ x) (pi : ∀ x ∈ items, 0 ≤ x) (k : List Size → List Item → Response) :
    withBoxesAndItems (boxes.map Int.toNat) (items.map Int.toNat) k = if areBoxes boxes = true ∧ areItems items = true then k ((groups boxes 3).map sz) (((groups items 4).zip (quants items)).map mkItem) else single invalidArgument := by
  unfold withBoxesAndItems
  rw [parse3 boxes pb, parse4 items pi]
  by_cases c1 : boxes.length % 3 = 0 ∧ inRange boxes 20 = true
  · rw [if_pos c1]
    by_cases c2 : items.length % 4 = 0 ∧ edgesOk items = true ∧ inRange (quants items) 99 = true
    · rw [if_pos c2]
      show (if 7 < ((groups boxes 3).map sz).length ∨ 8 < (((groups items 4).zip (quants items)).map mkItem).length then single invalidArgument else _) = _
      have l1 : ((groups boxes 3).map sz).length = boxes.length / 3 := by rw [List.length_map, groups_length]
      have l2 : (((groups items 4).zip (quants items)).map mkItem).length = items.length / 4 := by rw [List.length_map, List.length_zip, groups_length, quants_length, Nat.min_self]
      rw [l1, l2]
      by_cases c3 : 7 < boxes.length / 3 ∨ 8 < items.length / 4
      · have h : ¬ (areBoxes boxes = true ∧ areItems items = true) := fun h => by
          have h1 := areBoxes_iff.mp h.1
          have h2 := areItems_iff.mp h.2
          omega
        rw [if_pos c3, if_neg h]
      · have h : areBoxes boxes = true ∧ areItems items = true := ⟨areBoxes_iff.mpr ⟨c1.1, by omega, c1.2⟩, areItems_iff.mpr ⟨c2.1, by omega, c2.2⟩⟩
        rw [if_neg c3, if_pos h]
    · have h : ¬ (areBoxes boxes = true ∧ areItems items = true) := fun h => by
        have h2 := areItems_iff.mp h.2
        exact c2 ⟨h2.1, h2.2.2⟩
      rw [if_neg c2, if_neg h]
  · have h : ¬ (areBoxes boxes = true ∧ areItems items = true) := fun h => by
      have h2 := areBoxes_iff.mp h.1
      exact c1 ⟨h2.1, h2.2.2⟩
    rw [if_neg c1, if_neg h]
theorem total_eq {stock : Int} {boxes items : List Int} (hs : 0 ≤ stock) (pb : ∀ x ∈ boxes, 0 ≤ x) (pi : ∀ x ∈ items, 0 ≤ x) : PyKbe3.total_cost stock boxes items = totalCost stock boxes items := by
  show (let r := withBoxesAndItems (boxes.map Int.toNat) (items.map Int.toNat) fun parsedBoxes parsedItems => withStock parsedBoxes stock.toNat (single (Kbe3.totalCost parsedBoxes parsedItems stock.toNat : Nat)); r.head :: r.tail) = _
  rw [with_eq pb pi]
  unfold totalCost
  by_cases c : areBoxes boxes = true ∧ areItems items = true
  · rw [if_pos c, c.1, c.2, if_neg (by decide)]
    unfold withStock
    rw [List.length_map, groups_length]
    have e : (2 ^ (boxes.length / 3) ≤ stock.toNat) ↔ ((2 : Int) ^ (boxes.length / 3) ≤ stock) := by
      obtain ⟨n, rfl⟩ := Int.eq_ofNat_of_zero_le hs
      rw [Int.toNat_natCast]
      have e2 : ((2 : Int) ^ (boxes.length / 3)) = ((2 ^ (boxes.length / 3) : Nat) : Int) := by
        rw [Int.natCast_pow]
        rfl
      rw [e2]
      omega
    by_cases c2 : 2 ^ (boxes.length / 3) ≤ stock.toNat
    · rw [if_pos c2, if_pos (e.mp c2)]
      rfl
    · rw [if_neg c2, if_neg (fun z => c2 (e.mpr z)), stockCost_eq hs c.1 c.2]
      rfl
  · rw [if_neg c, if_pos]
    · rfl
    · cases h1 : areBoxes boxes <;> cases h2 : areItems items <;> simp_all
end Bx

namespace Bx
open Kbe3
/-! ### best_stock: the mirror, and that it is the specification -/
def bcount (st : Int) : Nat := ((List.range 7).filter (bit st)).length
def betterStep (limit : Int) (ns ms : List Int) (b s : Nat) : Nat :=
  if (bcount s : Int) ≤ limit then (if stockCost s ns ms < stockCost b ns ms ∨ (stockCost s ns ms = stockCost b ns ms ∧ bcount s < bcount b) then s else b) else b
def bestN (limit : Int) (ns ms : List Int) (i : Nat) : Nat := (List.range i).foldl (fun b k => betterStep limit ns ms b (k + 1)) 0
def bestStock (limit : Int) (ns ms : List Int) : List Int :=
  if !areBoxes ns || !areItems ms then [-22]
  else [(bestN limit ns ms (2 ^ (ns.length / 3) - 1) : Nat), stockCost (bestN limit ns ms (2 ^ (ns.length / 3) - 1) : Nat) ns ms]
theorem bestN_more (limit : Int) (ns ms : List Int) (i : Nat) : bestN limit ns ms (i + 1) = betterStep limit ns ms (bestN limit ns ms i) (i + 1) := by
  unfold bestN
  rw [List.range_succ, List.foldl_append]
  rfl
theorem hasBit_high {s n i : Nat} (h : s < 2 ^ n) (hi : n ≤ i) : hasBit s i = false := by
  have h2 : s < 2 ^ i := Nat.lt_of_lt_of_le h (Nat.pow_le_pow_right (by decide) hi)
  unfold hasBit
  rw [Nat.div_eq_of_lt h2]
  rfl
theorem bcount_card {s n : Nat} (h : s < 2 ^ n) (hn : n ≤ 7) : bcount s = cardinality n s := by
  unfold bcount cardinality
  have e : (bit (s : Int)) = hasBit s := by
    funext i
    rw [bit_hasBit (Int.natCast_nonneg s), Int.toNat_natCast]
  rw [e]
  have e7 : 7 = n + (7 - n) := by omega
  have e2 : (List.range 7).filter (hasBit s) = (List.range n).filter (hasBit s) ++ ((List.range (7 - n)).map (n + ·)).filter (hasBit s) := by
    rw [← List.filter_append, ← List.range_add, ← e7]
  have e3 : ((List.range (7 - n)).map (n + ·)).filter (hasBit s) = [] := by
    rw [List.filter_eq_nil_iff]
    intro x hx
    obtain ⟨k, _, rfl⟩ := List.mem_map.mp hx
    rw [hasBit_high h (by omega)]
    exact Bool.false_ne_true
  rw [e2, e3, List.append_nil]
/-- the specification's fold behind the first i stocks -/
def specN (boxes : List Size) (items : List Item) (limit i : Nat) : Nat := (List.range i).foldl (fun best stock => if decide (cardinality boxes.length stock ≤ limit) = true then
  (if Kbe3.totalCost boxes items stock < Kbe3.totalCost boxes items best ∨ (Kbe3.totalCost boxes items stock = Kbe3.totalCost boxes items best ∧ cardinality boxes.length stock < cardinality boxes.length best) then stock else best) else best) 0
theorem specN_all (boxes : List Size) (items : List Item) (limit : Nat) : Kbe3.bestStock boxes items limit = specN boxes items limit (2 ^ boxes.length) := by
  unfold Kbe3.bestStock specN
  rw [List.foldl_filter]
theorem specN_more (boxes : List Size) (items : List Item) (limit i : Nat) : specN boxes items limit (i + 1) = if decide (cardinality boxes.length i ≤ limit) = true then
  (if Kbe3.totalCost boxes items i < Kbe3.totalCost boxes items (specN boxes items limit i) ∨ (Kbe3.totalCost boxes items i = Kbe3.totalCost boxes items (specN boxes items limit i) ∧ cardinality boxes.length i < cardinality boxes.length (specN boxes items limit i)) then i else specN boxes items limit i) else specN boxes items limit i := by
  unfold specN
  rw [List.range_succ, List.foldl_append]
  rfl
theorem bestN_spec {limit : Int} {ns ms : List Int} (hl : 0 ≤ limit) (hb : areBoxes ns = true) (hi : areItems ms = true) : ∀ i, i + 1 ≤ 2 ^ (ns.length / 3) →
    bestN limit ns ms i = specN ((groups ns 3).map sz) (((groups ms 4).zip (quants ms)).map mkItem) limit.toNat (i + 1) ∧ bestN limit ns ms i < 2 ^ (ns.length / 3)
  | 0, h => by
    refine ⟨?_, h⟩
    rw [specN_more]
    show 0 = _
    have e : specN ((groups ns 3).map sz) (((groups ms 4).zip (quants ms)).map mkItem) limit.toNat 0 = 0 := rfl
    rw [e]
    split
    · split <;> rfl
    · rfl
  | i + 1, h => by
    obtain ⟨ih, hlt⟩ := bestN_spec hl hb hi i (by omega)
    have hn : ns.length / 3 ≤ 7 := by
      have := (areBoxes_iff.mp hb).2.1
      omega
    have hlen : ((groups ns 3).map sz).length = ns.length / 3 := by rw [List.length_map, groups_length]
    have hi1 : i + 1 < 2 ^ (ns.length / 3) := by omega
    have c1 : ∀ s : Nat, stockCost s ns ms = (Kbe3.totalCost ((groups ns 3).map sz) (((groups ms 4).zip (quants ms)).map mkItem) s : Nat) := fun s => by
      rw [stockCost_eq (Int.natCast_nonneg s) hb hi, Int.toNat_natCast]
    rw [specN_more, bestN_more, ← ih, hlen]
    unfold betterStep
    rw [c1, c1, bcount_card hi1 hn, bcount_card hlt hn]
    obtain ⟨L, rfl⟩ := Int.eq_ofNat_of_zero_le hl
    rw [Int.toNat_natCast]
    simp only [Int.ofNat_le, Int.ofNat_lt, Int.ofNat_inj, decide_eq_true_eq]
    refine ⟨trivial, ?_⟩
    split
    · split
      · exact hi1
      · exact hlt
    · exact hlt
theorem best_eq {limit : Int} {boxes items : List Int} (hs : 0 ≤ limit) (pb : ∀ x ∈ boxes, 0 ≤ x) (pi : ∀ x ∈ items, 0 ≤ x) : PyKbe3.best_stock limit boxes items = bestStock limit boxes items := by
  show (let r := withBoxesAndItems (boxes.map Int.toNat) (items.map Int.toNat) fun parsedBoxes parsedItems => ⟨(Kbe3.bestStock parsedBoxes parsedItems limit.toNat : Nat), [(Kbe3.totalCost parsedBoxes parsedItems (Kbe3.bestStock parsedBoxes parsedItems limit.toNat) : Int)]⟩; r.head :: r.tail) = _
  rw [with_eq pb pi]
  unfold bestStock
  by_cases c : areBoxes boxes = true ∧ areItems items = true
  · rw [if_pos c, c.1, c.2, if_neg (by decide)]
    have h1 : 1 ≤ 2 ^ (boxes.length / 3) := Nat.one_le_two_pow
    have e := (bestN_spec hs c.1 c.2 (2 ^ (boxes.length / 3) - 1) (by omega)).1
    have hlen : ((groups boxes 3).map sz).length = boxes.length / 3 := by rw [List.length_map, groups_length]
    rw [show 2 ^ (boxes.length / 3) - 1 + 1 = 2 ^ (boxes.length / 3) by omega, ← hlen, ← specN_all, hlen] at e
    rw [e, stockCost_eq (Int.natCast_nonneg _) c.1 c.2, Int.toNat_natCast]
  · rw [if_neg c, if_pos]
    · rfl
    · cases h1 : areBoxes boxes <;> cases h2 : areItems items <;> simp_all
end Bx

namespace Bx
open Kbe3
/-! ### box_for: the mirror, and that it is the specification -/
def oneSize (s : List Int) : Bool := decide (s.length = 3) && inRange s 20
theorem oneSize_ok {s : List Int} (h : oneSize s = true) : okG s := by
  unfold oneSize at h
  rw [Bool.and_eq_true, decide_eq_true_eq] at h
  match s, h.1, h.2 with
  | [a, b, c], _, h2 => exact okG_of h2
theorem parse_one {s : List Int} (p : ∀ x ∈ s, 0 ≤ x) (h : oneSize s = true) : parseSizes (s.map Int.toNat) = some [sz s] := by
  unfold oneSize at h
  rw [Bool.and_eq_true, decide_eq_true_eq] at h
  rw [parse3 s p, if_pos ⟨by omega, h.2⟩]
  match s, h.1 with
  | [a, b, c], _ =>
    rw [groups3_cons]
    rfl
theorem parse_none {s : List Int} (p : ∀ x ∈ s, 0 ≤ x) (h : oneSize s = false) (x : Size) : parseSizes (s.map Int.toNat) ≠ some [x] := by
  rw [parse3 s p]
  intro e
  split at e
  · rename_i c
    have e2 := congrArg List.length (Option.some.inj e)
    rw [List.length_map, groups_length] at e2
    have e3 : s.length / 3 = 1 := e2
    unfold oneSize at h
    rw [c.2, Bool.and_true, decide_eq_false_iff_not] at h
    have := c.1
    omega
  · cases e
def volAt (ns : List Int) (k : Nat) : Int := vol (isort (grp ns (3 * k)))
def fitting (st : Int) (ns s : List Int) : List Nat := ((List.range (ns.length / 3)).filter (bit st)).filter fun k => goes (isort s) (isort (grp ns (3 * k)))
/-- the first of the least -/
def smallest (l : List Nat) (f : Nat → Int) : Option Nat := l.find? fun k => l.all fun x => decide (f k ≤ f x)
def boxFor (st : Int) (ns s : List Int) : List Int :=
  if !areBoxes ns || !oneSize s then [-22]
  else if (2 : Int) ^ (ns.length / 3) ≤ st then [-2]
  else match smallest (fitting st ns s) (volAt ns) with
    | some k => [(k : Int), volAt ns k]
    | none => [-33]
theorem first_min {F : List Nat} {f : Nat → Int} {m : Int} (hm : m ∈ F.map f) (hle : ∀ y ∈ F.map f, m ≤ y) :
    ∃ j k : Nat, F[j]? = some k ∧ f k = m ∧ (∀ i, i < j → ∀ z, (F.map f)[i]? = some z → z ≠ m) ∧ smallest F f = some k := by
  obtain ⟨k0, hk0, e0⟩ := List.mem_map.mp hm
  have hex : F.findIdx (fun k => decide (f k = m)) < F.length := List.findIdx_lt_length_of_exists ⟨k0, hk0, by simp [e0]⟩
  have hp : decide (f F[F.findIdx (fun k => decide (f k = m))] = m) = true := List.findIdx_getElem (p := fun k => decide (f k = m))
  have hp' := of_decide_eq_true hp
  have hbefore : ∀ i, (hi : i < F.findIdx (fun k => decide (f k = m))) → ∀ (h2 : i < F.length), f F[i] ≠ m := fun i hi h2 => by
    have := List.not_of_lt_findIdx hi
    exact of_decide_eq_false (by simpa using this)
  refine ⟨F.findIdx (fun k => decide (f k = m)), F[F.findIdx (fun k => decide (f k = m))], List.getElem?_eq_getElem hex, hp', fun i hi z hz => ?_, ?_⟩
  · rw [List.getElem?_map, List.getElem?_eq_getElem (by omega)] at hz
    have e : f F[i] = z := Option.some.inj hz
    rw [← e]
    exact hbefore i hi (by omega)
  · unfold smallest
    rw [List.find?_eq_some_iff_getElem]
    refine ⟨?_, _, hex, rfl, fun i hi => ?_⟩
    · rw [List.all_eq_true]
      intro x hx
      rw [decide_eq_true_eq, hp']
      exact hle _ (List.mem_map.mpr ⟨x, hx, rfl⟩)
    · have h2 : i < F.length := by omega
      rw [Bool.not_eq_true', List.all_eq_false]
      refine ⟨F[F.findIdx (fun k => decide (f k = m))], List.getElem_mem hex, ?_⟩
      rw [decide_eq_true_eq, hp']
      intro z
      have h3 := hle (f F[i]) (List.mem_map.mpr ⟨_, List.getElem_mem h2, rfl⟩)
      exact hbefore i hi h2 (by omega)
theorem zipIdx_range {α : Type} (n : Nat) (f : Nat → α) : ((List.range n).map f).zipIdx = (List.range n).map fun k => (f k, k) := by
  apply List.ext_getElem
  · simp
  · intro i h1 h2
    simp
theorem foldl_min {l : List Nat} {f : Nat → Nat} : ∀ d : Nat, l.foldl (fun a k => min a (f k)) d ≤ d ∧ (∀ k ∈ l, l.foldl (fun a k => min a (f k)) d ≤ f k) ∧ (l.foldl (fun a k => min a (f k)) d = d ∨ ∃ k ∈ l, l.foldl (fun a k => min a (f k)) d = f k) := by
  induction l with
  | nil => intro d; exact ⟨Nat.le_refl _, fun k hk => (by cases hk), .inl rfl⟩
  | cons x l ih =>
    intro d
    obtain ⟨h1, h2, h3⟩ := ih (min d (f x))
    rw [List.foldl_cons]
    refine ⟨by omega, fun k hk => ?_, ?_⟩
    · rcases List.mem_cons.mp hk with rfl | hk
      · omega
      · exact h2 k hk
    · rcases h3 with h3 | ⟨k, hk, h3⟩
      · by_cases c : d ≤ f x
        · left; rw [h3]; omega
        · right; exact ⟨x, List.mem_cons_self, by rw [h3]; omega⟩
      · right; exact ⟨k, List.mem_cons_of_mem _ hk, h3⟩
/-- whether the item goes into box k and the box is stocked -/
def fitsAt (st : Int) (ns s : List Int) (k : Nat) : Bool := hasBit st.toNat k && fits (sz s) (sz (grp ns (3 * k)))
theorem grp_okG {ns : List Int} (hb : areBoxes ns = true) {k : Nat} (hk : k < ns.length / 3) : okG (grp ns (3 * k)) := by
  rw [areBoxes_iff] at hb
  exact groups3_ok ns hb.1 hb.2.2 _ (List.mem_map.mpr ⟨k, List.mem_range.mpr hk, rfl⟩)
theorem filter_congr2 {l : List Nat} {p q : Nat → Bool} (h : ∀ x ∈ l, p x = q x) : l.filter p = l.filter q := List.filter_congr h
theorem fitting_eq {st : Int} {ns s : List Int} (hs : 0 ≤ st) (hb : areBoxes ns = true) (ho : okG s) : fitting st ns s = (List.range (ns.length / 3)).filter (fitsAt st ns s) := by
  unfold fitting
  rw [List.filter_filter]
  refine filter_congr2 fun k hk => ?_
  have hk := List.mem_range.mp hk
  unfold fitsAt
  rw [← bit_hasBit hs, ← goes_fits ho (grp_okG hb hk), Bool.and_comm]
def volN (ns : List Int) (k : Nat) : Nat := volume (sz (grp ns (3 * k)))
theorem volAt_eq {ns : List Int} (hb : areBoxes ns = true) {k : Nat} (hk : k < ns.length / 3) : volAt ns k = (volN ns k : Nat) := vol_volume (grp_okG hb hk)
theorem fitting_lt {st : Int} {ns s : List Int} {k : Nat} (h : k ∈ fitting st ns s) : k < ns.length / 3 := List.mem_range.mp (List.mem_filter.mp (List.mem_filter.mp h).1).1
theorem zip_groups (ns : List Int) : ((groups ns 3).map sz).zipIdx = (List.range (ns.length / 3)).map fun k => (sz (grp ns (3 * k)), k) := by
  unfold groups
  rw [List.map_map, zipIdx_range]
  rfl
theorem cost_fold {st : Int} {ns s : List Int} (hs : 0 ≤ st) (hb : areBoxes ns = true) (ho : okG s) :
    Kbe3.itemCost ((groups ns 3).map sz) st.toNat (sz s) = (fitting st ns s).foldl (fun a k => min a (volN ns k)) 100000 := by
  unfold Kbe3.itemCost
  rw [zip_groups, List.filter_map, List.foldl_map, fitting_eq hs hb ho]
  rfl
theorem find_congr {p q : Nat → Bool} : ∀ {l : List Nat}, (∀ x ∈ l, p x = q x) → l.find? p = l.find? q
  | [], _ => rfl
  | x :: l, h => by
    rw [List.find?_cons, List.find?_cons, h x List.mem_cons_self, find_congr fun y hy => h y (List.mem_cons_of_mem _ hy)]
theorem boxFor_find {st : Int} {ns s : List Int} (hs : 0 ≤ st) (hb : areBoxes ns = true) (ho : okG s) :
    Kbe3.boxFor ((groups ns 3).map sz) st.toNat (sz s) = smallest (fitting st ns s) (volAt ns) ∧ ∀ k, smallest (fitting st ns s) (volAt ns) = some k → volAt ns k = (Kbe3.itemCost ((groups ns 3).map sz) st.toNat (sz s) : Nat) := by
  obtain ⟨h1, h2, h3⟩ := foldl_min (l := fitting st ns s) (f := volN ns) 100000
  rw [← cost_fold hs hb ho] at h1 h2 h3
  have hv : ∀ k ∈ fitting st ns s, volAt ns k = (volN ns k : Nat) := fun k hk => volAt_eq hb (fitting_lt hk)
  have hv8 : ∀ k ∈ fitting st ns s, volN ns k ≤ 8000 := fun k hk => volume_le (grp_okG hb (fitting_lt hk))
  have least : ∀ k ∈ fitting st ns s, ((fitting st ns s).all fun x => decide (volAt ns k ≤ volAt ns x)) = (volN ns k == Kbe3.itemCost ((groups ns 3).map sz) st.toNat (sz s)) := fun k hk => by
    rw [Bool.eq_iff_iff, List.all_eq_true, beq_iff_eq]
    constructor
    · intro h
      rcases h3 with h3 | ⟨k1, hk1, h3⟩
      · have := h2 k hk
        have := hv8 k hk
        omega
      · have h4 := of_decide_eq_true (h k1 hk1)
        rw [hv k hk, hv k1 hk1] at h4
        have := h2 k hk
        omega
    · intro e x hx
      rw [decide_eq_true_eq, hv k hk, hv x hx]
      have := h2 x hx
      omega
  constructor
  · unfold Kbe3.boxFor
    by_cases hn : fitting st ns s = []
    · rw [hn, cost_fold hs hb ho, hn]
      rfl
    · obtain ⟨k0, hk0⟩ := List.exists_mem_of_ne_nil _ hn
      have a1 := h2 k0 hk0
      have a2 := hv8 k0 hk0
      have ne : Kbe3.itemCost ((groups ns 3).map sz) st.toNat (sz s) ≠ noBoxCost := by
        unfold noBoxCost
        omega
      rw [if_neg ne, zip_groups, List.find?_map, Option.map_map]
      have e2 : (Prod.snd ∘ fun k => (sz (grp ns (3 * k)), k)) = (id : Nat → Nat) := rfl
      rw [e2, Option.map_id, id]
      have e3 : ∀ q : Nat → Bool, (fitting st ns s).find? q = (List.range (ns.length / 3)).find? fun k => fitsAt st ns s k && q k := fun q => by
        rw [fitting_eq hs hb ho, List.find?_filter]
        exact find_congr fun k _ => by simp
      unfold smallest
      rw [e3]
      refine find_congr fun k hk => ?_
      show (fitsAt st ns s k && volN ns k == Kbe3.itemCost ((groups ns 3).map sz) st.toNat (sz s)) = _
      cases hf : fitsAt st ns s k with
      | false => rfl
      | true =>
        rw [Bool.true_and, Bool.true_and]
        have hm : k ∈ fitting st ns s := by
          rw [fitting_eq hs hb ho]
          exact List.mem_filter.mpr ⟨hk, hf⟩
        exact (least k hm).symm
  · intro k hk
    unfold smallest at hk
    have h4 := List.find?_some hk
    have hm := List.mem_of_find?_eq_some hk
    have h5 := least k hm
    rw [hv k hm]
    rw [h5, beq_iff_eq] at h4
    rw [h4]
theorem boxFor_eq {stock : Int} {boxes size : List Int} (hs : 0 ≤ stock) (pb : ∀ x ∈ boxes, 0 ≤ x) (pi : ∀ x ∈ size, 0 ≤ x) : PyKbe3.box_for stock boxes size = boxFor stock boxes size := by
  show (let r := respond (.boxFor stock.toNat (boxes.map Int.toNat) (size.map Int.toNat)); r.head :: r.tail) = _
  unfold respond boxFor
  dsimp only
  cases hz : oneSize size with
  | false =>
    rw [Bool.not_false, Bool.or_true, if_pos rfl]
    have h := parse_none pi hz
    split
    · rename_i x y e1 e2
      exact absurd e2 (h y)
    · rfl
  | true =>
    rw [parse_one pi hz, parse3 boxes pb]
    by_cases c1 : boxes.length % 3 = 0 ∧ inRange boxes 20 = true
    · rw [if_pos c1]
      dsimp only
      rw [List.length_map, groups_length]
      by_cases c2 : 7 < boxes.length / 3
      · have hb : areBoxes boxes = false := by
          rw [Bool.eq_false_iff]
          intro h
          have := areBoxes_iff.mp h
          omega
        rw [if_pos c2, hb]
        rfl
      · have hb : areBoxes boxes = true := areBoxes_iff.mpr ⟨c1.1, by omega, c1.2⟩
        rw [if_neg c2, hb, if_neg (by decide)]
        unfold withStock
        rw [List.length_map, groups_length]
        have e : (2 ^ (boxes.length / 3) ≤ stock.toNat) ↔ ((2 : Int) ^ (boxes.length / 3) ≤ stock) := by
          obtain ⟨n, rfl⟩ := Int.eq_ofNat_of_zero_le hs
          rw [Int.toNat_natCast]
          have e2 : ((2 : Int) ^ (boxes.length / 3)) = ((2 ^ (boxes.length / 3) : Nat) : Int) := by
            rw [Int.natCast_pow]
            rfl
          rw [e2]
          omega
        by_cases c3 : 2 ^ (boxes.length / 3) ≤ stock.toNat
        · rw [if_pos c3, if_pos (e.mp c3)]
          rfl
        · rw [if_neg c3, if_neg (fun z => c3 (e.mpr z))]
          obtain ⟨f1, f2⟩ := boxFor_find hs hb (oneSize_ok hz)
          rw [f1]
          cases hk : smallest (fitting stock boxes size) (volAt boxes) with
          | none => rfl
          | some k =>
            dsimp only
            rw [f2 k hk]
    · have hb : areBoxes boxes = false := by
        rw [Bool.eq_false_iff]
        intro h
        have := areBoxes_iff.mp h
        exact c1 ⟨this.1, this.2.2⟩
      rw [if_neg c1, hb]
      rfl
end Bx

namespace Bx
open Kbe3
/-! ### greedy_stock: the mirror, and that it is the specification -/
theorem hasBit_test (s i : Nat) : hasBit s i = s.testBit i := by
  rw [Nat.testBit_eq_decide_div_mod_eq, Bool.eq_iff_iff]
  unfold hasBit
  rw [beq_iff_eq, decide_eq_true_eq]
theorem or_has {s i : Nat} (h : hasBit s i = true) : s ||| 2 ^ i = s := by
  rw [hasBit_test] at h
  apply Nat.eq_of_testBit_eq
  intro j
  rw [Nat.testBit_or, Nat.testBit_two_pow]
  by_cases e : i = j
  · subst e
    rw [h, Bool.true_or]
  · rw [decide_eq_false e, Bool.or_false]
theorem or_new {s i : Nat} (h : hasBit s i = false) : s ||| 2 ^ i = s + 2 ^ i := by
  rw [hasBit_test] at h
  have e := PyProof.Rows.nat_or_add_and s (2 ^ i)
  have e2 : s &&& 2 ^ i = 0 := by
    apply Nat.eq_of_testBit_eq
    intro j
    rw [Nat.testBit_and, Nat.testBit_two_pow, Nat.zero_testBit]
    by_cases e : i = j
    · subst e
      rw [h, Bool.false_and]
    · rw [decide_eq_false e, Bool.and_false]
  rw [e2] at e
  exact e
theorem hasBit_or (s i j : Nat) : hasBit (s ||| 2 ^ i) j = (hasBit s j || decide (j = i)) := by
  rw [hasBit_test, hasBit_test, Nat.testBit_or, Nat.testBit_two_pow]
  congr 1
  rw [decide_eq_decide]
  exact eq_comm
theorem filter_plus {p q : Nat → Bool} {j : Nat} (hj : p j = false) (hq : ∀ i, q i = (p i || decide (i = j))) : ∀ l : List Nat, l.Nodup → (l.filter q).length = (l.filter p).length + (if j ∈ l then 1 else 0)
  | [], _ => rfl
  | x :: l, hn => by
    have hn := List.nodup_cons.mp hn
    have ih := filter_plus hj hq l hn.2
    by_cases e : x = j
    · subst e
      have e1 : q x = true := by rw [hq, decide_eq_true rfl, Bool.or_true]
      rw [List.filter_cons, List.filter_cons, e1, hj, if_pos rfl, if_neg Bool.false_ne_true, List.length_cons, ih, if_neg hn.1, if_pos List.mem_cons_self]
    · have e1 : q x = p x := by rw [hq, decide_eq_false e, Bool.or_false]
      have e2 : (j ∈ x :: l) ↔ (j ∈ l) := by
        rw [List.mem_cons]
        exact ⟨fun h => h.resolve_left fun z => e z.symm, .inr⟩
      rw [List.filter_cons, List.filter_cons, e1]
      simp only [e2]
      cases hp : p x with
      | true => 
        rw [if_pos rfl, if_pos rfl, List.length_cons, List.length_cons, ih]
        omega
      | false =>
        rw [if_neg Bool.false_ne_true, if_neg Bool.false_ne_true, ih]
theorem bcount_bits (s : Nat) : bcount (s : Int) = ((List.range 7).filter (hasBit s)).length := by
  unfold bcount
  have e : (bit (s : Int)) = hasBit s := by
    funext i
    rw [bit_hasBit (Int.natCast_nonneg s), Int.toNat_natCast]
  rw [e]
theorem bcount_add {s j : Nat} (h : hasBit s j = false) (hj : j < 7) : bcount ((s + 2 ^ j : Nat) : Int) = bcount (s : Int) + 1 := by
  rw [bcount_bits, bcount_bits, ← or_new h, filter_plus h (fun i => hasBit_or s j i) _ List.nodup_range, if_pos (List.mem_range.mpr hj)]
theorem bcount_le7 (s : Int) : bcount s ≤ 7 := by
  unfold bcount
  refine Nat.le_trans (List.length_filter_le _ _) ?_
  rw [List.length_range]
  exact Nat.le_refl _
theorem add_lt {s j n : Nat} (h : s < 2 ^ n) (hb : hasBit s j = false) (hj : j < n) : s + 2 ^ j < 2 ^ n := by
  rw [← or_new hb]
  exact Nat.or_lt_two_pow h (Nat.pow_lt_pow_right (by decide) hj)
/-- what with_next_box gives behind i boxes -/
def nextN (ns ms : List Int) (s i : Nat) : Nat := (List.range i).foldl (fun b k => if stockCost ((s ||| 2 ^ k : Nat) : Int) ns ms < stockCost (b : Int) ns ms then s ||| 2 ^ k else b) s
theorem nextN_more (ns ms : List Int) (s i : Nat) : nextN ns ms s (i + 1) = if stockCost ((s ||| 2 ^ i : Nat) : Int) ns ms < stockCost (nextN ns ms s i : Int) ns ms then s ||| 2 ^ i else nextN ns ms s i := by
  unfold nextN
  rw [List.range_succ, List.foldl_append]
  rfl
abbrev pB (ns : List Int) : List Size := (groups ns 3).map sz
abbrev pI (ms : List Int) : List Item := ((groups ms 4).zip (quants ms)).map mkItem
def greedyN (limit : Int) (ns ms : List Int) : Nat := Kbe3.greedyStock (pB ns) (pI ms) (min limit.toNat 7)
def greedyStock (limit : Int) (ns ms : List Int) : List Int :=
  if !areBoxes ns || !areItems ms then [-22]
  else [(greedyN limit ns ms : Nat), stockCost (greedyN limit ns ms : Nat) ns ms]
def pickStep (B : List Size) (I : List Item) (s : Nat) (best : Option Nat) (index : Nat) : Option Nat :=
  if hasBit s index then best
  else match best with
    | none => some index
    | some previous => if Kbe3.totalCost B I (s + 2 ^ index) < Kbe3.totalCost B I (s + 2 ^ previous) then some index else best
def pickN (B : List Size) (I : List Item) (s i : Nat) : Option Nat := (List.range i).foldl (pickStep B I s) none
theorem pickN_more (B : List Size) (I : List Item) (s i : Nat) : pickN B I s (i + 1) = pickStep B I s (pickN B I s i) i := by
  unfold pickN
  rw [List.range_succ, List.foldl_append]
  rfl
/-- what a pick makes of the stock -/
def taken (B : List Size) (I : List Item) (s : Nat) : Option Nat → Nat
  | none => s
  | some j => if Kbe3.totalCost B I (s + 2 ^ j) < Kbe3.totalCost B I s then s + 2 ^ j else s
theorem greedyFrom_more (B : List Size) (I : List Item) (f s : Nat) : Kbe3.greedyFrom B I (f + 1) s = match pickN B I s B.length with
    | none => s
    | some j => if Kbe3.totalCost B I (s + 2 ^ j) < Kbe3.totalCost B I s then Kbe3.greedyFrom B I f (s + 2 ^ j) else s := rfl
theorem nextN_pick {ns ms : List Int} (hb : areBoxes ns = true) (hi : areItems ms = true) (s : Nat) : ∀ i, nextN ns ms s i = taken (pB ns) (pI ms) s (pickN (pB ns) (pI ms) s i) ∧ ∀ j, pickN (pB ns) (pI ms) s i = some j → j < i ∧ hasBit s j = false
  | 0 => ⟨rfl, fun j h => by cases h⟩
  | i + 1 => by
    obtain ⟨ih, ih2⟩ := nextN_pick hb hi s i
    have c1 : ∀ s : Nat, stockCost (s : Int) ns ms = (Kbe3.totalCost (pB ns) (pI ms) s : Nat) := fun s => by
      rw [stockCost_eq (Int.natCast_nonneg s) hb hi, Int.toNat_natCast]
    rw [nextN_more, pickN_more, ih, c1, c1]
    simp only [Int.ofNat_lt]
    generalize pickN (pB ns) (pI ms) s i = o at ih2
    unfold pickStep
    cases hbit : hasBit s i with
    | true =>
      rw [or_has hbit, if_pos rfl]
      refine ⟨?_, fun j h => ⟨by have := (ih2 j h).1; omega, (ih2 j h).2⟩⟩
      rw [if_neg]
      cases o with
      | none => exact Nat.lt_irrefl _
      | some j =>
        unfold taken
        dsimp only
        split <;> omega
    | false =>
      rw [or_new hbit, if_neg Bool.false_ne_true]
      cases o with
      | none => exact ⟨rfl, fun j h => by cases h; exact ⟨Nat.lt_succ_self _, hbit⟩⟩
      | some p =>
        obtain ⟨hp, hpb⟩ := ih2 p rfl
        dsimp only
        by_cases c : Kbe3.totalCost (pB ns) (pI ms) (s + 2 ^ i) < Kbe3.totalCost (pB ns) (pI ms) (s + 2 ^ p)
        · rw [if_pos c]
          refine ⟨?_, fun j h => by cases h; exact ⟨Nat.lt_succ_self _, hbit⟩⟩
          have tp : taken (pB ns) (pI ms) s (some p) = if Kbe3.totalCost (pB ns) (pI ms) (s + 2 ^ p) < Kbe3.totalCost (pB ns) (pI ms) s then s + 2 ^ p else s := rfl
          have ti : taken (pB ns) (pI ms) s (some i) = if Kbe3.totalCost (pB ns) (pI ms) (s + 2 ^ i) < Kbe3.totalCost (pB ns) (pI ms) s then s + 2 ^ i else s := rfl
          by_cases c2 : Kbe3.totalCost (pB ns) (pI ms) (s + 2 ^ p) < Kbe3.totalCost (pB ns) (pI ms) s
          · rw [if_pos c2] at tp
            rw [tp, ti, if_pos c, if_pos (by omega)]
          · rw [if_neg c2] at tp
            rw [tp, ti]
        · rw [if_neg c]
          refine ⟨?_, fun j h => by cases h; exact ⟨by omega, hpb⟩⟩
          rw [if_neg]
          unfold taken
          dsimp only
          split <;> omega
theorem pB_length (ns : List Int) : (pB ns).length = ns.length / 3 := by rw [List.length_map, groups_length]
/-- a turn of the loop that adds nothing -/
theorem turn_stop {ns ms : List Int} (hb : areBoxes ns = true) (hi : areItems ms = true) {s : Nat} (h : nextN ns ms s (ns.length / 3) = s) : ∀ f, Kbe3.greedyFrom (pB ns) (pI ms) f s = s
  | 0 => rfl
  | f + 1 => by
    have e := (nextN_pick hb hi s (ns.length / 3)).1
    rw [h] at e
    rw [greedyFrom_more, pB_length]
    cases hp : pickN (pB ns) (pI ms) s (ns.length / 3) with
    | none => rfl
    | some j =>
      rw [hp] at e
      dsimp only
      unfold taken at e
      dsimp only at e
      have : 0 < 2 ^ j := Nat.two_pow_pos j
      split
      · rename_i c
        rw [if_pos c] at e
        omega
      · rfl
/-- a turn that adds a box -/
theorem turn_add {ns ms : List Int} (hb : areBoxes ns = true) (hi : areItems ms = true) {s : Nat} (hs : s < 2 ^ (ns.length / 3)) (h : nextN ns ms s (ns.length / 3) ≠ s) :
    bcount (nextN ns ms s (ns.length / 3) : Nat) = bcount (s : Nat) + 1 ∧ nextN ns ms s (ns.length / 3) < 2 ^ (ns.length / 3) ∧ ∀ f, Kbe3.greedyFrom (pB ns) (pI ms) (f + 1) s = Kbe3.greedyFrom (pB ns) (pI ms) f (nextN ns ms s (ns.length / 3)) := by
  obtain ⟨e, e2⟩ := nextN_pick hb hi s (ns.length / 3)
  have h7 : ns.length / 3 ≤ 7 := by
    have := (areBoxes_iff.mp hb).2.1
    omega
  cases hp : pickN (pB ns) (pI ms) s (ns.length / 3) with
  | none =>
    rw [hp] at e
    exact absurd e h
  | some j =>
    obtain ⟨hj, hjb⟩ := e2 j hp
    rw [hp] at e
    unfold taken at e
    dsimp only at e
    by_cases c : Kbe3.totalCost (pB ns) (pI ms) (s + 2 ^ j) < Kbe3.totalCost (pB ns) (pI ms) s
    · rw [if_pos c] at e
      rw [e]
      refine ⟨bcount_add hjb (by omega), add_lt hs hjb hj, fun f => ?_⟩
      rw [greedyFrom_more, pB_length, hp]
      dsimp only
      rw [if_pos c]
    · rw [if_neg c] at e
      exact absurd e h
theorem greedy_eq {limit : Int} {boxes items : List Int} (hs : 0 ≤ limit) (pb : ∀ x ∈ boxes, 0 ≤ x) (pi : ∀ x ∈ items, 0 ≤ x) : PyKbe3.greedy_stock limit boxes items = greedyStock limit boxes items := by
  show (let r := withBoxesAndItems (boxes.map Int.toNat) (items.map Int.toNat) fun parsedBoxes parsedItems => ⟨(Kbe3.greedyStock parsedBoxes parsedItems (min limit.toNat 7) : Nat), [(Kbe3.totalCost parsedBoxes parsedItems (Kbe3.greedyStock parsedBoxes parsedItems (min limit.toNat 7)) : Int)]⟩; r.head :: r.tail) = _
  rw [with_eq pb pi]
  unfold greedyStock
  by_cases c : areBoxes boxes = true ∧ areItems items = true
  · rw [if_pos c, c.1, c.2, if_neg (by decide), stockCost_eq (Int.natCast_nonneg _) c.1 c.2, Int.toNat_natCast]
    rfl
  · rw [if_neg c, if_pos]
    · rfl
    · cases h1 : areBoxes boxes <;> cases h2 : areItems items <;> simp_all
end Bx

namespace Bx
open Kbe3
/-! ### saving: the mirror, and that it is the specification -/
def saving (st bx : Int) (ns ms : List Int) : List Int :=
  if !areBoxes ns || !areItems ms then [-22]
  else if (2 : Int) ^ (ns.length / 3) ≤ st then [-2]
  else if ((ns.length / 3 : Nat) : Int) ≤ bx then [-2]
  else if bit st bx.toNat = true then [-17]
  else [stockCost st ns ms - stockCost ((st.toNat + 2 ^ bx.toNat : Nat) : Int) ns ms]
theorem foldl_min_le {α : Type} {f : α → Nat} : ∀ (l : List α) (d e : Nat), d ≤ e → l.foldl (fun a k => min a (f k)) d ≤ l.foldl (fun a k => min a (f k)) e
  | [], _, _, h => h
  | x :: l, d, e, h => by
    rw [List.foldl_cons, List.foldl_cons]
    exact foldl_min_le l _ _ (by omega)
theorem foldl_min_dec {α : Type} {f : α → Nat} : ∀ (l : List α) (d : Nat), l.foldl (fun a k => min a (f k)) d ≤ d
  | [], _ => Nat.le_refl _
  | x :: l, d => by
    rw [List.foldl_cons]
    exact Nat.le_trans (foldl_min_dec l _) (by omega)
/-- more of them: no greater least -/
theorem foldl_min_sub {α : Type} {f : α → Nat} {p q : α → Bool} (h : ∀ x, p x = true → q x = true) : ∀ (l : List α) (d : Nat), (l.filter q).foldl (fun a k => min a (f k)) d ≤ (l.filter p).foldl (fun a k => min a (f k)) d
  | [], _ => Nat.le_refl _
  | x :: l, d => by
    have ih := foldl_min_sub (f := f) h l
    rw [List.filter_cons, List.filter_cons]
    cases hp : p x with
    | true =>
      rw [h x hp, if_pos rfl, if_pos rfl, List.foldl_cons, List.foldl_cons]
      exact ih _
    | false =>
      rw [if_neg Bool.false_ne_true]
      cases hq : q x with
      | true =>
        rw [if_pos rfl, List.foldl_cons]
        exact Nat.le_trans (foldl_min_le _ _ _ (Nat.min_le_left _ _)) (ih d)
      | false =>
        rw [if_neg Bool.false_ne_true]
        exact ih d
theorem itemCost_mono {B : List Size} {s t : Nat} (h : ∀ i, hasBit s i = true → hasBit t i = true) (it : Size) : Kbe3.itemCost B t it ≤ Kbe3.itemCost B s it := by
  have hm : ∀ x : Size × Nat, (fun entry : Size × Nat => hasBit s entry.2 && Kbe3.fits it entry.1) x = true → (fun entry : Size × Nat => hasBit t entry.2 && Kbe3.fits it entry.1) x = true := fun x hx => by
    dsimp only at hx ⊢
    rw [Bool.and_eq_true] at hx ⊢
    exact ⟨h _ hx.1, hx.2⟩
  have e := foldl_min_sub (f := fun entry : Size × Nat => volume entry.1) hm B.zipIdx noBoxCost
  unfold Kbe3.itemCost
  exact e
theorem foldl_add_le {α : Type} {f g : α → Nat} (h : ∀ x, f x ≤ g x) : ∀ (l : List α) (d e : Nat), d ≤ e → (l.map f).foldl (· + ·) d ≤ (l.map g).foldl (· + ·) e
  | [], _, _, hd => hd
  | x :: l, d, e, hd => by
    rw [List.map_cons, List.map_cons, List.foldl_cons, List.foldl_cons]
    exact foldl_add_le h l _ _ (Nat.add_le_add hd (h x))
theorem totalCost_mono {B : List Size} {I : List Item} {s t : Nat} (h : ∀ i, hasBit s i = true → hasBit t i = true) : Kbe3.totalCost B I t ≤ Kbe3.totalCost B I s := by
  unfold Kbe3.totalCost
  have hx : ∀ x : Item, (fun item : Item => item.quantity * Kbe3.itemCost B t item.size) x ≤ (fun item : Item => item.quantity * Kbe3.itemCost B s item.size) x := fun x => Nat.mul_le_mul_left x.quantity (itemCost_mono h x.size)
  exact foldl_add_le hx I 0 0 (Nat.le_refl 0)
theorem totalCost_add {B : List Size} {I : List Item} {s i : Nat} (h : hasBit s i = false) : Kbe3.totalCost B I (s + 2 ^ i) ≤ Kbe3.totalCost B I s := by
  refine totalCost_mono fun j hj => ?_
  rw [← or_new h, hasBit_or, hj, Bool.true_or]
theorem saving_eq {stock box : Int} {boxes items : List Int} (hs : 0 ≤ stock) (hx : 0 ≤ box) (pb : ∀ x ∈ boxes, 0 ≤ x) (pi : ∀ x ∈ items, 0 ≤ x) : PyKbe3.saving stock box boxes items = saving stock box boxes items := by
  show (let r := withBoxesAndItems (boxes.map Int.toNat) (items.map Int.toNat) fun parsedBoxes parsedItems => withStock parsedBoxes stock.toNat (if parsedBoxes.length ≤ box.toNat then single notFound else if hasBit stock.toNat box.toNat then single alreadyDone else single (Kbe3.totalCost parsedBoxes parsedItems stock.toNat - Kbe3.totalCost parsedBoxes parsedItems (stock.toNat + 2 ^ box.toNat) : Nat)); r.head :: r.tail) = _
  rw [with_eq pb pi]
  unfold saving
  by_cases c : areBoxes boxes = true ∧ areItems items = true
  · have e0 : ¬ ((!areBoxes boxes || !areItems items) = true) := by
      rw [c.1, c.2]
      exact Bool.false_ne_true
    rw [if_pos c, if_neg e0]
    unfold withStock
    rw [List.length_map, groups_length]
    have e : (2 ^ (boxes.length / 3) ≤ stock.toNat) ↔ ((2 : Int) ^ (boxes.length / 3) ≤ stock) := by
      obtain ⟨n, rfl⟩ := Int.eq_ofNat_of_zero_le hs
      rw [Int.toNat_natCast]
      have e2 : ((2 : Int) ^ (boxes.length / 3)) = ((2 ^ (boxes.length / 3) : Nat) : Int) := by
        rw [Int.natCast_pow]
        rfl
      rw [e2]
      omega
    by_cases c2 : 2 ^ (boxes.length / 3) ≤ stock.toNat
    · rw [if_pos c2, if_pos (e.mp c2)]
      rfl
    · rw [if_neg c2, if_neg fun z => c2 (e.mpr z)]
      by_cases c3 : boxes.length / 3 ≤ box.toNat
      · have r3 : ((boxes.length / 3 : Nat) : Int) ≤ box := by omega
        rw [if_pos c3, if_pos r3]
        rfl
      · have r3 : ¬ ((boxes.length / 3 : Nat) : Int) ≤ box := by omega
        rw [if_neg c3, if_neg r3, bit_hasBit hs]
        cases hb : hasBit stock.toNat box.toNat with
        | true => rfl
        | false =>
          rw [if_neg Bool.false_ne_true, if_neg Bool.false_ne_true, stockCost_eq hs c.1 c.2, stockCost_eq (Int.natCast_nonneg _) c.1 c.2, Int.toNat_natCast]
          have hm := totalCost_add (B := (groups boxes 3).map sz) (I := ((groups items 4).zip (quants items)).map mkItem) hb
          show [_] = _
          congr 1
          unfold single
          dsimp only
          omega
  · rw [if_neg c, if_pos]
    · rfl
    · cases h1 : areBoxes boxes <;> cases h2 : areItems items <;> simp_all
end Bx

namespace Bx
open Kbe3
/-! ### cost_curve: the mirror, and that it is the specification -/
def bestCost (ns ms : List Int) (k : Nat) : Int := stockCost (bestN (k : Int) ns ms (2 ^ (ns.length / 3) - 1) : Nat) ns ms
def costCurve (ns ms : List Int) : List Int :=
  if !areBoxes ns || !areItems ms then [-22]
  else ((ns.length / 3 + 1 : Nat) : Int) :: (List.range (ns.length / 3 + 1)).map (bestCost ns ms)
theorem bestCost_eq {ns ms : List Int} (hb : areBoxes ns = true) (hi : areItems ms = true) (k : Nat) : bestCost ns ms k = (Kbe3.totalCost ((groups ns 3).map sz) (((groups ms 4).zip (quants ms)).map mkItem) (Kbe3.bestStock ((groups ns 3).map sz) (((groups ms 4).zip (quants ms)).map mkItem) k) : Nat) := by
  unfold bestCost
  have h1 : 1 ≤ 2 ^ (ns.length / 3) := Nat.one_le_two_pow
  have e := (bestN_spec (limit := (k : Int)) (Int.natCast_nonneg k) hb hi (2 ^ (ns.length / 3) - 1) (by omega)).1
  have hlen : ((groups ns 3).map sz).length = ns.length / 3 := by rw [List.length_map, groups_length]
  rw [show 2 ^ (ns.length / 3) - 1 + 1 = 2 ^ (ns.length / 3) by omega, ← hlen, ← specN_all, hlen, Int.toNat_natCast] at e
  rw [e, stockCost_eq (Int.natCast_nonneg _) hb hi, Int.toNat_natCast]
theorem curve_eq {boxes items : List Int} (pb : ∀ x ∈ boxes, 0 ≤ x) (pi : ∀ x ∈ items, 0 ≤ x) : PyKbe3.cost_curve boxes items = costCurve boxes items := by
  show (let r := withBoxesAndItems (boxes.map Int.toNat) (items.map Int.toNat) fun parsedBoxes parsedItems => ⟨(parsedBoxes.length + 1 : Nat), (List.range (parsedBoxes.length + 1)).map fun limit =>
      (Kbe3.totalCost parsedBoxes parsedItems (Kbe3.bestStock parsedBoxes parsedItems limit) : Int)⟩; r.head :: r.tail) = _
  rw [with_eq pb pi]
  unfold costCurve
  by_cases c : areBoxes boxes = true ∧ areItems items = true
  · rw [if_pos c, c.1, c.2, if_neg (by decide)]
    dsimp only
    rw [List.length_map, groups_length]
    congr 1
    exact List.map_congr_left fun k _ => (bestCost_eq c.1 c.2 k).symm
  · rw [if_neg c, if_pos]
    · rfl
    · cases h1 : areBoxes boxes <;> cases h2 : areItems items <;> simp_all
end Bx

namespace Bx
open Kbe3
/-! ### fits: the mirror, and that it is the specification -/
def fitsIn (a b : List Int) : List Int :=
  if !oneSize a || !oneSize b then [-22]
  else [if goes (isort a) (isort b) = true then 1 else 0]
theorem fits_eq {item_size box_size : List Int} (pa : ∀ x ∈ item_size, 0 ≤ x) (pb : ∀ x ∈ box_size, 0 ≤ x) : PyKbe3.fits item_size box_size = fitsIn item_size box_size := by
  show (let r := respond (.fits (item_size.map Int.toNat) (box_size.map Int.toNat)); r.head :: r.tail) = _
  unfold respond fitsIn
  dsimp only
  cases h1 : oneSize item_size with
  | false =>
    have h := parse_none pa h1
    rw [Bool.not_false, Bool.true_or, if_pos rfl]
    split
    · rename_i x y e1 e2
      exact absurd e1 (h x)
    · rfl
  | true =>
    cases h2 : oneSize box_size with
    | false =>
      have h := parse_none pb h2
      rw [Bool.not_false, Bool.or_true, if_pos rfl]
      split
      · rename_i x y e1 e2
        exact absurd e2 (h y)
      · rfl
    | true =>
      rw [parse_one pa h1, parse_one pb h2, if_neg (by decide), goes_fits (oneSize_ok h1) (oneSize_ok h2)]
      rfl
end Bx

namespace Bx
open Kbe3
/-! ### empty_space: the mirror, and that it is the specification -/
/-- the volume of all items -/
def itemsVol (ms : List Int) : Int := ((sizes ms 4).zip (quants ms)).foldl (fun c p => c + p.2 * vol p.1) 0
def emptySpace (st : Int) (ns ms : List Int) : List Int :=
  if !areBoxes ns || !areItems ms then [-22]
  else if (2 : Int) ^ (ns.length / 3) ≤ st then [-2]
  else [0, stockCost st ns ms - itemsVol ms]
theorem foldl_vol : ∀ (G : List (List Int)) (qs : List Int) (d : Nat), (∀ h ∈ G, okG h) → (∀ q ∈ qs, 0 ≤ q) →
    ((G.map isort).zip qs).foldl (fun c p => c + p.2 * vol p.1) (d : Int)
      = ((((G.zip qs).map mkItem).map fun item => item.quantity * volume item.size).foldl (· + ·) d : Nat)
  | [], _, _, _, _ => by simp
  | _ :: _, [], _, _, _ => by simp
  | g :: G, q :: qs, d, h1, h2 => by
    have hq := h2 q (by simp)
    have e : (d : Int) + q * vol (isort g) = ((d + q.toNat * volume (sz g) : Nat) : Int) := by
      rw [vol_volume (h1 g (by simp)), Int.natCast_add, Int.natCast_mul, Int.toNat_of_nonneg hq]
    show ((G.map isort).zip qs).foldl _ ((d : Int) + q * vol (isort g)) = _
    rw [e]
    exact foldl_vol G qs _ (fun x hx => h1 x (by simp [hx])) (fun x hx => h2 x (by simp [hx]))
theorem itemsVol_eq {ms : List Int} (hi : areItems ms = true) : itemsVol ms = (((((groups ms 4).zip (quants ms)).map mkItem).map fun item => item.quantity * volume item.size).foldl (· + ·) 0 : Nat) := by
  rw [areItems_iff] at hi
  unfold itemsVol
  rw [sizes_groups]
  refine foldl_vol (groups ms 4) (quants ms) 0 (groups4_ok ms hi.1 hi.2.2.1) fun q hq => ?_
  have := inRange_iff.mp hi.2.2.2 q hq
  omega
theorem empty_eq {stock : Int} {boxes items : List Int} (hs : 0 ≤ stock) (pb : ∀ x ∈ boxes, 0 ≤ x) (pi : ∀ x ∈ items, 0 ≤ x) : PyKbe3.empty_space stock boxes items = emptySpace stock boxes items := by
  show (let r := withBoxesAndItems (boxes.map Int.toNat) (items.map Int.toNat) fun parsedBoxes parsedItems => withStock parsedBoxes stock.toNat ⟨0, [Kbe3.emptySpace parsedBoxes parsedItems stock.toNat]⟩; r.head :: r.tail) = _
  rw [with_eq pb pi]
  unfold emptySpace
  by_cases c : areBoxes boxes = true ∧ areItems items = true
  · rw [if_pos c, c.1, c.2, if_neg (by decide)]
    unfold withStock
    rw [List.length_map, groups_length]
    have e : (2 ^ (boxes.length / 3) ≤ stock.toNat) ↔ ((2 : Int) ^ (boxes.length / 3) ≤ stock) := by
      obtain ⟨n, rfl⟩ := Int.eq_ofNat_of_zero_le hs
      rw [Int.toNat_natCast]
      have e2 : ((2 : Int) ^ (boxes.length / 3)) = ((2 ^ (boxes.length / 3) : Nat) : Int) := by
        rw [Int.natCast_pow]
        rfl
      rw [e2]
      omega
    by_cases c2 : 2 ^ (boxes.length / 3) ≤ stock.toNat
    · rw [if_pos c2, if_pos (e.mp c2)]
      rfl
    · rw [if_neg c2, if_neg fun z => c2 (e.mpr z), stockCost_eq hs c.1 c.2, itemsVol_eq c.2]
      rfl
  · rw [if_neg c, if_pos]
    · rfl
    · cases h1 : areBoxes boxes <;> cases h2 : areItems items <;> simp_all
end Bx

namespace Bx
open PySem PySem.Spec PyProof.Rows L2
def topS (i : Nat) : Stmt := PySem.Challenge.pw_boxeskept_s03_greedy_stock.main.body.getD i (.Pass ⟨0, 0, 0, 0⟩)
abbrev s_in_range : Stmt := topS 10
abbrev s_has_length : Stmt := topS 11
abbrev s_are_boxes : Stmt := topS 12
abbrev s_are_items : Stmt := topS 13
abbrev s_quantities_of : Stmt := topS 14
abbrev s_sorted_sizes : Stmt := topS 15
abbrev s_volume_of : Stmt := topS 16
abbrev s_goes_into : Stmt := topS 17
abbrev s_is_stocked : Stmt := topS 18
abbrev s_stocked_count : Stmt := topS 19
abbrev s_box_count : Stmt := topS 20
abbrev s_with_box : Stmt := topS 21
abbrev s_stocked_sizes : Stmt := topS 22
abbrev s_item_cost : Stmt := topS 23
abbrev s_stock_cost : Stmt := topS 24
abbrev s_with_next_box : Stmt := topS 25
abbrev s_greedy_stock : Stmt := topS 26
/-- a def of the text that the name x holds -/
structure Df (K : PySem.W.Frag) (mg : Str → Option Value) (x : Str) (st : Stmt) (ps : List Str) (f : Addr) (fd : FuncData) : Prop where
  F : Fun K x x st f fd
  b : Binds K fd ps []
  g : mg x = some (.ref f)
/-- a module's whole number -/
def Num (mg : Str → Option Value) (x : Str) (i : Int) : Prop := ∃ t, mg x = some (.int i t)
theorem pe_num {X : Cx} {x : Str} {i : Int} {pos : Pos} (h : Num X.mg x i) (hg : Gl X x) (hd : (x == ("__debug__" : Str)) = false := by decide) : PE X (.Name x pos) (tC (.int i)) := by
  obtain ⟨t, e⟩ := h
  exact pe_glob hg e ⟨_, rfl⟩ hd
theorem mapInt {ns : List Int} {i : Nat} {y : V} (h : (ns.map V.int)[i]? = some y) : ∃ z, ns[i]? = some z ∧ y = V.int z := by
  rw [List.getElem?_map] at h
  cases e : ns[i]? with
  | none =>
    rw [e] at h
    cases h
  | some z =>
    rw [e] at h
    exact ⟨z, rfl, (Option.some.inj h).symm⟩
theorem inRange_take {ns : List Int} {i : Nat} {z g : Int} (h : ns[i]? = some z) : inRange (ns.take (i + 1)) g = (inRange (ns.take i) g && (decide (1 ≤ z) && decide (z ≤ g))) := by
  unfold inRange
  rw [List.take_add_one, h, List.all_append]
  simp
theorem inRange_false {ns : List Int} {i : Nat} {z g : Int} (h : ns[i]? = some z) (hz : z < 1 ∨ g < z) : inRange ns g = false := by
  unfold inRange
  rw [List.all_eq_false]
  exact ⟨z, List.mem_of_getElem? h, by simp; omega⟩
theorem hasLength_eq (n st mo : Nat) : hasLength n st mo = (decide ((n : Int) % (st : Int) = 0) && decide ((n : Int) ≤ (st : Int) * (mo : Int))) := by
  unfold hasLength
  congr 1
  · rw [decide_eq_decide, ← Int.natCast_emod]
    omega
  · rw [decide_eq_decide, ← Int.natCast_mul]
    omega
theorem fm_map {α β : Type} {f : α → Option β} {g : α → β} : ∀ {l : List α}, (∀ x ∈ l, f x = some (g x)) → l.filterMap f = l.map g
  | [], _ => rfl
  | x :: l, h => by
    rw [List.filterMap_cons, h x (by simp), List.map_cons, fm_map fun y hy => h y (by simp [hy])]
theorem pick_quants (ns : List Int) : pickV (ns.map V.int) (some 3) none (some 4) = (quants ns).map V.int := by
  have e1 : (sliceBounds (some 3) none (some 4) (ns.map V.int).length) = (((min 3 ns.length : Nat) : Int), (ns.length : Int), (4 : Int)) := by
    unfold sliceBounds
    simp only [Option.getD_some, List.length_map, show (4 : Int) > 0 by decide, show ¬ (3 : Int) < 0 by decide, if_true, if_false]
    congr 1
    omega
  unfold pickV
  rw [e1]
  dsimp only
  unfold sliceRange
  have e2 : (if (4 : Int) > 0 then if ((min 3 ns.length : Nat) : Int) < ns.length then ((ns.length : Int) - ((min 3 ns.length : Nat) : Int) + 4 - 1) / 4 else 0
      else if ((min 3 ns.length : Nat) : Int) > ns.length then (((min 3 ns.length : Nat) : Int) - ns.length - 4 - 1) / (-4) else 0) = ((ns.length / 4 : Nat) : Int) := by
    rw [if_pos (by decide)]
    split <;> omega
  rw [e2]
  dsimp only
  rw [Int.toNat_natCast, List.filterMap_map]
  unfold quants
  rw [List.map_map]
  apply fm_map
  intro k hk
  have hk : k < ns.length / 4 := List.mem_range.mp hk
  have e3 : (((min 3 ns.length : Nat) : Int) + 4 * (k : Int)).toNat = 4 * k + 3 := by omega
  show (ns.map V.int)[(((min 3 ns.length : Nat) : Int) + 4 * (k : Int)).toNat]? = some (V.int (ns.getD (4 * k + 3) 0))
  rw [e3, List.getElem?_map, List.getD_eq_getElem?_getD, List.getElem?_eq_getElem (by omega)]
  rfl
theorem same_upd {H : Hp} {p : Addr} {o : HO} (h : H p = none) : Same H (upd H p o) := fun b x e => by
  rw [upd_ne (ne_of_none e h)]
  exact e
theorem cut_grp (ns : List Int) (i : Nat) (h : i ≤ ns.length) : cutV (ns.map V.int) (some (i : Int)) (some ((i : Int) + 3)) = (grp ns i).map V.int := by
  unfold cutV grp
  have e1 : HT.sIx (ns.map V.int).length 0 (some (i : Int)) = i := by
    rw [HT.sIx_nat, List.length_map]
    omega
  have e2 : HT.sIx (ns.map V.int).length (ns.map V.int).length (some ((i : Int) + 3)) = min (i + 3) ns.length := by
    rw [show ((i : Int) + 3) = ((i + 3 : Nat) : Int) by omega, HT.sIx_nat, List.length_map]
  rw [e1, e2, ← List.map_drop, ← List.map_take]
  congr 1
  by_cases hc : i + 3 ≤ ns.length
  · rw [show min (i + 3) ns.length - i = 3 by omega]
  · rw [List.take_of_length_le (by rw [List.length_drop]; omega), List.take_of_length_le (by rw [List.length_drop]; omega)]
/-- the turns of range(0, n, st) -/
theorem rgc {n st : Nat} (hs : st = 3 ∨ st = 4) (hd : n % st = 0) (hn : n ≤ 1000) : RgC 0 (n : Int) (st : Int) (n / st) := by
  have e : Builtin.Range.rangeSize 0 (n : Int) (st : Int) = ((n / st : Nat) : Int) := by
    unfold Builtin.Range.rangeSize
    rcases hs with rfl | rfl
    · rw [if_pos (by decide)]
      split <;> omega
    · rw [if_pos (by decide)]
      split <;> omega
  refine ⟨by omega, by omega, ?_, e⟩
  unfold Builtin.Range.small
  rw [e]
  simp only [Builtin.Range.rangeFitsLong, Bool.and_eq_true, Bool.or_eq_true, decide_eq_true_eq, beq_iff_eq]
  clear e
  rcases hs with rfl | rfl
  · rw [if_pos (by decide), Bool.and_eq_true, decide_eq_true_eq, decide_eq_true_eq]
    omega
  · rw [if_pos (by decide), Bool.and_eq_true, decide_eq_true_eq, decide_eq_true_eq]
    omega
/-- at the addresses as stand lists of whole numbers ss -/
def LA (H : Hp) (as : List Addr) (ss : List (List Int)) : Prop := as.length = ss.length ∧ ∀ (i : Nat) (a : Addr) (s : List Int), as[i]? = some a → ss[i]? = some s → H a = some (.lst (s.map V.int))
theorem LA.same {H H' : Hp} {as : List Addr} {ss : List (List Int)} (sm : Same H H') (h : LA H as ss) : LA H' as ss := ⟨h.1, fun i a s e1 e2 => sm _ _ (h.2 i a s e1 e2)⟩
theorem LA.upd {H : Hp} {as : List Addr} {ss : List (List Int)} {D : Addr} {o : HO} (hD : D ∉ as) (h : LA H as ss) : LA (upd H D o) as ss := ⟨h.1, fun i a s e1 e2 => by
  rw [upd_ne (fun z => hD (by rw [← z]; exact List.mem_of_getElem? e1))]
  exact h.2 i a s e1 e2⟩
theorem LA.nil (H : Hp) : LA H [] [] := ⟨rfl, fun i a s e1 _ => by simp at e1⟩
theorem LA.snoc {H : Hp} {as : List Addr} {ss : List (List Int)} {a : Addr} {s : List Int} (h : LA H as ss) (ha : H a = some (.lst (s.map V.int))) : LA H (as ++ [a]) (ss ++ [s]) := by
  refine ⟨by rw [List.length_append, List.length_append, h.1]; rfl, fun i b t e1 e2 => ?_⟩
  by_cases hi : i < as.length
  · rw [List.getElem?_append_left hi] at e1
    rw [List.getElem?_append_left (by rw [← h.1]; exact hi)] at e2
    exact h.2 i b t e1 e2
  · rw [List.getElem?_append_right (by omega)] at e1
    rw [List.getElem?_append_right (by rw [← h.1]; omega)] at e2
    cases e : i - as.length with
    | zero =>
      rw [← h.1, e] at e2
      rw [e] at e1
      have e1' : a = b := Option.some.inj e1
      have e2' : s = t := Option.some.inj e2
      rw [← e1', ← e2']
      exact ha
    | succ k =>
      rw [e] at e1
      simp at e1
theorem LA.tracked {H : Hp} {as : List Addr} {ss : List (List Int)} (h : LA H as ss) {a : Addr} (ha : a ∈ as) : ∃ s ∈ ss, H a = some (.lst (s.map V.int)) := by
  obtain ⟨i, hi, e⟩ := List.mem_iff_getElem.mp ha
  have hi2 : i < ss.length := by rw [← h.1]; exact hi
  exact ⟨ss[i], List.getElem_mem hi2, h.2 i a ss[i] (by rw [List.getElem?_eq_getElem hi, e]) (List.getElem?_eq_getElem hi2)⟩
theorem LA.fresh {H : Hp} {as : List Addr} {ss : List (List Int)} (h : LA H as ss) {D : Addr} (hD : H D = none) : D ∉ as := fun hm => by
  obtain ⟨s, _, e⟩ := h.tracked hm
  rw [hD] at e
  cases e
theorem sizes_get {ns : List Int} {st i : Nat} (h : i < ns.length / st) : (sizes ns st)[i]? = some (isort (grp ns (st * i))) := by
  unfold sizes
  rw [List.getElem?_map, List.getElem?_range h]
  rfl
theorem sizes_length (ns : List Int) (st : Nat) : (sizes ns st).length = ns.length / st := by
  unfold sizes
  rw [List.length_map, List.length_range]
theorem sizeLine_big {n : Nat} (h : n ≤ 1000) : n < sizeLine := small1000 h
theorem sl_listK {X : Cx} {K : PySem.W.Frag} (h : X.K = K := by rfl) : SlR X (rSlL K) := by
  subst h
  exact sl_list
theorem cr_sortedIK {X : Cx} {K : PySem.W.Frag} (h : X.K = K := by rfl) : CallR X (.builtin "sorted") (rSortedI K) := by
  subst h
  exact cr_sortedI
theorem okG_isort {g : List Int} (h : okG g) : okG (isort g) := by
  obtain ⟨a, b, c, rfl, h1, h2, h3⟩ := h
  rw [isort3]
  exact ⟨_, _, _, rfl, by omega, by omega, by omega⟩
theorem at_int {ns : List Int} {k : Nat} (h : k < ns.length) : atI (ns.map V.int) (k : Int) = some (V.int (ns.getD k 0)) := by
  refine atI_nat ?_
  rw [List.getElem?_map, List.getD_eq_getElem?_getD, List.getElem?_eq_getElem h]
  rfl
theorem goes_false {s t : List Int} {i : Nat} (hi : i < 3) (h : t.getD i 0 < s.getD i 0) : goes s t = false := by
  rw [Bool.eq_false_iff]
  intro z
  unfold goes at z
  rw [Bool.and_eq_true, Bool.and_eq_true, decide_eq_true_eq, decide_eq_true_eq, decide_eq_true_eq] at z
  match i, hi with
  | 0, _ => omega
  | 1, _ => omega
  | 2, _ => omega
theorem goes_true {s t : List Int} (h : ∀ k, k < 3 → s.getD k 0 ≤ t.getD k 0) : goes s t = true := by
  unfold goes
  rw [Bool.and_eq_true, Bool.and_eq_true, decide_eq_true_eq, decide_eq_true_eq, decide_eq_true_eq]
  exact ⟨⟨h 0 (by decide), h 1 (by decide)⟩, h 2 (by decide)⟩
/-- the stocked ones of the first i -/
def stk (st : Int) (l : List (List Int)) (i : Nat) : List (List Int) := ((l.take i).zipIdx.filter fun e => bit st e.2).map Prod.fst
theorem stk_more {st : Int} {l : List (List Int)} {i : Nat} {s : List Int} (h : l[i]? = some s) : stk st l (i + 1) = if bit st i = true then stk st l i ++ [s] else stk st l i := by
  unfold stk
  have hl : i < l.length := (List.getElem?_eq_some_iff.mp h).1
  rw [List.take_add_one, h, List.zipIdx_append, List.filter_append, List.map_append]
  have e : 0 + (l.take i).length = i := by
    rw [List.length_take]
    omega
  rw [e]
  show _ ++ (([(s, i)] : List (List Int × Nat)).filter fun e => bit st e.2).map Prod.fst = _
  cases hb : bit st i with
  | true => simp [hb]
  | false => simp [hb]
theorem stk_all (st : Int) (l : List (List Int)) : stk st l l.length = (l.zipIdx.filter fun e => bit st e.2).map Prod.fst := by
  unfold stk
  rw [List.take_length]
theorem stk_length (st : Int) (l : List (List Int)) (i : Nat) : (stk st l i).length ≤ i := by
  unfold stk
  rw [List.length_map]
  refine Nat.le_trans (List.length_filter_le _ _) ?_
  rw [List.length_zipIdx, List.length_take]
  exact Nat.min_le_left _ _
theorem mapRef {as : List Addr} {i : Nat} {y : V} (h : (as.map V.ref)[i]? = some y) : ∃ a, as[i]? = some a ∧ y = V.ref a := by
  rw [List.getElem?_map] at h
  cases e : as[i]? with
  | none =>
    rw [e] at h
    cases h
  | some z =>
    rw [e] at h
    exact ⟨z, rfl, (Option.some.inj h).symm⟩
theorem minI_minD (d : Int) (l : List Int) : minI d l = minD d l := by cases l <;> rfl
theorem okG_len {s : List Int} (h : okG s) : s.length = 3 := by
  obtain ⟨a, b, c, rfl, _⟩ := h
  rfl
theorem ix_listK {X : Cx} {K : PySem.W.Frag} (h : X.K = K := by rfl) : IxR X (rIxL K) := by
  subst h
  exact ix_list
/-- whole numbers from 0, as a list holds them -/
abbrev nv (l : List Nat) : List V := l.map fun (k : Nat) => V.int (k : Int)
theorem mapNat {l : List Nat} {i : Nat} {y : V} (h : (nv l)[i]? = some y) : ∃ k, l[i]? = some k ∧ y = V.int (k : Int) := by
  rw [List.getElem?_map] at h
  cases e : l[i]? with
  | none =>
    rw [e] at h
    cases h
  | some z =>
    rw [e] at h
    exact ⟨z, rfl, (Option.some.inj h).symm⟩
theorem nv_ints (l : List Nat) : nv l = (l.map fun (k : Nat) => (k : Int)).map V.int := by
  rw [List.map_map]
  rfl
theorem LA.at {H : Hp} {as : List Addr} {ns : List Int} {st k : Nat} (h : LA H as (sizes ns st)) (hk : k < ns.length / st) : ∃ b, as[k]? = some b ∧ H b = some (.lst ((isort (grp ns (st * k))).map V.int)) := by
  have hl : as.length = ns.length / st := by rw [h.1, sizes_length]
  have hk2 : k < as.length := by omega
  exact ⟨as[k], List.getElem?_eq_getElem hk2, h.2 k _ _ (List.getElem?_eq_getElem hk2) (sizes_get hk)⟩
theorem filter_more {l : List Nat} {p : Nat → Bool} {i k : Nat} (h : l[i]? = some k) : (l.take (i + 1)).filter p = (l.take i).filter p ++ (if p k = true then [k] else []) := by
  rw [List.take_add_one, h, List.filter_append]
  congr 1
  show ([k] : List Nat).filter p = _
  cases hp : p k <;> simp [hp]
theorem oneSize_pos {ss : List Int} (h : oneSize ss = true) : okG (isort ss) := okG_isort (oneSize_ok h)

section
variable {P : Program} {w : World} {K : PySem.W.Frag} {mg : Str → Option Value} {base : Heap}
/-! ### in_range -/
def sp_in_range (K : PySem.W.Frag) : Sp := fun vs H Q _ => ∃ (a : Addr) (ns : List Int) (g : Int), vs = [.ref a, .int g] ∧ SqL K H a (ns.map V.int) ∧ Q (.bl (inRange ns g)) H
theorem sc_in_range : FnScope ["numbers", "greatest", "number"] ["numbers", "greatest"] (defScope s_in_range) := ⟨rfl, rfl, rfl, by decide +kernel, rfl, by decide +kernel, by decide +kernel⟩
theorem ok_in_range {f : Addr} {fd : FuncData} (F : Fun K "in_range" "in_range" s_in_range f fd) : FnOk P w K mg base CX0 1 f fd ["numbers", "greatest"] (sp_in_range K) := by
  refine F.ok sc_in_range (fun vs H Q E h => ?_) (fun cdv A outer s H vs Q E hr h => ?_)
  · obtain ⟨a, ns, g, rfl, _⟩ := h
    rfl
  · obtain ⟨a, ns, g, rfl, hS, q⟩ := h
    refine ⟨_, pss_cons (ps_for PassesOwn.never rfl (pi_list (pv 0)) (pg_name (i := 2) sc_in_range.nd rfl (.inl rfl))
        (pss_one (ps_if (PW.pt (pw_or (pt_cmp (pc_lt (pv 2) pe_int)) (pw_or1 (pt_cmp (pc_gt (pv 2) (pv 1)))))) (pss_one (ps_ret pe_bl)) pss_nil)))
      (pss_one (ps_ret pe_bl)), ?_⟩
    refine ⟨.ref a, rfl, a, rfl, ⟨_, hS⟩, for_list (K := K) (a := a) (xs := ns.map V.int) (fun i σ H' => H' = H ∧ inRange (ns.take i) g = true ∧ ∃ v, σ = [some (.ref a), some (.int g), v])
      ⟨rfl, rfl, none, rfl⟩ (fun i σ H' _ ⟨e, _⟩ => by rw [e]; exact hS) ?_ ?_⟩
    · rintro i x σ H' hx ⟨rfl, hi, v, rfl⟩
      obtain ⟨z, hz, rfl⟩ := mapInt hx
      refine ⟨.int z, rfl, z, 1, rfl, rfl, _, rfl, ite2 (fun c => ?_) (fun c => ?_)⟩
      · refine iteT ?_
        rw [inRange_false hz (.inl (of_decide_eq_true c))] at q
        exact q
      · refine ⟨.int z, rfl, .int g, rfl, z, g, rfl, rfl, _, rfl, ite2 (fun c2 => ?_) (fun c2 => ?_)⟩
        · rw [inRange_false hz (.inr (of_decide_eq_true c2))] at q
          exact q
        · refine ⟨rfl, ?_, some (.int z), rfl⟩
          rw [inRange_take hz, hi]
          simp only [decide_eq_true_eq] at c c2
          simp
          omega
    · rintro σ H' ⟨rfl, hi, v, rfl⟩
      rw [List.length_map, List.take_length] at hi
      rw [hi] at q
      exact q

/-! ### has_length -/
def sp_has_length (K : PySem.W.Frag) : Sp := fun vs H Q _ => ∃ (a : Addr) (ns : List Int) (st mo : Nat), vs = [.ref a, .int st, .int mo] ∧ SqL K H a (ns.map V.int) ∧ 0 < st ∧ st < 100 ∧ Q (.bl (hasLength ns.length st mo)) H
theorem sc_has_length : FnScope ["numbers", "step", "most"] ["numbers", "step", "most"] (defScope s_has_length) := ⟨rfl, rfl, rfl, by decide +kernel, rfl, by decide +kernel, by decide +kernel⟩
theorem ok_has_length {f : Addr} {fd : FuncData} (F : Fun K "has_length" "has_length" s_has_length f fd) (ml : mg "len" = none) : FnOk P w K mg base CX0 1 f fd ["numbers", "step", "most"] (sp_has_length K) := by
  refine F.ok sc_has_length (fun vs H Q E h => ?_) (fun cdv A outer s H vs Q E hr h => ?_)
  · obtain ⟨a, ns, st, mo, rfl, _⟩ := h
    rfl
  · obtain ⟨a, ns, st, mo, rfl, hS, h0, h1, q⟩ := h
    refine ⟨_, pss_one (ps_ret (pe_and (pe_cmp (pc_eqI (pe_op op_mod (pe_callB call_len_seq (by rfl) ml PySem.boot_len (pa_cons (pv 0) pa_nil)) (pv 1)) pe_int))
      (pe_one (pe_cmp (pc_le (pe_callB call_len_seq (by rfl) ml PySem.boot_len (pa_cons (pv 0) pa_nil)) (pe_op op_mul (pv 1) (pv 2))))))), ?_⟩
    rw [hasLength_eq] at q
    refine ⟨.ref a, rfl, a, ns.map V.int, rfl, .inl hS, .int st, rfl, (((ns.map V.int).length : Nat) : Int), (st : Int), rfl, rfl, (by omega), _, 0, rfl, rfl, _, rfl, ?_⟩
    rw [List.length_map]
    refine ite2 (fun c => ?_) (fun c => ?_)
    · refine ⟨.ref a, rfl, a, ns.map V.int, rfl, .inl hS, .int st, rfl, .int mo, rfl, (st : Int), (mo : Int), rfl, rfl, .inl (by omega), _, _, rfl, rfl, ?_⟩
      rw [List.length_map]
      have c' : decide ((ns.length : Int) % (st : Int) = 0) = true := c
      rw [c', Bool.true_and] at q
      exact q
    · have c' : decide ((ns.length : Int) % (st : Int) = 0) = false := Bool.eq_false_iff.mpr c
      rw [c', Bool.false_and] at q
      exact q

/-! ### are_boxes -/
def sp_are_boxes (K : PySem.W.Frag) : Sp := fun vs H Q _ => ∃ (a : Addr) (ns : List Int), vs = [.ref a] ∧ SqL K H a (ns.map V.int) ∧ Q (.bl (areBoxes ns)) H
theorem sc_are_boxes : FnScope ["boxes"] ["boxes"] (defScope s_are_boxes) := ⟨rfl, rfl, rfl, by decide +kernel, rfl, by decide +kernel, by decide +kernel⟩
theorem ok_are_boxes {f f1 f2 : Addr} {fd fd1 fd2 : FuncData} (F : Fun K "are_boxes" "are_boxes" s_are_boxes f fd) (D1 : Df K mg "has_length" s_has_length ["numbers", "step", "most"] f1 fd1) (D2 : Df K mg "in_range" s_in_range ["numbers", "greatest"] f2 fd2)
    (ml : mg "len" = none) (n1 : Num mg "NUMBERS_PER_BOX" 3) (n2 : Num mg "MOST_BOXES" 7) (n3 : Num mg "LONGEST_EDGE" 20) : FnOk P w K mg base CX0 2 f fd ["boxes"] (sp_are_boxes K) := by
  have G1 : FnOk P w K mg base CX0 1 f1 fd1 _ (sp_has_length K) := ok_has_length D1.F ml
  have G2 : FnOk P w K mg base CX0 1 f2 fd2 _ (sp_in_range K) := ok_in_range D2.F
  refine F.ok sc_are_boxes (fun vs H Q E h => ?_) (fun cdv A outer s H vs Q E hr h => ?_)
  · obtain ⟨a, ns, rfl, _⟩ := h
    rfl
  · obtain ⟨a, ns, rfl, hS, q⟩ := h
    refine ⟨_, pss_one (ps_ret (pe_and (pe_call G1 hr (by rfl) D1.g D1.F.kp D1.b .nil pass0 (pa_cons (pv 0) (pa_cons (pe_num n1 rfl) (pa_cons (pe_num n2 rfl) pa_nil))))
      (pe_one (pe_call G2 hr (by rfl) D2.g D2.F.kp D2.b .nil pass0 (pa_cons (pv 0) (pa_cons (pe_num n3 rfl) pa_nil)))))), ?_⟩
    refine ⟨.ref a, rfl, a, ns, 3, 7, rfl, hS, by decide, by decide, _, rfl, ?_⟩
    unfold areBoxes at q
    refine ite2 (fun c => ?_) (fun c => ?_)
    · refine ⟨.ref a, rfl, a, ns, 20, rfl, hS, ?_⟩
      rw [c, Bool.true_and] at q
      exact q
    · have c' := Bool.eq_false_iff.mpr c
      rw [c', Bool.false_and] at q
      exact q

/-! ### quantities_of -/
def sp_quantities_of (K : PySem.W.Frag) : Sp := fun vs H Q _ => ∃ (a : Addr) (ns : List Int), vs = [.ref a] ∧ SqL K H a (ns.map V.int) ∧ ∀ p, H p = none → Q (.ref p) (upd H p (.lst ((quants ns).map V.int)))
theorem sc_quantities_of : FnScope ["items"] ["items"] (defScope s_quantities_of) := ⟨rfl, rfl, rfl, by decide +kernel, rfl, by decide +kernel, by decide +kernel⟩
theorem ok_quantities_of {f : Addr} {fd : FuncData} (F : Fun K "quantities_of" "quantities_of" s_quantities_of f fd) (n1 : Num mg "EDGES" 3) (n2 : Num mg "NUMBERS_PER_ITEM" 4) : FnOk P w K mg base CX0 1 f fd ["items"] (sp_quantities_of K) := by
  refine F.ok sc_quantities_of (fun vs H Q E h => ?_) (fun cdv A outer s H vs Q E hr h => ?_)
  · obtain ⟨a, ns, rfl, _⟩ := h
    rfl
  · obtain ⟨a, ns, rfl, hS, q⟩ := h
    refine ⟨_, pss_one (ps_ret (pe_slice3 (pv 0) (po_some (pe_num n1 rfl)) po_none (po_some (pe_num n2 rfl)))), ?_⟩
    refine ⟨.ref a, rfl, 3, rfl, 4, rfl, a, ns.map V.int, rfl, hS, by decide, fun p hp => ?_⟩
    rw [pick_quants]
    exact q p hp

/-! ### are_items -/
def sp_are_items (K : PySem.W.Frag) : Sp := fun vs H Q _ => ∃ (a : Addr) (ns : List Int), vs = [.ref a] ∧ SqL K H a (ns.map V.int) ∧ ns.length ≤ 1000 ∧ ∀ H', Same H H' → Q (.bl (areItems ns)) H'
theorem sc_are_items : FnScope ["items", "start"] ["items"] (defScope s_are_items) := ⟨rfl, rfl, rfl, by decide +kernel, rfl, by decide +kernel, by decide +kernel⟩
theorem ok_are_items {f f1 f2 f3 : Addr} {fd fd1 fd2 fd3 : FuncData} (F : Fun K "are_items" "are_items" s_are_items f fd) (D1 : Df K mg "has_length" s_has_length ["numbers", "step", "most"] f1 fd1) (D2 : Df K mg "in_range" s_in_range ["numbers", "greatest"] f2 fd2)
    (D3 : Df K mg "quantities_of" s_quantities_of ["items"] f3 fd3) (ml : mg "len" = none) (mr : mg "range" = none) (n0 : Num mg "EDGES" 3) (n1 : Num mg "NUMBERS_PER_ITEM" 4) (n2 : Num mg "MOST_ITEMS" 8) (n3 : Num mg "LONGEST_EDGE" 20) (n4 : Num mg "GREATEST_QUANTITY" 99) : FnOk P w K mg base CX0 2 f fd ["items"] (sp_are_items K) := by
  have G1 : FnOk P w K mg base CX0 1 f1 fd1 _ (sp_has_length K) := ok_has_length D1.F ml
  have G2 : FnOk P w K mg base CX0 1 f2 fd2 _ (sp_in_range K) := ok_in_range D2.F
  have G3 : FnOk P w K mg base CX0 1 f3 fd3 _ (sp_quantities_of K) := ok_quantities_of D3.F n0 n1
  refine F.ok sc_are_items (fun vs H Q E h => ?_) (fun cdv A outer s H vs Q E hr h => ?_)
  · obtain ⟨a, ns, rfl, _⟩ := h
    rfl
  · obtain ⟨a, ns, rfl, hS, hlen, q⟩ := h
    refine ⟨_, pss_cons (ps_if (pt_not (pt_val (pe_call G1 hr (by rfl) D1.g D1.F.kp D1.b .nil pass0 (pa_cons (pv 0) (pa_cons (pe_num n1 rfl) (pa_cons (pe_num n2 rfl) pa_nil)))))) (pss_one (ps_ret pe_bl)) pss_nil)
      (pss_cons (ps_for PassesOwn.never rfl (pi_range3 rfl mr (pa_cons pe_int (pa_cons (pe_callB call_len_seq (by rfl) ml PySem.boot_len (pa_cons (pv 0) pa_nil)) (pa_cons (pe_num n1 rfl) pa_nil)))) (pg_name (i := 1) sc_are_items.nd rfl (.inl rfl))
        (pss_one (ps_if (pt_not (pt_val (pe_call G2 hr (by rfl) D2.g D2.F.kp D2.b .nil pass0 (pa_cons (pe_slice sl_list (pv 0) (po_some (pv 1)) (po_some (pe_op op_add (pv 1) (pe_num n0 rfl)))) (pa_cons (pe_num n3 rfl) pa_nil)))))
          (pss_one (ps_ret pe_bl)) pss_nil)))
      (pss_one (ps_ret (pe_call G2 hr (by rfl) D2.g D2.F.kp D2.b .nil pass0 (pa_cons (pe_call G3 hr (by rfl) D3.g D3.F.kp D3.b .nil pass0 (pa_cons (pv 0) pa_nil)) (pa_cons (pe_num n4 rfl) pa_nil)))))), ?_⟩
    -- has_length
    refine ⟨.ref a, rfl, a, ns, 4, 8, rfl, hS, by decide, by decide, _, rfl, ?_⟩
    have ea : areItems ns = (hasLength ns.length 4 8 && edgesOk ns && inRange (quants ns) 99) := rfl
    cases hc : hasLength ns.length 4 8 with
    | false =>
      refine iteT ?_
      rw [hc, Bool.false_and, Bool.false_and] at ea
      have := q H (Same.refl H)
      rw [ea] at this
      exact this
    | true =>
      refine iteF ?_
      rw [hc, Bool.true_and] at ea
      have hd : ns.length % 4 = 0 := by
        unfold hasLength at hc
        rw [Bool.and_eq_true, decide_eq_true_eq] at hc
        exact hc.1
      -- for start in range(0, len(items), 4)
      refine ⟨.ref a, rfl, a, ns.map V.int, rfl, .inl hS, 0, ((ns.map V.int).length : Int), 4, ns.length / 4, rfl, by rw [List.length_map]; exact rgc (.inr rfl) hd hlen, for_rangeC (lo := 0) (c := 4) (n := ns.length / 4) (fun i σ H' => Same H H' ∧ (∃ v, σ = [some (.ref a), v]) ∧ ((List.range i).all fun k => inRange (grp ns (4 * k)) 20) = true)
        ⟨Same.refl H, ⟨none, rfl⟩, rfl⟩ ?_ ?_⟩
      · rintro i σ H' hi ⟨sm, ⟨v, rfl⟩, hall⟩
        have e4 : (0 : Int) + (i : Nat) * 4 = ((4 * i : Nat) : Int) := by omega
        rw [e4]
        refine ⟨.ref a, rfl, .int ((4 * i : Nat) : Int), rfl, ((4 * i : Nat) : Int), rfl, .int ((4 * i : Nat) : Int), rfl, _, _, rfl, rfl, _, rfl, a, ns.map V.int, rfl, sm.seq hS, fun p hp => ?_⟩
        rw [cut_grp ns (4 * i) (by omega)]
        have s2 : Same H' (upd H' p (.lst ((grp ns (4 * i)).map V.int))) := same_upd hp
        refine ⟨p, grp ns (4 * i), 20, rfl, .inl (.inl upd_same), _, rfl, ?_⟩
        have hmem : i ∈ List.range (ns.length / 4) := List.mem_range.mpr hi
        cases hc2 : inRange (grp ns (4 * i)) 20 with
        | false =>
          refine iteT ?_
          have ef : edgesOk ns = false := List.all_eq_false.mpr ⟨i, hmem, by rw [hc2]; exact Bool.false_ne_true⟩
          rw [ef, Bool.false_and] at ea
          have := q _ (sm.trans s2)
          rw [ea] at this
          exact this
        | true =>
          refine iteF ⟨sm.trans s2, ⟨_, rfl⟩, ?_⟩
          rw [List.range_succ, List.all_append, hall]
          show (true && (inRange (grp ns (4 * i)) 20 && true)) = true
          rw [hc2]
          rfl
      · rintro σ H' ⟨sm, ⟨v, rfl⟩, hall⟩
        have et : edgesOk ns = true := hall
        rw [et, Bool.true_and] at ea
        refine ⟨.ref a, rfl, a, ns, rfl, sm.seq hS, fun p hp => ?_⟩
        refine ⟨p, quants ns, 99, rfl, .inl (.inl upd_same), ?_⟩
        have := q _ (sm.trans (same_upd (o := .lst ((quants ns).map V.int)) hp))
        rw [ea] at this
        exact this

/-! ### sorted_sizes -/
def sp_sorted_sizes (K : PySem.W.Frag) : Sp := fun vs H Q _ => ∃ (a : Addr) (ns : List Int) (st : Nat), vs = [.ref a, .int st] ∧ SqL K H a (ns.map V.int) ∧ (st = 3 ∨ st = 4) ∧ ns.length % st = 0 ∧ ns.length ≤ 1000 ∧
  ∀ (H' : Hp) (p : Addr) (as : List Addr), Same H H' → H p = none → H' p = some (.lst (as.map V.ref)) → LA H' as (sizes ns st) → Q (.ref p) H'
theorem sc_sorted_sizes : FnScope ["numbers", "step", "start"] ["numbers", "step"] (defScope s_sorted_sizes) := ⟨rfl, rfl, rfl, by decide +kernel, rfl, by decide +kernel, by decide +kernel⟩
theorem ok_sorted_sizes {f : Addr} {fd : FuncData} (F : Fun K "sorted_sizes" "sorted_sizes" s_sorted_sizes f fd) (ml : mg "len" = none) (mr : mg "range" = none) (ms : mg "sorted" = none) (n0 : Num mg "EDGES" 3) : FnOk P w K mg base CX0 1 f fd ["numbers", "step"] (sp_sorted_sizes K) := by
  refine F.ok sc_sorted_sizes (fun vs H Q E h => ?_) (fun cdv A outer s H vs Q E hr h => ?_)
  · obtain ⟨a, ns, st, rfl, _⟩ := h
    rfl
  · obtain ⟨a, ns, st, rfl, hS, hst, hd, hlen, q⟩ := h
    refine ⟨_, pss_one (ps_ret (pe_lc (own := [("start", 2)]) (g := gName 2) (tt := tYes) rfl sc_sorted_sizes.nd
      (pi_range3 rfl mr (pa_cons pe_int (pa_cons (pe_callB call_len_seq (by rfl) ml PySem.boot_len (pa_cons (pv 0) pa_nil)) (pa_cons (pv 1) pa_nil))))
      (blkOk_by (own := [("start", 2)]) (N := ["numbers", "step", "start"]) (sc := defScope s_sorted_sizes) (by decide +kernel))
      (fun _ _ _ _ _ => pg_name (i := 2) sc_sorted_sizes.nd rfl (Or.inl rfl)) (fun _ _ _ _ _ => pts_nil)
      (fun _ _ _ _ _ => pe_callB (cr_sortedIK (K := K)) (by rfl) ms (by decide +kernel) (pa_cons (pe_slice (sl_listK (K := K)) (pv 0) (po_some (pv 2)) (po_some (pe_op op_add (pv 2) (pe_num n0 rfl)))) pa_nil)))), ?_⟩
    refine ⟨.ref a, rfl, a, ns.map V.int, rfl, .inl hS, .int st, rfl, 0, ((ns.map V.int).length : Int), st, ns.length / st, rfl, by rw [List.length_map]; exact rgc hst hd hlen, fun D hD => ?_⟩
    have hst0 : 0 < st := by omega
    refine lc_it walk_rangeC (fun i H' => ∃ as : List Addr, Same H H' ∧ H' D = some (.lst (as.map V.ref)) ∧ D ∉ as ∧ LA H' as ((sizes ns st).take i))
      ⟨[], same_upd hD, upd_same, by simp, LA.nil _⟩ (fun _ _ _ _ => trivial) ?_ ?_
    · rintro i x H1 H2 hi ⟨as, sm, hDa, hDn, hL⟩ ⟨rfl, ex⟩
      have hle : st * i + st ≤ ns.length := by
        have h1 : st * (i + 1) ≤ st * (ns.length / st) := Nat.mul_le_mul_left st hi
        have h2 : st * (ns.length / st) ≤ ns.length := Nat.mul_div_le ns.length st
        rw [Nat.mul_add] at h1
        omega
      have e4 : (0 : Int) + (i : Nat) * (st : Nat) = ((st * i : Nat) : Int) := by
        rw [Int.zero_add, ← Int.natCast_mul, Nat.mul_comm]
      have ex' : x = V.int ((st * i : Nat) : Int) := ex.trans (congrArg V.int e4)
      subst ex'
      refine ⟨rfl, .ref a, rfl, .int ((st * i : Nat) : Int), rfl, ((st * i : Nat) : Int), rfl, .int ((st * i : Nat) : Int), rfl, _, _, rfl, rfl, _, rfl, a, ns.map V.int, rfl, sm.seq hS, fun p1 hp1 => ?_⟩
      rw [cut_grp ns (st * i) (by omega)]
      refine ⟨p1, grp ns (st * i), rfl, .inl (.inl upd_same), fun ns' p2 hperm hsrt hp2 => ?_⟩
      have e5 : ns' = isort (grp ns (st * i)) := isort_eq hperm hsrt
      subst e5
      have nD1 : D ≠ p1 := ne_of_none hDa hp1
      have s1 : Same H2 (upd H2 p1 (.lst ((grp ns (st * i)).map V.int))) := same_upd hp1
      have s2 : Same _ (upd (upd H2 p1 (.lst ((grp ns (st * i)).map V.int))) p2 (.lst ((isort (grp ns (st * i))).map V.int))) := same_upd hp2
      have hD2 := s2 _ _ (s1 _ _ hDa)
      have nD2 : D ≠ p2 := ne_of_none (s1 _ _ hDa) hp2
      have hal : as.length ≤ 1000 := by
        have h1 := hL.1
        rw [List.length_take] at h1
        have h2 : ns.length / st ≤ ns.length := Nat.div_le_self _ _
        omega
      refine ⟨as.map V.ref, hD2, sizeLine_big (by rw [List.length_map]; exact hal), as ++ [p2], ?_, ?_, ?_, ?_⟩
      · intro b o e
        have nb : b ≠ D := ne_of_none e hD
        rw [upd_ne nb]
        exact s2 _ _ (s1 _ _ (sm _ _ e))
      · rw [upd_same, List.map_append]
        rfl
      · intro hm
        rcases List.mem_append.mp hm with hm | hm
        · exact hDn hm
        · exact nD2 (List.mem_singleton.mp hm)
      · rw [List.take_add_one, sizes_get hi]
        refine LA.snoc (LA.upd hDn (LA.same s2 (LA.same s1 hL))) ?_
        rw [upd_ne nD2.symm]
        exact upd_same
    · rintro H1 ⟨as, sm, hDa, hDn, hL⟩
      rw [List.take_of_length_le (by rw [sizes_length]; exact Nat.le_refl _)] at hL
      exact q H1 D as sm hD hDa hL

/-! ### volume_of -/
def sp_volume_of (K : PySem.W.Frag) : Sp := fun vs H Q _ => ∃ (a : Addr) (s : List Int), vs = [.ref a] ∧ SqL K H a (s.map V.int) ∧ okG s ∧ Q (.int (vol s)) H
theorem sc_volume_of : FnScope ["size"] ["size"] (defScope s_volume_of) := ⟨rfl, rfl, rfl, by decide +kernel, rfl, by decide +kernel, by decide +kernel⟩
theorem ok_volume_of {f : Addr} {fd : FuncData} (F : Fun K "volume_of" "volume_of" s_volume_of f fd) : FnOk P w K mg base CX0 1 f fd ["size"] (sp_volume_of K) := by
  refine F.ok sc_volume_of (fun vs H Q E h => ?_) (fun cdv A outer s H vs Q E hr h => ?_)
  · obtain ⟨a, ns, rfl, _⟩ := h
    rfl
  · obtain ⟨a, ns, rfl, hS, hok, q⟩ := h
    obtain ⟨x, y, z, rfl, h1, h2, h3⟩ := hok
    refine ⟨_, pss_one (ps_ret (pe_op op_mul (pe_op op_mul (pe_ix ix_list (pv 0) pe_int (fun _ _ => rfl)) (pe_ix ix_list (pv 0) pe_int (fun _ _ => rfl))) (pe_ix ix_list (pv 0) pe_int (fun _ _ => rfl)))), ?_⟩
    exact ⟨.ref a, rfl, a, _, 0, .int x, rfl, rfl, hS, rfl, .ref a, rfl, a, _, 1, .int y, rfl, rfl, hS, rfl, x, y, rfl, rfl, .inl (by omega), .ref a, rfl, a, _, 2, .int z, rfl, rfl, hS, rfl, x * y, z, rfl, rfl, .inr (by omega), q⟩

/-! ### goes_into -/
def sp_goes_into (K : PySem.W.Frag) : Sp := fun vs H Q _ => ∃ (a b : Addr) (s t : List Int), vs = [.ref a, .ref b] ∧ SqL K H a (s.map V.int) ∧ SqL K H b (t.map V.int) ∧ s.length = 3 ∧ t.length = 3 ∧ Q (.bl (goes s t)) H
theorem sc_goes_into : FnScope ["item_size", "box_size", "edge"] ["item_size", "box_size"] (defScope s_goes_into) := ⟨rfl, rfl, rfl, by decide +kernel, rfl, by decide +kernel, by decide +kernel⟩
theorem ok_goes_into {f : Addr} {fd : FuncData} (F : Fun K "goes_into" "goes_into" s_goes_into f fd) (mr : mg "range" = none) (n0 : Num mg "EDGES" 3) : FnOk P w K mg base CX0 1 f fd ["item_size", "box_size"] (sp_goes_into K) := by
  refine F.ok sc_goes_into (fun vs H Q E h => ?_) (fun cdv A outer s H vs Q E hr h => ?_)
  · obtain ⟨a, b, s, t, rfl, _⟩ := h
    rfl
  · obtain ⟨a, b, s, t, rfl, hS, hT, ls, lt, q⟩ := h
    refine ⟨_, pss_cons (ps_for PassesOwn.never rfl (pi_range1 rfl mr (pa_cons (pe_num n0 rfl) pa_nil)) (pg_name (i := 2) sc_goes_into.nd rfl (.inl rfl))
        (pss_one (ps_if (pt_cmp (pc_gt (pe_ix ix_list (pv 0) (pv 2) (fun _ _ => rfl)) (pe_ix ix_list (pv 1) (pv 2) (fun _ _ => rfl)))) (pss_one (ps_ret pe_bl)) pss_nil)))
      (pss_one (ps_ret pe_bl)), ?_⟩
    refine ⟨3, rfl, by decide, by decide, for_range (lo := 0) (n := 3) (fun i σ H' => H' = H ∧ (∃ v, σ = [some (.ref a), some (.ref b), v]) ∧ ∀ k, k < i → s.getD k 0 ≤ t.getD k 0) ⟨rfl, ⟨none, rfl⟩, fun k hk => absurd hk (Nat.not_lt_zero k)⟩ ?_ ?_⟩
    · rintro i σ H' hi ⟨rfl, ⟨v, rfl⟩, hall⟩
      rw [Int.zero_add]
      refine ⟨.ref a, rfl, .int (i : Int), rfl, a, _, (i : Int), _, rfl, rfl, hS, at_int (by omega), .ref b, rfl, .int (i : Int), rfl, b, _, (i : Int), _, rfl, rfl, hT, at_int (by omega), _, _, rfl, rfl, _, rfl, ite2 (fun c => ?_) (fun c => ?_)⟩
      · rw [goes_false hi (of_decide_eq_true c)] at q
        exact q
      · refine ⟨rfl, ⟨_, rfl⟩, fun k hk => ?_⟩
        by_cases e : k = i
        · subst e
          have c' : ¬ t.getD k 0 < s.getD k 0 := fun z => c (decide_eq_true z)
          omega
        · exact hall k (by omega)
    · rintro σ H' ⟨rfl, ⟨v, rfl⟩, hall⟩
      rw [goes_true hall] at q
      exact q

/-! ### is_stocked -/
def sp_is_stocked : Sp := fun vs H Q _ => ∃ (st : Int) (i : Nat), vs = [.int st, .int i] ∧ Q (.bl (bit st i)) H
theorem sc_is_stocked : FnScope ["stock", "box"] ["stock", "box"] (defScope s_is_stocked) := ⟨rfl, rfl, rfl, by decide +kernel, rfl, by decide +kernel, by decide +kernel⟩
theorem ok_is_stocked {f : Addr} {fd : FuncData} (F : Fun K "is_stocked" "is_stocked" s_is_stocked f fd) : FnOk P w K mg base CX0 1 f fd ["stock", "box"] sp_is_stocked := by
  refine F.ok sc_is_stocked (fun vs H Q E h => ?_) (fun cdv A outer s H vs Q E hr h => ?_)
  · obtain ⟨a, b, rfl, _⟩ := h
    rfl
  · obtain ⟨st, i, rfl, q⟩ := h
    refine ⟨_, pss_one (ps_ret (pe_cmp (pc_eqI (pe_op op_and (pe_op op_shr (pv 0) (pv 1)) pe_int) pe_int))), ?_⟩
    refine ⟨.int st, rfl, .int i, rfl, st, (i : Int), rfl, rfl, Int.natCast_nonneg i, _, 1, rfl, rfl, _, 1, rfl, rfl, ?_⟩
    rw [Int.toNat_natCast, bitAnd_m1]
    exact q

/-! ### stocked_count -/
def sp_stocked_count : Sp := fun vs H Q _ => ∃ st : Int, vs = [.int st] ∧ ∀ H' : Hp, Same H H' → Q (.int (bcount st : Nat)) H'
theorem sc_stocked_count : FnScope ["stock", "box"] ["stock"] (defScope s_stocked_count) := ⟨rfl, rfl, rfl, by decide +kernel, rfl, by decide +kernel, by decide +kernel⟩
theorem ok_stocked_count {f f1 : Addr} {fd fd1 : FuncData} (F : Fun K "stocked_count" "stocked_count" s_stocked_count f fd) (D1 : Df K mg "is_stocked" s_is_stocked ["stock", "box"] f1 fd1) (ml : mg "len" = none) (mr : mg "range" = none) (n0 : Num mg "MOST_BOXES" 7) : FnOk P w K mg base CX0 2 f fd ["stock"] sp_stocked_count := by
  have G1 : FnOk P w K mg base CX0 1 f1 fd1 _ sp_is_stocked := ok_is_stocked D1.F
  refine F.ok sc_stocked_count (fun vs H Q E h => ?_) (fun cdv A outer s0 H vs Q E hr h => ?_)
  · obtain ⟨st, rfl, _⟩ := h
    rfl
  · obtain ⟨st, rfl, q⟩ := h
    refine ⟨_, pss_one (ps_ret (pe_callB call_len_seq (by rfl) ml PySem.boot_len (pa_cons (pe_lc (own := [("box", 1)]) (g := gName 1) rfl sc_stocked_count.nd
      (pi_range1 (by rfl) mr (pa_cons (pe_num n0 rfl) pa_nil))
      (blkOk_by (own := [("box", 1)]) (N := ["stock", "box"]) (sc := defScope s_stocked_count) (by decide +kernel))
      (fun _ _ _ _ _ => pg_name (i := 1) sc_stocked_count.nd rfl (Or.inl rfl))
      (fun _ _ _ _ _ => pts_one (pt_val (pe_call G1 hr (by rfl) D1.g D1.F.kp D1.b .nil (E := E0) pass0 (pa_cons (pv 0) (pa_cons (pv 1) pa_nil)))))
      (fun _ _ _ _ _ => pv 1)) pa_nil))), ?_⟩
    refine ⟨7, rfl, by decide, by decide, fun D hD => ?_⟩
    refine lc_it (walk_range (lo := 0) (n := 7)) (fun i H' => Same H H' ∧ H' D = some (.lst (((List.range i).filter (bit st)).map fun (k : Nat) => V.int (k : Int)))) ⟨same_upd hD, upd_same⟩ (fun _ _ _ _ => trivial) ?_ ?_
    · rintro i x H1 H2 hi ⟨sm, hDv⟩ ⟨rfl, ex⟩
      have ex' : x = V.int (i : Int) := ex.trans (congrArg V.int (Int.zero_add _))
      subst ex'
      have hm : (List.range (i + 1)).filter (bit st) = (List.range i).filter (bit st) ++ (if bit st i = true then [i] else []) := by
        rw [List.range_succ, List.filter_append]
        congr 1
        cases hb : bit st i <;> simp [hb]
      refine ⟨rfl, .int st, rfl, .int (i : Int), rfl, st, i, rfl, _, rfl, ?_⟩
      cases hb : bit st i with
      | false =>
        refine iteF ⟨sm, ?_⟩
        rw [hm, hb, if_neg Bool.false_ne_true, List.append_nil]
        exact hDv
      | true =>
        rw [hb, if_pos rfl] at hm
        refine iteT ⟨.int (i : Int), rfl, _, hDv, sizeLine_big ?_, ?_, ?_⟩
        · rw [List.length_map]
          refine Nat.le_trans (List.length_filter_le _ _) ?_
          rw [List.length_range]
          omega
        · intro b o e
          rw [upd_ne (ne_of_none e hD)]
          exact sm _ _ e
        · rw [upd_same, hm, List.map_append]
          rfl
    · rintro H1 ⟨sm, hDv⟩
      refine ⟨D, _, rfl, .inl (SqL.of hDv), ?_⟩
      rw [List.length_map]
      exact q H1 sm

/-! ### box_count -/
def sp_box_count (K : PySem.W.Frag) : Sp := fun vs H Q _ => ∃ (a : Addr) (ns : List Int), vs = [.ref a] ∧ SqL K H a (ns.map V.int) ∧ Q (.int ((ns.length / 3 : Nat) : Int)) H
theorem sc_box_count : FnScope ["boxes"] ["boxes"] (defScope s_box_count) := ⟨rfl, rfl, rfl, by decide +kernel, rfl, by decide +kernel, by decide +kernel⟩
theorem ok_box_count {f : Addr} {fd : FuncData} (F : Fun K "box_count" "box_count" s_box_count f fd) (ml : mg "len" = none) (n1 : Num mg "NUMBERS_PER_BOX" 3) : FnOk P w K mg base CX0 1 f fd ["boxes"] (sp_box_count K) := by
  refine F.ok sc_box_count (fun vs H Q E h => ?_) (fun cdv A outer s H vs Q E hr h => ?_)
  · obtain ⟨a, b, rfl, _⟩ := h
    rfl
  · obtain ⟨a, ns, rfl, hS, q⟩ := h
    refine ⟨_, pss_one (ps_ret (pe_op op_fdiv (pe_callB call_len_seq (by rfl) ml PySem.boot_len (pa_cons (pv 0) pa_nil)) (pe_num n1 rfl))), ?_⟩
    refine ⟨.ref a, rfl, a, ns.map V.int, rfl, .inl hS, (((ns.map V.int).length : Nat) : Int), 3, rfl, rfl, ⟨by decide, by decide⟩, ?_⟩
    rw [List.length_map]
    exact q

/-! ### with_box -/
def sp_with_box : Sp := fun vs H Q _ => ∃ s i : Nat, vs = [.int (s : Int), .int (i : Int)] ∧ i ≤ 100 ∧ Q (.int ((s ||| 2 ^ i : Nat) : Int)) H
theorem sc_with_box : FnScope ["stock", "box"] ["stock", "box"] (defScope s_with_box) := ⟨rfl, rfl, rfl, by decide +kernel, rfl, by decide +kernel, by decide +kernel⟩
theorem bitOr_nat (s k : Nat) : Builtin.bitOr (s : Int) (1 * 2 ^ ((k : Nat) : Int).toNat) = ((s ||| 2 ^ k : Nat) : Int) := by
  have e : (1 * 2 ^ ((k : Nat) : Int).toNat : Int) = ((2 ^ k : Nat) : Int) := by
    rw [Int.toNat_natCast, Int.one_mul, Int.natCast_pow]
    rfl
  rw [e, Bits.bitOr_pp (Int.natCast_nonneg _) (Int.natCast_nonneg _), Int.toNat_natCast, Int.toNat_natCast]
theorem ok_with_box {f : Addr} {fd : FuncData} (F : Fun K "with_box" "with_box" s_with_box f fd) : FnOk P w K mg base CX0 1 f fd ["stock", "box"] sp_with_box := by
  refine F.ok sc_with_box (fun vs H Q E h => ?_) (fun cdv A outer s0 H vs Q E hr h => ?_)
  · obtain ⟨s, i, rfl, _⟩ := h
    rfl
  · obtain ⟨s, i, rfl, hi, q⟩ := h
    refine ⟨_, pss_one (ps_ret (pe_op op_or (pv 0) (pe_op op_shl pe_int (pv 1)))), ?_⟩
    refine ⟨_, rfl, _, rfl, (1 : Int), (i : Int), rfl, rfl, ⟨Int.natCast_nonneg _, by omega, by decide⟩, (s : Int), _, rfl, rfl, ?_⟩
    dsimp only
    rw [bitOr_nat]
    exact q

/-! ### stocked_sizes -/
def sp_stocked_sizes (K : PySem.W.Frag) : Sp := fun vs H Q _ => ∃ (st : Int) (a : Addr) (ns : List Int), vs = [.int st, .ref a] ∧ SqL K H a (ns.map V.int) ∧ ns.length % 3 = 0 ∧ ns.length ≤ 1000 ∧
  ∀ (H' : Hp) (p : Addr) (as : List Addr), Same H H' → H p = none → H' p = some (.lst (as.map V.ref)) → LA H' as (stocked st ns) → Q (.ref p) H'
theorem sc_stocked_sizes : FnScope ["stock", "boxes", "sizes", "box", "size"] ["stock", "boxes"] (defScope s_stocked_sizes) := ⟨rfl, rfl, rfl, by decide +kernel, rfl, by decide +kernel, by decide +kernel⟩
theorem ok_stocked_sizes {f f1 f2 : Addr} {fd fd1 fd2 : FuncData} (F : Fun K "stocked_sizes" "stocked_sizes" s_stocked_sizes f fd) (D1 : Df K mg "sorted_sizes" s_sorted_sizes ["numbers", "step"] f1 fd1) (D2 : Df K mg "is_stocked" s_is_stocked ["stock", "box"] f2 fd2)
    (ml : mg "len" = none) (mr : mg "range" = none) (ms : mg "sorted" = none) (me : mg "enumerate" = none) (n0 : Num mg "EDGES" 3) (n1 : Num mg "NUMBERS_PER_BOX" 3) : FnOk P w K mg base CX0 2 f fd ["stock", "boxes"] (sp_stocked_sizes K) := by
  have G1 : FnOk P w K mg base CX0 1 f1 fd1 _ (sp_sorted_sizes K) := ok_sorted_sizes D1.F ml mr ms n0
  have G2 : FnOk P w K mg base CX0 1 f2 fd2 _ sp_is_stocked := ok_is_stocked D2.F
  refine F.ok sc_stocked_sizes (fun vs H Q E h => ?_) (fun cdv A outer s H vs Q E hr h => ?_)
  · obtain ⟨st, a, ns, rfl, _⟩ := h
    rfl
  · obtain ⟨st, a, ns, rfl, hS, hd, hlen, q⟩ := h
    refine ⟨_, pss_cons (ps_set (i := 2) sc_stocked_sizes.nd rfl (.inl rfl) (pe_call G1 hr (by rfl) D1.g D1.F.kp D1.b .nil pass0 (pa_cons (pv 1) (pa_cons (pe_num n1 rfl) pa_nil))))
      (pss_one (ps_ret (pe_lc (own := [("box", 3), ("size", 4)]) (g := gTup K 2 (gCons (gName 3) (gCons (gName 4) gNil))) rfl sc_stocked_sizes.nd
        (pi_enum (by rfl) me (pa_cons (pv 2) pa_nil))
        (blkOk_by (own := [("box", 3), ("size", 4)]) (N := ["stock", "boxes", "sizes", "box", "size"]) (sc := defScope s_stocked_sizes) (by decide +kernel))
        (fun _ _ _ _ _ => pg_tup rfl (pgs_cons (pg_name (i := 3) sc_stocked_sizes.nd rfl (Or.inl rfl)) (pgs_cons (pg_name (i := 4) sc_stocked_sizes.nd rfl (Or.inl rfl)) pgs_nil)))
        (fun _ _ _ _ _ => pts_one (pt_val (pe_call G2 hr (by rfl) D2.g D2.F.kp D2.b .nil (E := E0) pass0 (pa_cons (pv 0) (pa_cons (pv 3) pa_nil)))))
        (fun _ _ _ _ _ => pv 4)))), ?_⟩
    refine ⟨.ref a, rfl, a, ns, 3, rfl, hS, .inl rfl, hd, hlen, fun H1 p as s1 np hp hL => ?_⟩
    refine ⟨.ref p, rfl, p, as.map V.ref, rfl, SqL.of hp, fun D hD => ?_⟩
    have hal : as.length = ns.length / 3 := by rw [hL.1, sizes_length]
    have hal2 : as.length ≤ 1000 := by omega
    refine lc_it (walk_enum (K := K) (a := p) (xs := as.map V.ref)) (fun i H' => ∃ bs : List Addr, Same H1 H' ∧ H' D = some (.lst (bs.map V.ref)) ∧ D ∉ bs ∧ LA H' bs (stk st (sizes ns 3) i))
      ⟨[], same_upd hD, upd_same, by simp, LA.nil _⟩ (fun i H' _ ⟨bs, sm, _⟩ => sm.seq (SqL.of hp)) ?_ ?_
    · rintro i x H2 H3 hi ⟨bs, sm, hDb, hDn, hB⟩ ⟨T, x1, x2, rfl, nT, rfl, f1, f2⟩
      have ex1 : x1 = V.int (i : Nat) := (Option.some.inj f1).symm
      obtain ⟨b, hb, ex2⟩ := mapRef f2
      subst ex1 ex2
      rw [List.length_map] at hi
      have hi2 : i < ns.length / 3 := by omega
      have hg := sizes_get (ns := ns) (st := 3) hi2
      have hbs : H1 b = some (.lst ((isort (grp ns (3 * i))).map V.int)) := hL.2 i b _ hb hg
      have nDb : D ≠ b := fun z => by
        rw [z, hbs] at hD
        cases hD
      have sT : Same H2 (upd H2 T (.tup [.int (i : Nat), .ref b])) := same_upd nT
      have hm := stk_more (st := st) hg
      refine ⟨T, _, rfl, .inl (.inl upd_same), rfl, _, _, rfl, _, _, rfl, rfl, rfl, ?_⟩
      refine ⟨.int st, rfl, .int (i : Nat), rfl, st, i, rfl, _, rfl, ?_⟩
      cases hbit : bit st i with
      | false =>
        refine iteF ⟨bs, sm.trans sT, sT _ _ hDb, hDn, ?_⟩
        rw [hm, hbit, if_neg Bool.false_ne_true]
        exact LA.same sT hB
      | true =>
        rw [hbit, if_pos rfl] at hm
        have hbl : bs.length ≤ 1000 := by
          have h1 := hB.1
          have h2 := stk_length st (sizes ns 3) i
          omega
        refine iteT ⟨.ref b, rfl, bs.map V.ref, sT _ _ hDb, sizeLine_big (by rw [List.length_map]; exact hbl), bs ++ [b], ?_, ?_, ?_, ?_⟩
        · intro c o e
          rw [upd_ne (ne_of_none e hD)]
          exact sT _ _ (sm _ _ e)
        · rw [upd_same, List.map_append]
          rfl
        · intro hm
          rcases List.mem_append.mp hm with hm | hm
          · exact hDn hm
          · exact nDb (List.mem_singleton.mp hm)
        · rw [hm]
          refine LA.snoc (LA.upd hDn (LA.same sT hB)) ?_
          rw [upd_ne nDb.symm]
          exact sT _ _ (sm _ _ hbs)
    · rintro H2 ⟨bs, sm, hDb, hDn, hB⟩
      rw [List.length_map, hL.1, stk_all] at hB
      exact q H2 D bs (s1.trans sm) (s1.free hD) hDb hB

/-! ### item_cost -/
def sp_item_cost (K : PySem.W.Frag) : Sp := fun vs H Q _ => ∃ (a b : Addr) (s : List Int) (bs : List Addr) (ts : List (List Int)), vs = [.ref a, .ref b] ∧ SqL K H a (s.map V.int) ∧ SqL K H b (bs.map V.ref) ∧ LA H bs ts ∧ okG s ∧ (∀ t ∈ ts, okG t) ∧ ts.length ≤ 1000 ∧
  ∀ H' : Hp, Same H H' → Q (.int (itemCost s ts)) H'
theorem sc_item_cost : FnScope ["item_size", "box_sizes", "volumes", "box_size"] ["item_size", "box_sizes"] (defScope s_item_cost) := ⟨rfl, rfl, rfl, by decide +kernel, rfl, by decide +kernel, by decide +kernel⟩
theorem ok_item_cost {f f1 f2 : Addr} {fd fd1 fd2 : FuncData} (F : Fun K "item_cost" "item_cost" s_item_cost f fd) (D1 : Df K mg "volume_of" s_volume_of ["size"] f1 fd1) (D2 : Df K mg "goes_into" s_goes_into ["item_size", "box_size"] f2 fd2)
    (mr : mg "range" = none) (mm : mg "min" = none) (n0 : Num mg "EDGES" 3) (n1 : Num mg "COST_WITHOUT_BOX" 100000) : FnOk P w K mg base CX0 2 f fd ["item_size", "box_sizes"] (sp_item_cost K) := by
  have G1 : FnOk P w K mg base CX0 1 f1 fd1 _ (sp_volume_of K) := ok_volume_of D1.F
  have G2 : FnOk P w K mg base CX0 1 f2 fd2 _ (sp_goes_into K) := ok_goes_into D2.F mr n0
  refine F.ok sc_item_cost (fun vs H Q E h => ?_) (fun cdv A outer s0 H vs Q E hr h => ?_)
  · obtain ⟨a, b, s, bs, ts, rfl, _⟩ := h
    rfl
  · obtain ⟨a, b, s, bs, ts, rfl, hS, hB, hL, hs, ht, hlen, q⟩ := h
    refine ⟨_, pss_cons (ps_setLc (i := 2) (own := [("box_size", 3)]) (g := gName 3) rfl sc_item_cost.nd rfl rfl (sw_true rfl rfl rfl (by decide +kernel)) (pi_list (pv 1))
        (blkOk_by (own := [("box_size", 3)]) (N := ["item_size", "box_sizes", "volumes", "box_size"]) (sc := defScope s_item_cost) (by decide +kernel))
        (fun _ _ _ _ _ => pg_name (i := 3) sc_item_cost.nd rfl (Or.inl rfl))
        (fun _ _ _ _ _ => pts_one (pt_val (pe_call G2 hr (by rfl) D2.g D2.F.kp D2.b .nil (E := E0) pass0 (pa_cons (pv 0) (pa_cons (pv 3) pa_nil)))))
        (fun _ _ _ _ _ => pe_call G1 hr (by rfl) D1.g D1.F.kp D1.b .nil (E := E0) pass0 (pa_cons (pv 3) pa_nil)))
      (pss_one (ps_ret (pe_callBK (id := "min") (ks := [Str.ofString "default"]) (cr_minD rfl hr.units) (by rfl) mm (by decide +kernel) (pa_cons (pv 2) pa_nil) (pk_cons (pe_num n1 rfl) pk_nil)))), ?_⟩
    refine ⟨.ref b, rfl, b, rfl, ⟨_, hB⟩, fun D hD => ?_⟩
    have nDb : bs.length = ts.length := hL.1
    refine lc_it (walk_list (K := K) (a := b) (xs := bs.map V.ref)) (fun i H' => Same H H' ∧ H' D = some (.lst ((((ts.take i).filter (goes s)).map vol).map V.int)))
      ⟨same_upd hD, upd_same⟩ (fun i H' _ ⟨sm, _⟩ => sm.seq hB) ?_ ?_
    · rintro i x H2 H3 hi ⟨sm, hDv⟩ ⟨rfl, f1⟩
      obtain ⟨c, hc, rfl⟩ := mapRef f1
      rw [List.length_map] at hi
      have hi2 : i < ts.length := by omega
      have hg : ts[i]? = some ts[i] := List.getElem?_eq_getElem hi2
      have hct := hL.2 i c _ hc hg
      have hok : okG ts[i] := ht _ (List.getElem_mem hi2)
      have hcs : SqL K H3 c (ts[i].map V.int) := sm.seq (SqL.of hct)
      refine ⟨rfl, .ref a, rfl, .ref c, rfl, a, c, s, ts[i], rfl, sm.seq hS, hcs, okG_len hs, okG_len hok, _, rfl, ?_⟩
      have hm : (ts.take (i + 1)).filter (goes s) = (ts.take i).filter (goes s) ++ (if goes s ts[i] = true then [ts[i]] else []) := by
        rw [List.take_add_one, hg, List.filter_append]
        congr 1
        show ([ts[i]] : List (List Int)).filter (goes s) = _
        cases hgo : goes s ts[i] <;> simp [hgo]
      cases hgo : goes s ts[i] with
      | false =>
        refine iteF ⟨sm, ?_⟩
        rw [hm, hgo, if_neg Bool.false_ne_true, List.append_nil]
        exact hDv
      | true =>
        rw [hgo, if_pos rfl] at hm
        refine iteT ⟨.ref c, rfl, c, ts[i], rfl, hcs, hok, _, hDv, sizeLine_big ?_, ?_, ?_⟩
        · rw [List.length_map, List.length_map]
          refine Nat.le_trans (List.length_filter_le _ _) ?_
          rw [List.length_take]
          omega
        · intro d o e
          rw [upd_ne (ne_of_none e hD)]
          exact sm _ _ e
        · rw [upd_same, hm, List.map_append, List.map_append]
          rfl
    · rintro H2 ⟨sm, hDv⟩
      rw [List.length_map, nDb, List.take_length] at hDv
      refine ⟨.ref D, rfl, D, _, 100000, rfl, rfl, SqL.of hDv, ?_⟩
      rw [minI_minD]
      exact q H2 sm

/-! ### stock_cost -/
def sp_stock_cost (K : PySem.W.Frag) : Sp := fun vs H Q _ => ∃ (st : Int) (a b : Addr) (ns ms : List Int), vs = [.int st, .ref a, .ref b] ∧ SqL K H a (ns.map V.int) ∧ SqL K H b (ms.map V.int) ∧ areBoxes ns = true ∧ areItems ms = true ∧
  ∀ H' : Hp, Same H H' → Q (.int (stockCost st ns ms)) H'
theorem sc_stock_cost : FnScope ["stock", "boxes", "items", "box_sizes", "cost", "item_size", "quantity"] ["stock", "boxes", "items"] (defScope s_stock_cost) := ⟨rfl, rfl, rfl, by decide +kernel, rfl, by decide +kernel, by decide +kernel⟩
theorem ok_stock_cost {f f1 f2 f3 f4 f5 f6 f7 : Addr} {fd fd1 fd2 fd3 fd4 fd5 fd6 fd7 : FuncData} (F : Fun K "stock_cost" "stock_cost" s_stock_cost f fd) (D1 : Df K mg "stocked_sizes" s_stocked_sizes ["stock", "boxes"] f1 fd1) (D2 : Df K mg "sorted_sizes" s_sorted_sizes ["numbers", "step"] f2 fd2)
    (D3 : Df K mg "quantities_of" s_quantities_of ["items"] f3 fd3) (D4 : Df K mg "item_cost" s_item_cost ["item_size", "box_sizes"] f4 fd4) (D5 : Df K mg "is_stocked" s_is_stocked ["stock", "box"] f5 fd5) (D6 : Df K mg "volume_of" s_volume_of ["size"] f6 fd6) (D7 : Df K mg "goes_into" s_goes_into ["item_size", "box_size"] f7 fd7)
    (ml : mg "len" = none) (mr : mg "range" = none) (ms : mg "sorted" = none) (me : mg "enumerate" = none) (mm : mg "min" = none) (mz : mg "zip" = none) (n0 : Num mg "EDGES" 3) (n1 : Num mg "NUMBERS_PER_BOX" 3) (n2 : Num mg "NUMBERS_PER_ITEM" 4) (n3 : Num mg "COST_WITHOUT_BOX" 100000) : FnOk P w K mg base CX0 3 f fd ["stock", "boxes", "items"] (sp_stock_cost K) := by
  have G1 : FnOk P w K mg base CX0 2 f1 fd1 _ (sp_stocked_sizes K) := ok_stocked_sizes D1.F D2 D5 ml mr ms me n0 n1
  have G2 : FnOk P w K mg base CX0 1 f2 fd2 _ (sp_sorted_sizes K) := ok_sorted_sizes D2.F ml mr ms n0
  have G3 : FnOk P w K mg base CX0 1 f3 fd3 _ (sp_quantities_of K) := ok_quantities_of D3.F n0 n2
  have G4 : FnOk P w K mg base CX0 2 f4 fd4 _ (sp_item_cost K) := ok_item_cost D4.F D6 D7 mr mm n0 n3
  refine F.ok sc_stock_cost (fun vs H Q E h => ?_) (fun cdv A outer s0 H vs Q E hr h => ?_)
  · obtain ⟨st, a, b, ns, ms, rfl, _⟩ := h
    rfl
  · obtain ⟨st, a, b, ns, ms, rfl, hA, hB, hns, hms, q⟩ := h
    have hr1 : Room 1 _ := hr.mono (by decide)
    refine ⟨_, pss_cons (ps_set (i := 3) sc_stock_cost.nd rfl (.inl rfl) (pe_call G1 hr (by rfl) D1.g D1.F.kp D1.b .nil pass0 (pa_cons (pv 0) (pa_cons (pv 1) pa_nil))))
      (pss_cons (ps_set (i := 4) sc_stock_cost.nd rfl (.inl rfl) pe_int)
      (pss_cons (ps_for PassesOwn.never rfl (pi_zip (by rfl) mz (pa_cons (pe_call G2 hr1 (by rfl) D2.g D2.F.kp D2.b .nil pass0 (pa_cons (pv 2) (pa_cons (pe_num n2 rfl) pa_nil))) (pa_cons (pe_call G3 hr1 (by rfl) D3.g D3.F.kp D3.b .nil pass0 (pa_cons (pv 2) pa_nil)) pa_nil)))
          (pg_tup rfl (pgs_cons (pg_name (i := 5) sc_stock_cost.nd rfl (.inl rfl)) (pgs_cons (pg_name (i := 6) sc_stock_cost.nd rfl (.inl rfl)) pgs_nil)))
        (pss_one (ps_aug (i := 4) sc_stock_cost.nd rfl (.inl rfl) (pe_op op_mul (pv 6) (pe_call G4 hr (by rfl) D4.g D4.F.kp D4.b .nil pass0 (pa_cons (pv 5) (pa_cons (pv 3) pa_nil)))) ip_add)))
      (pss_one (ps_ret (pv 4))))), ?_⟩
    obtain ⟨hn3, hn21, hnr⟩ := areBoxes_iff.mp hns
    obtain ⟨hm4, hm32, hme, hmq⟩ := areItems_iff.mp hms
    have okB : ∀ t ∈ stocked st ns, okG t := fun t ht => by
      obtain ⟨g, hg, rfl⟩ := stocked_mem ht
      exact okG_isort (groups3_ok ns hn3 hnr g hg)
    have okI : ∀ t ∈ sizes ms 4, okG t := fun t ht => by
      rw [sizes_groups] at ht
      obtain ⟨g, hg, rfl⟩ := List.mem_map.mp ht
      exact okG_isort (groups4_ok ms hm4 hme g hg)
    have hsl : (stocked st ns).length ≤ 1000 := by
      have h1 := stk_length st (sizes ns 3) (sizes ns 3).length
      rw [stk_all, sizes_length] at h1
      have h2 : (stocked st ns).length ≤ ns.length / 3 := h1
      omega
    refine ⟨.int st, rfl, .ref a, rfl, st, a, ns, rfl, hA, hn3, by omega, fun H1 p as s1 np hp hL => ?_⟩
    refine ⟨.ref b, rfl, b, ms, 4, rfl, s1.seq hB, .inr rfl, hm4, by omega, fun H2 p2 as2 s2 np2 hp2 hL2 => ?_⟩
    refine ⟨.ref b, rfl, b, ms, rfl, s2.seq (s1.seq hB), fun p3 hp3 => ?_⟩
    have s3 : Same H2 (upd H2 p3 (.lst ((quants ms).map V.int))) := same_upd hp3
    have hal : as2.length = ms.length / 4 := by rw [hL2.1, sizes_length]
    refine ⟨p2, p3, as2.map V.ref, (quants ms).map V.int, rfl, SqL.of (s3 _ _ hp2), SqL.of upd_same, for_it (walk_zip (n := ms.length / 4) (by rw [List.length_map, List.length_map, hal, quants_length, Nat.min_self]))
      (fun i σ H' => (∃ v5 v6, σ = [some (.int st), some (.ref a), some (.ref b), some (.ref p), some (.int ((((sizes ms 4).zip (quants ms)).take i).foldl (fun c p => c + p.2 * itemCost p.1 (stocked st ns)) 0)), v5, v6]) ∧ Same (upd H2 p3 (.lst ((quants ms).map V.int))) H')
      ⟨⟨none, none, rfl⟩, Same.refl _⟩ (fun i σ H' _ ⟨_, sm⟩ => ⟨sm.seq (SqL.of (s3 _ _ hp2)), sm.seq (SqL.of upd_same)⟩) ?_ ?_⟩
    · rintro i x σ H3 H4 hi ⟨⟨v5, v6, rfl⟩, sm⟩ ⟨T, x1, x2, rfl, nT, rfl, f1, f2⟩
      obtain ⟨c, hc, rfl⟩ := mapRef f1
      obtain ⟨qn, hq, rfl⟩ := mapInt f2
      have hg := sizes_get (ns := ms) (st := 4) hi
      have hct := sm _ _ (s3 _ _ (hL2.2 i c _ hc hg))
      have sT : Same H3 (upd H3 T (.tup [.ref c, .int qn])) := same_upd nT
      have hqr : 1 ≤ qn ∧ qn ≤ 99 := inRange_iff.mp hmq qn (List.mem_of_getElem? hq)
      refine ⟨T, _, rfl, .inl (.inl upd_same), rfl, _, _, rfl, _, _, rfl, rfl, _, rfl, .int qn, rfl, .ref c, rfl, .ref p, rfl, ?_⟩
      refine ⟨c, p, isort (grp ms (4 * i)), as, stocked st ns, rfl, SqL.of (sT _ _ hct), SqL.of (sT _ _ (sm _ _ (s3 _ _ (s2 _ _ hp)))), LA.same (((s2.trans s3).trans sm).trans sT) hL, okI _ (List.mem_of_getElem? hg), okB, hsl, fun H5 s5 => ?_⟩
      refine ⟨qn, _, rfl, rfl, .inl (by omega), _, _, rfl, rfl, ⟨some (.ref c), some (.int qn), ?_⟩, (sm.trans sT).trans s5⟩
      have hz : ((sizes ms 4).zip (quants ms))[i]? = some (isort (grp ms (4 * i)), qn) := by
        rw [List.getElem?_zip_eq_some]
        exact ⟨hg, hq⟩
      rw [List.take_add_one, hz, List.foldl_append]
      rfl
    · rintro σ H3 ⟨⟨v5, v6, rfl⟩, sm⟩
      refine ⟨_, rfl, ?_⟩
      have e : ((sizes ms 4).zip (quants ms)).take (ms.length / 4) = (sizes ms 4).zip (quants ms) := List.take_of_length_le (by
        rw [List.length_zip, sizes_length, quants_length, Nat.min_self]
        exact Nat.le_refl _)
      rw [e]
      exact q H3 (((s1.trans s2).trans s3).trans sm)

/-! ### with_next_box -/
def sp_with_next_box (K : PySem.W.Frag) : Sp := fun vs H Q _ => ∃ (s : Nat) (a b : Addr) (ns ms : List Int), vs = [.int (s : Int), .ref a, .ref b] ∧ SqL K H a (ns.map V.int) ∧ SqL K H b (ms.map V.int) ∧ areBoxes ns = true ∧ areItems ms = true ∧
  ∀ H' : Hp, Same H H' → Q (.int (nextN ns ms s (ns.length / 3) : Nat)) H'
theorem sc_with_next_box : FnScope ["stock", "boxes", "items", "next_stock", "next_cost", "box", "larger", "cost"] ["stock", "boxes", "items"] (defScope s_with_next_box) := ⟨rfl, rfl, rfl, by decide +kernel, rfl, by decide +kernel, by decide +kernel⟩
theorem ok_with_next_box {f f1 f2 f3 : Addr} {fd fd1 fd2 fd3 : FuncData} (F : Fun K "with_next_box" "with_next_box" s_with_next_box f fd) (D1 : Df K mg "stock_cost" s_stock_cost ["stock", "boxes", "items"] f1 fd1) (D2 : Df K mg "box_count" s_box_count ["boxes"] f2 fd2) (D3 : Df K mg "with_box" s_with_box ["stock", "box"] f3 fd3)
    (G1 : FnOk P w K mg base CX0 3 f1 fd1 ["stock", "boxes", "items"] (sp_stock_cost K)) (G2 : FnOk P w K mg base CX0 1 f2 fd2 ["boxes"] (sp_box_count K)) (G3 : FnOk P w K mg base CX0 1 f3 fd3 ["stock", "box"] sp_with_box) (mr : mg "range" = none) : FnOk P w K mg base CX0 4 f fd ["stock", "boxes", "items"] (sp_with_next_box K) := by
  refine F.ok sc_with_next_box (fun vs H Q E h => ?_) (fun cdv A outer s0 H vs Q E hr h => ?_)
  · obtain ⟨s, a, b, ns, ms, rfl, _⟩ := h
    rfl
  · obtain ⟨s, a, b, ns, ms, rfl, hA, hB, hb, hi, q⟩ := h
    have hr1 : Room 1 _ := hr.mono (by decide)
    have nd := sc_with_next_box.nd
    refine ⟨_, pss_cons (ps_set (i := 3) nd rfl (.inl rfl) (pv 0))
      (pss_cons (ps_set (i := 4) nd rfl (.inl rfl) (pe_call G1 hr (by rfl) D1.g D1.F.kp D1.b .nil pass0 (pa_cons (pv 0) (pa_cons (pv 1) (pa_cons (pv 2) pa_nil)))))
      (pss_cons (ps_for PassesOwn.never rfl (pi_range1 (by rfl) mr (pa_cons (pe_call G2 hr1 (by rfl) D2.g D2.F.kp D2.b .nil pass0 (pa_cons (pv 1) pa_nil)) pa_nil)) (pg_name (i := 5) nd rfl (.inl rfl))
        (pss_cons (ps_set (i := 6) nd rfl (.inl rfl) (pe_call G3 hr1 (by rfl) D3.g D3.F.kp D3.b .nil pass0 (pa_cons (pv 0) (pa_cons (pv 5) pa_nil))))
        (pss_cons (ps_set (i := 7) nd rfl (.inl rfl) (pe_call G1 hr (by rfl) D1.g D1.F.kp D1.b .nil pass0 (pa_cons (pv 6) (pa_cons (pv 1) (pa_cons (pv 2) pa_nil)))))
        (pss_one (ps_if (pt_cmp (pc_lt (pv 7) (pv 4))) (pss_cons (ps_set (i := 3) nd rfl (.inl rfl) (pv 6)) (pss_one (ps_set (i := 4) nd rfl (.inl rfl) (pv 7)))) pss_nil)))))
      (pss_one (ps_ret (pv 3))))), ?_⟩
    have hn7 : ns.length / 3 ≤ 7 := by
      have := (areBoxes_iff.mp hb).2.1
      omega
    refine ⟨_, rfl, .int (s : Int), rfl, .ref a, rfl, .ref b, rfl, (s : Int), a, b, ns, ms, rfl, hA, hB, hb, hi, fun H1 s1 => ?_⟩
    refine ⟨.ref a, rfl, a, ns, rfl, s1.seq hA, ((ns.length / 3 : Nat) : Int), rfl, by omega, by omega, ?_⟩
    rw [Int.toNat_natCast]
    refine for_range (lo := 0) (n := ns.length / 3) (fun i σ H' => Same H H' ∧ ∃ v5 v6 v7, σ = [some (.int (s : Int)), some (.ref a), some (.ref b), some (.int (nextN ns ms s i : Nat)), some (.int (stockCost (nextN ns ms s i : Nat) ns ms)), v5, v6, v7])
      ⟨s1, none, none, none, rfl⟩ ?_ ?_
    · rintro i σ H3 hlt ⟨s3, v5, v6, v7, rfl⟩
      have ei : (0 : Int) + (i : Nat) = ((i : Nat) : Int) := Int.zero_add _
      rw [ei]
      have hm := nextN_more ns ms s i
      refine ⟨_, rfl, _, rfl, s, i, rfl, by omega, ?_⟩
      refine ⟨_, rfl, .ref a, rfl, .ref b, rfl, ((s ||| 2 ^ i : Nat) : Int), a, b, ns, ms, rfl, s3.seq hA, s3.seq hB, hb, hi, fun H4 s4 => ?_⟩
      refine ⟨_, rfl, _, rfl, _, _, rfl, rfl, _, rfl, ite2 (fun c => ?_) (fun c => ?_)⟩
      · have c' : stockCost ((s ||| 2 ^ i : Nat) : Int) ns ms < stockCost (nextN ns ms s i : Nat) ns ms := of_decide_eq_true c
        rw [if_pos c'] at hm
        refine ⟨_, rfl, _, rfl, s3.trans s4, some (.int ((i : Nat) : Int)), some (.int ((s ||| 2 ^ i : Nat) : Int)), some (.int (stockCost ((s ||| 2 ^ i : Nat) : Int) ns ms)), ?_⟩
        rw [hm]
        rfl
      · have c' : ¬ stockCost ((s ||| 2 ^ i : Nat) : Int) ns ms < stockCost (nextN ns ms s i : Nat) ns ms := fun z => c (decide_eq_true z)
        rw [if_neg c'] at hm
        refine ⟨s3.trans s4, some (.int ((i : Nat) : Int)), some (.int ((s ||| 2 ^ i : Nat) : Int)), some (.int (stockCost ((s ||| 2 ^ i : Nat) : Int) ns ms)), ?_⟩
        rw [hm]
        rfl
    · rintro σ H3 ⟨s3, v5, v6, v7, rfl⟩
      exact ⟨_, rfl, q H3 s3⟩

/-! ### greedy_stock -/
def sp_greedy_stock (K : PySem.W.Frag) : Sp := fun vs H Q _ => ∃ (li : Int) (a b : Addr) (ns ms : List Int), vs = [.int li, .ref a, .ref b] ∧ SqL K H a (ns.map V.int) ∧ SqL K H b (ms.map V.int) ∧ ns.length ≤ 1000 ∧ ms.length ≤ 1000 ∧
  ∀ (H' : Hp) (p : Addr), Same H H' → H' p = some (.lst ((greedyStock li ns ms).map V.int)) → Q (.ref p) H'
theorem sc_greedy_stock : FnScope ["limit", "boxes", "items", "stock", "larger"] ["limit", "boxes", "items"] (defScope s_greedy_stock) := ⟨rfl, rfl, rfl, by decide +kernel, rfl, by decide +kernel, by decide +kernel⟩
/-- what is still to come gives the specification's stock; σ's fuel is what the limit leaves -/
def grOk (li : Int) (ns ms : List Int) (s : Nat) : Prop := s < 2 ^ (ns.length / 3) ∧ Kbe3.greedyFrom (pB ns) (pI ms) (min li.toNat 7 - bcount (s : Int)) s = greedyN li ns ms
theorem grOk_zero (li : Int) (ns ms : List Int) : grOk li ns ms 0 := ⟨Nat.two_pow_pos _, rfl⟩
theorem grOk_add {li : Int} {ns ms : List Int} {s : Nat} (hb : areBoxes ns = true) (hi : areItems ms = true) (h : grOk li ns ms s) (hc : (bcount (s : Int) : Int) < li) (hne : nextN ns ms s (ns.length / 3) ≠ s) :
    grOk li ns ms (nextN ns ms s (ns.length / 3)) ∧ 7 - bcount (nextN ns ms s (ns.length / 3) : Nat) < 7 - bcount (s : Nat) := by
  obtain ⟨e1, e2, e3⟩ := turn_add hb hi h.1 hne
  have h7 := bcount_le7 (nextN ns ms s (ns.length / 3) : Nat)
  refine ⟨⟨e2, ?_⟩, by omega⟩
  have h1 := h.2
  have ef : min li.toNat 7 - bcount (s : Int) = (min li.toNat 7 - bcount (nextN ns ms s (ns.length / 3) : Nat)) + 1 := by omega
  rw [ef, e3] at h1
  exact h1
theorem grOk_stop {li : Int} {ns ms : List Int} {s : Nat} (hb : areBoxes ns = true) (hi : areItems ms = true) (h : grOk li ns ms s) (he : nextN ns ms s (ns.length / 3) = s) : s = greedyN li ns ms := by
  rw [← h.2, turn_stop hb hi he]
theorem grOk_full {li : Int} {ns ms : List Int} {s : Nat} (h : grOk li ns ms s) (hc : ¬ (bcount (s : Int) : Int) < li) : s = greedyN li ns ms := by
  have e : min li.toNat 7 - bcount (s : Int) = 0 := by omega
  have h2 := h.2
  rw [e] at h2
  exact h2
theorem ok_greedy_stock {f f1 f2 f3 f4 f5 : Addr} {fd fd1 fd2 fd3 fd4 fd5 : FuncData} (F : Fun K "greedy_stock" "greedy_stock" s_greedy_stock f fd) (D1 : Df K mg "are_boxes" s_are_boxes ["boxes"] f1 fd1) (D2 : Df K mg "are_items" s_are_items ["items"] f2 fd2)
    (D3 : Df K mg "stocked_count" s_stocked_count ["stock"] f3 fd3) (D4 : Df K mg "with_next_box" s_with_next_box ["stock", "boxes", "items"] f4 fd4) (D5 : Df K mg "stock_cost" s_stock_cost ["stock", "boxes", "items"] f5 fd5)
    (G1 : FnOk P w K mg base CX0 2 f1 fd1 ["boxes"] (sp_are_boxes K)) (G2 : FnOk P w K mg base CX0 2 f2 fd2 ["items"] (sp_are_items K)) (G3 : FnOk P w K mg base CX0 2 f3 fd3 ["stock"] sp_stocked_count) (G4 : FnOk P w K mg base CX0 4 f4 fd4 ["stock", "boxes", "items"] (sp_with_next_box K))
    (G5 : FnOk P w K mg base CX0 3 f5 fd5 ["stock", "boxes", "items"] (sp_stock_cost K)) (n0 : Num mg "BAD_LIST" (-22)) : FnOk P w K mg base CX0 5 f fd ["limit", "boxes", "items"] (sp_greedy_stock K) := by
  refine F.ok sc_greedy_stock (fun vs H Q E h => ?_) (fun cdv A outer s0 H vs Q E hr h => ?_)
  · obtain ⟨li, a, b, ns, ms, rfl, _⟩ := h
    rfl
  · obtain ⟨li, a, b, ns, ms, rfl, hA, hB, hns, hms, q⟩ := h
    have hr2 : Room 2 _ := hr.mono (by decide)
    have hr3 : Room 3 _ := hr.mono (by decide)
    have nd := sc_greedy_stock.nd
    refine ⟨_, pss_cons (ps_if (PW.pt (pw_or (pt_not (pt_val (pe_call G1 hr2 (by rfl) D1.g D1.F.kp D1.b .nil pass0 (pa_cons (pv 1) pa_nil)))) (pw_or1 (pt_not (pt_val (pe_call G2 hr2 (by rfl) D2.g D2.F.kp D2.b .nil pass0 (pa_cons (pv 2) pa_nil)))))))
        (pss_one (ps_ret (pe_lst (pa_cons (pe_num n0 rfl) pa_nil)))) pss_nil)
      (pss_cons (ps_set (i := 3) nd rfl (.inl rfl) pe_int)
      (pss_cons (ps_while PassesOwn.never (pt_cmp (pc_lt (pe_call G3 hr2 (by rfl) D3.g D3.F.kp D3.b .nil pass0 (pa_cons (pv 3) pa_nil)) (pv 0)))
        (pss_cons (ps_set (i := 4) nd rfl (.inl rfl) (pe_call G4 hr (by rfl) D4.g D4.F.kp D4.b .nil pass0 (pa_cons (pv 3) (pa_cons (pv 1) (pa_cons (pv 2) pa_nil)))))
        (pss_cons (ps_if (pt_cmp (pc_eqI (pv 4) (pv 3))) (pss_one ps_break) pss_nil)
        (pss_one (ps_set (i := 3) nd rfl (.inl rfl) (pv 4))))))
      (pss_one (ps_ret (pe_lst (pa_cons (pv 3) (pa_cons (pe_call G5 hr3 (by rfl) D5.g D5.F.kp D5.b .nil pass0 (pa_cons (pv 3) (pa_cons (pv 1) (pa_cons (pv 2) pa_nil)))) pa_nil))))))), ?_⟩
    have one : (1 : Nat) ≤ sizeLine := by decide
    refine ⟨.ref a, rfl, a, ns, rfl, hA, _, rfl, ?_⟩
    unfold greedyStock at q
    cases hb : areBoxes ns with
    | false =>
      rw [hb] at q
      exact iteT ⟨one, fun p hp => q _ p (same_upd hp) upd_same⟩
    | true =>
      refine iteF ⟨.ref b, rfl, b, ms, rfl, hB, hms, fun H1 s1 => ⟨_, rfl, ?_⟩⟩
      cases hi : areItems ms with
      | false =>
        rw [hb, hi] at q
        exact iteT ⟨one, fun p hp => q _ p (s1.trans (same_upd hp)) upd_same⟩
      | true =>
        rw [hb, hi, if_neg (by decide)] at q
        refine iteF ?_
        refine ⟨fun m σ H' => Same H H' ∧ ∃ (s : Nat) (v4 : Option V), m = 7 - bcount (s : Int) ∧ grOk li ns ms s ∧ σ = [some (.int li), some (.ref a), some (.ref b), some (.int (s : Int)), v4],
          ⟨_, s1, 0, none, rfl, grOk_zero li ns ms, rfl⟩, ?_⟩
        rintro m σ H3 ⟨s3, s, v4, rfl, hg, rfl⟩
        refine ⟨_, rfl, (s : Int), rfl, fun H4 s4 => ⟨_, rfl, _, li, rfl, rfl, _, rfl, ite2 (fun c => ?_) (fun c => ?_)⟩⟩
        · have c' : (bcount (s : Int) : Int) < li := of_decide_eq_true c
          have s34 := s3.trans s4
          refine ⟨_, fun σ' H' h => h, _, rfl, .ref a, rfl, .ref b, rfl, s, a, b, ns, ms, rfl, s34.seq hA, s34.seq hB, hb, hi, fun H5 s5 => ?_⟩
          have s35 := s34.trans s5
          refine ⟨_, rfl, _, rfl, _, _, rfl, rfl, _, rfl, ite2 (fun c1 => ?_) (fun c1 => ?_)⟩
          · have c1' : ((nextN ns ms s (ns.length / 3) : Nat) : Int) = (s : Int) := of_decide_eq_true c1
            have es := grOk_stop hb hi hg (by omega)
            refine ⟨_, rfl, _, rfl, .ref a, rfl, .ref b, rfl, (s : Int), a, b, ns, ms, rfl, s35.seq hA, s35.seq hB, hb, hi, fun H6 s6 => ⟨(by show 2 ≤ sizeLine; decide), fun p hp => ?_⟩⟩
            rw [← es] at q
            exact q _ p ((s35.trans s6).trans (same_upd hp)) upd_same
          · have c1' : ¬ ((nextN ns ms s (ns.length / 3) : Nat) : Int) = (s : Int) := fun z => c1 (decide_eq_true z)
            obtain ⟨g1, g2⟩ := grOk_add hb hi hg c' (by omega)
            exact ⟨_, rfl, _, g2, s35, _, _, rfl, g1, rfl⟩
        · have c' : ¬ (bcount (s : Int) : Int) < li := fun z => c (decide_eq_true z)
          have es := grOk_full hg c'
          have s34 := s3.trans s4
          refine ⟨_, rfl, _, rfl, .ref a, rfl, .ref b, rfl, (s : Int), a, b, ns, ms, rfl, s34.seq hA, s34.seq hB, hb, hi, fun H6 s6 => ⟨(by show 2 ≤ sizeLine; decide), fun p hp => ?_⟩⟩
          rw [← es] at q
          exact q _ p ((s34.trans s6).trans (same_upd hp)) upd_same

end
theorem inInt_ge {lo hi i : Int} (h : PySem.W.Codec.inInt lo hi i = true) : lo ≤ i := by
  unfold PySem.W.Codec.inInt at h
  rw [Bool.and_eq_true, decide_eq_true_eq] at h
  exact h.1
theorem inInts_ge {lo hi : Int} {ns : List Int} (h : ns.all (PySem.W.Codec.inInt lo hi) = true) : ∀ x ∈ ns, lo ≤ x := fun x hx => inInt_ge (List.all_eq_true.mp h x hx)
/-- a def as the top has written it -/
theorem df_of {K : PySem.W.Frag} {h : Heap} {mg : Str → Option Value} {x : Str} {st : Stmt} {ps : List Str} {f : Addr} {od an : Option Addr} {sl : Array (Option Value)} {oc kV dc pm cd ct : Value} (X : K.In h) (G : h.Ns mainGlobals mg)
    (a : PySem.W.nsIn K mainGlobals x = some (some (.ref f))) (l : K.lookup f = some ⟨oc, od, .func (PySem.W.fnOf x x (defArgs st) (defBody st) (defScope st) .none kV dc pm an cd ct), sl⟩) (c : PySem.W.codeIn K cd x = true) (k : PySem.W.keepIn K (.ref f) = true)
    (hb : ∀ (kV doc pm : Value) (an : Option Addr) (cdv ct : Value) (us : List Value), us.length = ps.length → bindArgs (PySem.W.fnOf x x (defArgs st) (defBody st) (defScope st) .none kV doc pm an cdv ct) ⟨us, []⟩ = pure (ps.zip us)) : Df K mg x st ps f (PySem.W.fnOf x x (defArgs st) (defBody st) (defScope st) .none kV dc pm an cd ct) :=
  ⟨fun_mk l c k, (fun_mk l c k).binds hb, PySem.W.mg_of X G a⟩

theorem all_mk {P : Program} {w : World} {K : PySem.W.Frag} {h : Heap} {mg : Str → Option Value} {fa f0 f1 f2 f3 f4 f5 f6 f7 f8 f9 f10 f11 f12 f13 f14 f15 f16 : Addr} (X : K.In h) (G : h.Ns mainGlobals mg) (hfa : mg "greedy_stock" = some (.ref fa))
    {od0 an0 od1 an1 od2 an2 od3 an3 od4 an4 od5 an5 od6 an6 od7 an7 od8 an8 od9 an9 od10 an10 od11 an11 od12 an12 od13 an13 od14 an14 od15 an15 od16 an16 : Option Addr} {sl0 sl1 sl2 sl3 sl4 sl5 sl6 sl7 sl8 sl9 sl10 sl11 sl12 sl13 sl14 sl15 sl16 : Array (Option Value)} {oc0 kV0 dc0 pm0 cd0 ct0 oc1 kV1 dc1 pm1 cd1 ct1 oc2 kV2 dc2 pm2 cd2 ct2 oc3 kV3 dc3 pm3 cd3 ct3 oc4 kV4 dc4 pm4 cd4 ct4 oc5 kV5 dc5 pm5 cd5 ct5 oc6 kV6 dc6 pm6 cd6 ct6 oc7 kV7 dc7 pm7 cd7 ct7 oc8 kV8 dc8 pm8 cd8 ct8 oc9 kV9 dc9 pm9 cd9 ct9 oc10 kV10 dc10 pm10 cd10 ct10 oc11 kV11 dc11 pm11 cd11 ct11 oc12 kV12 dc12 pm12 cd12 ct12 oc13 kV13 dc13 pm13 cd13 ct13 oc14 kV14 dc14 pm14 cd14 ct14 oc15 kV15 dc15 pm15 cd15 ct15 oc16 kV16 dc16 pm16 cd16 ct16 : Value} {t0 t1 t2 t3 t4 t5 t6 t7 t8 : Tok}
    (a0 : PySem.W.nsIn K mainGlobals "in_range" = some (some (.ref f0))) (l0 : K.lookup f0 = some ⟨oc0, od0, .func (PySem.W.fnOf "in_range" "in_range" (defArgs s_in_range) (defBody s_in_range) (defScope s_in_range) .none kV0 dc0 pm0 an0 cd0 ct0), sl0⟩) (c0 : PySem.W.codeIn K cd0 "in_range" = true) (k0 : PySem.W.keepIn K (.ref f0) = true)
    (a1 : PySem.W.nsIn K mainGlobals "has_length" = some (some (.ref f1))) (l1 : K.lookup f1 = some ⟨oc1, od1, .func (PySem.W.fnOf "has_length" "has_length" (defArgs s_has_length) (defBody s_has_length) (defScope s_has_length) .none kV1 dc1 pm1 an1 cd1 ct1), sl1⟩) (c1 : PySem.W.codeIn K cd1 "has_length" = true) (k1 : PySem.W.keepIn K (.ref f1) = true)
    (a2 : PySem.W.nsIn K mainGlobals "are_boxes" = some (some (.ref f2))) (l2 : K.lookup f2 = some ⟨oc2, od2, .func (PySem.W.fnOf "are_boxes" "are_boxes" (defArgs s_are_boxes) (defBody s_are_boxes) (defScope s_are_boxes) .none kV2 dc2 pm2 an2 cd2 ct2), sl2⟩) (c2 : PySem.W.codeIn K cd2 "are_boxes" = true) (k2 : PySem.W.keepIn K (.ref f2) = true)
    (a3 : PySem.W.nsIn K mainGlobals "are_items" = some (some (.ref f3))) (l3 : K.lookup f3 = some ⟨oc3, od3, .func (PySem.W.fnOf "are_items" "are_items" (defArgs s_are_items) (defBody s_are_items) (defScope s_are_items) .none kV3 dc3 pm3 an3 cd3 ct3), sl3⟩) (c3 : PySem.W.codeIn K cd3 "are_items" = true) (k3 : PySem.W.keepIn K (.ref f3) = true)
    (a4 : PySem.W.nsIn K mainGlobals "quantities_of" = some (some (.ref f4))) (l4 : K.lookup f4 = some ⟨oc4, od4, .func (PySem.W.fnOf "quantities_of" "quantities_of" (defArgs s_quantities_of) (defBody s_quantities_of) (defScope s_quantities_of) .none kV4 dc4 pm4 an4 cd4 ct4), sl4⟩) (c4 : PySem.W.codeIn K cd4 "quantities_of" = true) (k4 : PySem.W.keepIn K (.ref f4) = true)
    (a5 : PySem.W.nsIn K mainGlobals "sorted_sizes" = some (some (.ref f5))) (l5 : K.lookup f5 = some ⟨oc5, od5, .func (PySem.W.fnOf "sorted_sizes" "sorted_sizes" (defArgs s_sorted_sizes) (defBody s_sorted_sizes) (defScope s_sorted_sizes) .none kV5 dc5 pm5 an5 cd5 ct5), sl5⟩) (c5 : PySem.W.codeIn K cd5 "sorted_sizes" = true) (k5 : PySem.W.keepIn K (.ref f5) = true)
    (a6 : PySem.W.nsIn K mainGlobals "volume_of" = some (some (.ref f6))) (l6 : K.lookup f6 = some ⟨oc6, od6, .func (PySem.W.fnOf "volume_of" "volume_of" (defArgs s_volume_of) (defBody s_volume_of) (defScope s_volume_of) .none kV6 dc6 pm6 an6 cd6 ct6), sl6⟩) (c6 : PySem.W.codeIn K cd6 "volume_of" = true) (k6 : PySem.W.keepIn K (.ref f6) = true)
    (a7 : PySem.W.nsIn K mainGlobals "goes_into" = some (some (.ref f7))) (l7 : K.lookup f7 = some ⟨oc7, od7, .func (PySem.W.fnOf "goes_into" "goes_into" (defArgs s_goes_into) (defBody s_goes_into) (defScope s_goes_into) .none kV7 dc7 pm7 an7 cd7 ct7), sl7⟩) (c7 : PySem.W.codeIn K cd7 "goes_into" = true) (k7 : PySem.W.keepIn K (.ref f7) = true)
    (a8 : PySem.W.nsIn K mainGlobals "is_stocked" = some (some (.ref f8))) (l8 : K.lookup f8 = some ⟨oc8, od8, .func (PySem.W.fnOf "is_stocked" "is_stocked" (defArgs s_is_stocked) (defBody s_is_stocked) (defScope s_is_stocked) .none kV8 dc8 pm8 an8 cd8 ct8), sl8⟩) (c8 : PySem.W.codeIn K cd8 "is_stocked" = true) (k8 : PySem.W.keepIn K (.ref f8) = true)
    (a9 : PySem.W.nsIn K mainGlobals "stocked_count" = some (some (.ref f9))) (l9 : K.lookup f9 = some ⟨oc9, od9, .func (PySem.W.fnOf "stocked_count" "stocked_count" (defArgs s_stocked_count) (defBody s_stocked_count) (defScope s_stocked_count) .none kV9 dc9 pm9 an9 cd9 ct9), sl9⟩) (c9 : PySem.W.codeIn K cd9 "stocked_count" = true) (k9 : PySem.W.keepIn K (.ref f9) = true)
    (a10 : PySem.W.nsIn K mainGlobals "box_count" = some (some (.ref f10))) (l10 : K.lookup f10 = some ⟨oc10, od10, .func (PySem.W.fnOf "box_count" "box_count" (defArgs s_box_count) (defBody s_box_count) (defScope s_box_count) .none kV10 dc10 pm10 an10 cd10 ct10), sl10⟩) (c10 : PySem.W.codeIn K cd10 "box_count" = true) (k10 : PySem.W.keepIn K (.ref f10) = true)
    (a11 : PySem.W.nsIn K mainGlobals "with_box" = some (some (.ref f11))) (l11 : K.lookup f11 = some ⟨oc11, od11, .func (PySem.W.fnOf "with_box" "with_box" (defArgs s_with_box) (defBody s_with_box) (defScope s_with_box) .none kV11 dc11 pm11 an11 cd11 ct11), sl11⟩) (c11 : PySem.W.codeIn K cd11 "with_box" = true) (k11 : PySem.W.keepIn K (.ref f11) = true)
    (a12 : PySem.W.nsIn K mainGlobals "stocked_sizes" = some (some (.ref f12))) (l12 : K.lookup f12 = some ⟨oc12, od12, .func (PySem.W.fnOf "stocked_sizes" "stocked_sizes" (defArgs s_stocked_sizes) (defBody s_stocked_sizes) (defScope s_stocked_sizes) .none kV12 dc12 pm12 an12 cd12 ct12), sl12⟩) (c12 : PySem.W.codeIn K cd12 "stocked_sizes" = true) (k12 : PySem.W.keepIn K (.ref f12) = true)
    (a13 : PySem.W.nsIn K mainGlobals "item_cost" = some (some (.ref f13))) (l13 : K.lookup f13 = some ⟨oc13, od13, .func (PySem.W.fnOf "item_cost" "item_cost" (defArgs s_item_cost) (defBody s_item_cost) (defScope s_item_cost) .none kV13 dc13 pm13 an13 cd13 ct13), sl13⟩) (c13 : PySem.W.codeIn K cd13 "item_cost" = true) (k13 : PySem.W.keepIn K (.ref f13) = true)
    (a14 : PySem.W.nsIn K mainGlobals "stock_cost" = some (some (.ref f14))) (l14 : K.lookup f14 = some ⟨oc14, od14, .func (PySem.W.fnOf "stock_cost" "stock_cost" (defArgs s_stock_cost) (defBody s_stock_cost) (defScope s_stock_cost) .none kV14 dc14 pm14 an14 cd14 ct14), sl14⟩) (c14 : PySem.W.codeIn K cd14 "stock_cost" = true) (k14 : PySem.W.keepIn K (.ref f14) = true)
    (a15 : PySem.W.nsIn K mainGlobals "with_next_box" = some (some (.ref f15))) (l15 : K.lookup f15 = some ⟨oc15, od15, .func (PySem.W.fnOf "with_next_box" "with_next_box" (defArgs s_with_next_box) (defBody s_with_next_box) (defScope s_with_next_box) .none kV15 dc15 pm15 an15 cd15 ct15), sl15⟩) (c15 : PySem.W.codeIn K cd15 "with_next_box" = true) (k15 : PySem.W.keepIn K (.ref f15) = true)
    (a16 : PySem.W.nsIn K mainGlobals "greedy_stock" = some (some (.ref f16))) (l16 : K.lookup f16 = some ⟨oc16, od16, .func (PySem.W.fnOf "greedy_stock" "greedy_stock" (defArgs s_greedy_stock) (defBody s_greedy_stock) (defScope s_greedy_stock) .none kV16 dc16 pm16 an16 cd16 ct16), sl16⟩) (c16 : PySem.W.codeIn K cd16 "greedy_stock" = true) (k16 : PySem.W.keepIn K (.ref f16) = true)
    (n0 : PySem.W.nsIn K mainGlobals "BAD_LIST" = some (some (.int (-22) t0)))
    (n1 : PySem.W.nsIn K mainGlobals "EDGES" = some (some (.int 3 t1)))
    (n2 : PySem.W.nsIn K mainGlobals "NUMBERS_PER_BOX" = some (some (.int 3 t2)))
    (n3 : PySem.W.nsIn K mainGlobals "NUMBERS_PER_ITEM" = some (some (.int 4 t3)))
    (n4 : PySem.W.nsIn K mainGlobals "MOST_BOXES" = some (some (.int 7 t4)))
    (n5 : PySem.W.nsIn K mainGlobals "MOST_ITEMS" = some (some (.int 8 t5)))
    (n6 : PySem.W.nsIn K mainGlobals "LONGEST_EDGE" = some (some (.int 20 t6)))
    (n7 : PySem.W.nsIn K mainGlobals "GREATEST_QUANTITY" = some (some (.int 99 t7)))
    (n8 : PySem.W.nsIn K mainGlobals "COST_WITHOUT_BOX" = some (some (.int 100000 t8)))
    (m_len : PySem.W.nsIn K mainGlobals "len" = some none)
    (m_range : PySem.W.nsIn K mainGlobals "range" = some none)
    (m_sorted : PySem.W.nsIn K mainGlobals "sorted" = some none)
    (m_enumerate : PySem.W.nsIn K mainGlobals "enumerate" = some none)
    (m_min : PySem.W.nsIn K mainGlobals "min" = some none)
    (m_zip : PySem.W.nsIn K mainGlobals "zip" = some none)
    : ∃ fd : FuncData, (∀ (s : Shared) (us : List Value), us.length = (["limit", "boxes", "items"] : List Str).length → BindsTo s fd ⟨us, []⟩ ((["limit", "boxes", "items"] : List Str).zip us)) ∧ ∀ base : Heap, K.In base → base.Ns mainGlobals mg → FnOk P w K mg base CX0 5 fa fd ["limit", "boxes", "items"] (sp_greedy_stock K) := by
  have e := hfa.symm.trans (PySem.W.mg_of X G a16)
  cases e
  have D_in_range : Df K mg "in_range" s_in_range ["numbers", "greatest"] _ _ := df_of X G a0 l0 c0 k0 fun _ _ _ _ _ _ us hl => match us, hl with | [_, _], _ => rfl
  have D_has_length : Df K mg "has_length" s_has_length ["numbers", "step", "most"] _ _ := df_of X G a1 l1 c1 k1 fun _ _ _ _ _ _ us hl => match us, hl with | [_, _, _], _ => rfl
  have D_are_boxes : Df K mg "are_boxes" s_are_boxes ["boxes"] _ _ := df_of X G a2 l2 c2 k2 fun _ _ _ _ _ _ us hl => match us, hl with | [_], _ => rfl
  have D_are_items : Df K mg "are_items" s_are_items ["items"] _ _ := df_of X G a3 l3 c3 k3 fun _ _ _ _ _ _ us hl => match us, hl with | [_], _ => rfl
  have D_quantities_of : Df K mg "quantities_of" s_quantities_of ["items"] _ _ := df_of X G a4 l4 c4 k4 fun _ _ _ _ _ _ us hl => match us, hl with | [_], _ => rfl
  have D_sorted_sizes : Df K mg "sorted_sizes" s_sorted_sizes ["numbers", "step"] _ _ := df_of X G a5 l5 c5 k5 fun _ _ _ _ _ _ us hl => match us, hl with | [_, _], _ => rfl
  have D_volume_of : Df K mg "volume_of" s_volume_of ["size"] _ _ := df_of X G a6 l6 c6 k6 fun _ _ _ _ _ _ us hl => match us, hl with | [_], _ => rfl
  have D_goes_into : Df K mg "goes_into" s_goes_into ["item_size", "box_size"] _ _ := df_of X G a7 l7 c7 k7 fun _ _ _ _ _ _ us hl => match us, hl with | [_, _], _ => rfl
  have D_is_stocked : Df K mg "is_stocked" s_is_stocked ["stock", "box"] _ _ := df_of X G a8 l8 c8 k8 fun _ _ _ _ _ _ us hl => match us, hl with | [_, _], _ => rfl
  have D_stocked_count : Df K mg "stocked_count" s_stocked_count ["stock"] _ _ := df_of X G a9 l9 c9 k9 fun _ _ _ _ _ _ us hl => match us, hl with | [_], _ => rfl
  have D_box_count : Df K mg "box_count" s_box_count ["boxes"] _ _ := df_of X G a10 l10 c10 k10 fun _ _ _ _ _ _ us hl => match us, hl with | [_], _ => rfl
  have D_with_box : Df K mg "with_box" s_with_box ["stock", "box"] _ _ := df_of X G a11 l11 c11 k11 fun _ _ _ _ _ _ us hl => match us, hl with | [_, _], _ => rfl
  have D_stocked_sizes : Df K mg "stocked_sizes" s_stocked_sizes ["stock", "boxes"] _ _ := df_of X G a12 l12 c12 k12 fun _ _ _ _ _ _ us hl => match us, hl with | [_, _], _ => rfl
  have D_item_cost : Df K mg "item_cost" s_item_cost ["item_size", "box_sizes"] _ _ := df_of X G a13 l13 c13 k13 fun _ _ _ _ _ _ us hl => match us, hl with | [_, _], _ => rfl
  have D_stock_cost : Df K mg "stock_cost" s_stock_cost ["stock", "boxes", "items"] _ _ := df_of X G a14 l14 c14 k14 fun _ _ _ _ _ _ us hl => match us, hl with | [_, _, _], _ => rfl
  have D_with_next_box : Df K mg "with_next_box" s_with_next_box ["stock", "boxes", "items"] _ _ := df_of X G a15 l15 c15 k15 fun _ _ _ _ _ _ us hl => match us, hl with | [_, _, _], _ => rfl
  have D_greedy_stock : Df K mg "greedy_stock" s_greedy_stock ["limit", "boxes", "items"] _ _ := df_of X G a16 l16 c16 k16 fun _ _ _ _ _ _ us hl => match us, hl with | [_, _, _], _ => rfl
  have N_BAD_LIST : Num mg "BAD_LIST" (-22) := ⟨t0, PySem.W.mg_of X G n0⟩
  have N_EDGES : Num mg "EDGES" 3 := ⟨t1, PySem.W.mg_of X G n1⟩
  have N_NUMBERS_PER_BOX : Num mg "NUMBERS_PER_BOX" 3 := ⟨t2, PySem.W.mg_of X G n2⟩
  have N_NUMBERS_PER_ITEM : Num mg "NUMBERS_PER_ITEM" 4 := ⟨t3, PySem.W.mg_of X G n3⟩
  have N_MOST_BOXES : Num mg "MOST_BOXES" 7 := ⟨t4, PySem.W.mg_of X G n4⟩
  have N_MOST_ITEMS : Num mg "MOST_ITEMS" 8 := ⟨t5, PySem.W.mg_of X G n5⟩
  have N_LONGEST_EDGE : Num mg "LONGEST_EDGE" 20 := ⟨t6, PySem.W.mg_of X G n6⟩
  have N_GREATEST_QUANTITY : Num mg "GREATEST_QUANTITY" 99 := ⟨t7, PySem.W.mg_of X G n7⟩
  have N_COST_WITHOUT_BOX : Num mg "COST_WITHOUT_BOX" 100000 := ⟨t8, PySem.W.mg_of X G n8⟩
  have M_len := PySem.W.mg_none_of X G m_len
  have M_range := PySem.W.mg_none_of X G m_range
  have M_sorted := PySem.W.mg_none_of X G m_sorted
  have M_enumerate := PySem.W.mg_none_of X G m_enumerate
  have M_min := PySem.W.mg_none_of X G m_min
  have M_zip := PySem.W.mg_none_of X G m_zip
  refine ⟨PySem.W.fnOf "greedy_stock" "greedy_stock" (defArgs s_greedy_stock) (defBody s_greedy_stock) (defScope s_greedy_stock) .none kV16 dc16 pm16 an16 cd16 ct16, fun s us hu => match us, hu with | [_, _, _], _ => .of_eq rfl, fun base _ _ => ?_⟩
  have G_in_range : FnOk P w K mg base CX0 1 _ _ ["numbers", "greatest"] (sp_in_range K) := ok_in_range D_in_range.F
  have G_has_length : FnOk P w K mg base CX0 1 _ _ ["numbers", "step", "most"] (sp_has_length K) := ok_has_length D_has_length.F M_len
  have G_are_boxes : FnOk P w K mg base CX0 2 _ _ ["boxes"] (sp_are_boxes K) := ok_are_boxes D_are_boxes.F D_has_length D_in_range M_len N_NUMBERS_PER_BOX N_MOST_BOXES N_LONGEST_EDGE
  have G_quantities_of : FnOk P w K mg base CX0 1 _ _ ["items"] (sp_quantities_of K) := ok_quantities_of D_quantities_of.F N_EDGES N_NUMBERS_PER_ITEM
  have G_are_items : FnOk P w K mg base CX0 2 _ _ ["items"] (sp_are_items K) := ok_are_items D_are_items.F D_has_length D_in_range D_quantities_of M_len M_range N_EDGES N_NUMBERS_PER_ITEM N_MOST_ITEMS N_LONGEST_EDGE N_GREATEST_QUANTITY
  have G_sorted_sizes : FnOk P w K mg base CX0 1 _ _ ["numbers", "step"] (sp_sorted_sizes K) := ok_sorted_sizes D_sorted_sizes.F M_len M_range M_sorted N_EDGES
  have G_volume_of : FnOk P w K mg base CX0 1 _ _ ["size"] (sp_volume_of K) := ok_volume_of D_volume_of.F
  have G_goes_into : FnOk P w K mg base CX0 1 _ _ ["item_size", "box_size"] (sp_goes_into K) := ok_goes_into D_goes_into.F M_range N_EDGES
  have G_is_stocked : FnOk P w K mg base CX0 1 _ _ ["stock", "box"] (sp_is_stocked) := ok_is_stocked D_is_stocked.F
  have G_stocked_count : FnOk P w K mg base CX0 2 _ _ ["stock"] (sp_stocked_count) := ok_stocked_count D_stocked_count.F D_is_stocked M_len M_range N_MOST_BOXES
  have G_box_count : FnOk P w K mg base CX0 1 _ _ ["boxes"] (sp_box_count K) := ok_box_count D_box_count.F M_len N_NUMBERS_PER_BOX
  have G_with_box : FnOk P w K mg base CX0 1 _ _ ["stock", "box"] (sp_with_box) := ok_with_box D_with_box.F
  have G_stocked_sizes : FnOk P w K mg base CX0 2 _ _ ["stock", "boxes"] (sp_stocked_sizes K) := ok_stocked_sizes D_stocked_sizes.F D_sorted_sizes D_is_stocked M_len M_range M_sorted M_enumerate N_EDGES N_NUMBERS_PER_BOX
  have G_item_cost : FnOk P w K mg base CX0 2 _ _ ["item_size", "box_sizes"] (sp_item_cost K) := ok_item_cost D_item_cost.F D_volume_of D_goes_into M_range M_min N_EDGES N_COST_WITHOUT_BOX
  have G_stock_cost : FnOk P w K mg base CX0 3 _ _ ["stock", "boxes", "items"] (sp_stock_cost K) := ok_stock_cost D_stock_cost.F D_stocked_sizes D_sorted_sizes D_quantities_of D_item_cost D_is_stocked D_volume_of D_goes_into M_len M_range M_sorted M_enumerate M_min M_zip N_EDGES N_NUMBERS_PER_BOX N_NUMBERS_PER_ITEM N_COST_WITHOUT_BOX
  have G_with_next_box : FnOk P w K mg base CX0 4 _ _ ["stock", "boxes", "items"] (sp_with_next_box K) := ok_with_next_box D_with_next_box.F D_stock_cost D_box_count D_with_box G_stock_cost G_box_count G_with_box M_range
  have G_greedy_stock : FnOk P w K mg base CX0 5 _ _ ["limit", "boxes", "items"] (sp_greedy_stock K) := ok_greedy_stock D_greedy_stock.F D_are_boxes D_are_items D_stocked_count D_with_next_box D_stock_cost G_are_boxes G_are_items G_stocked_count G_with_next_box G_stock_cost N_BAD_LIST
  exact G_greedy_stock
end Bx
open PySem PySem.W PyProof.Rows
set_option maxRecDepth 100000 in
set_option maxHeartbeats 8000000 in
theorem PySem.Challenge.cw_boxeskept_s03_greedy_stock_holds : PySem.Challenge.rw_boxeskept_s03_greedy_stock.Holds := by
  w_on; k_headS; (case hw => exact ⟨[.int 0, .list [], .list []], by decide +kernel, by decide +kernel⟩)
  k_fillS
  refine L2.walk_specK (r := PySem.Challenge.rw_boxeskept_s03_greedy_stock) (k := 5) (CX := L2.CX0) (ps := ["limit", "boxes", "items"]) (sp := Bx.sp_greedy_stock) (by decide +kernel) rfl rfl ⟨rfl, by decide, by decide⟩ (fun w h Y => PySem.W.kIn_of Y) ?F ?S (fun _ _ _ _ z => z)
  case F =>
    intro w mg fa h Y KX G hmg
    refine' Bx.all_mk KX G hmg ?a0 ?l0 ?c0 ?k0 ?a1 ?l1 ?c1 ?k1 ?a2 ?l2 ?c2 ?k2 ?a3 ?l3 ?c3 ?k3 ?a4 ?l4 ?c4 ?k4 ?a5 ?l5 ?c5 ?k5 ?a6 ?l6 ?c6 ?k6 ?a7 ?l7 ?c7 ?k7 ?a8 ?l8 ?c8 ?k8 ?a9 ?l9 ?c9 ?k9 ?a10 ?l10 ?c10 ?k10 ?a11 ?l11 ?c11 ?k11 ?a12 ?l12 ?c12 ?k12 ?a13 ?l13 ?c13 ?k13 ?a14 ?l14 ?c14 ?k14 ?a15 ?l15 ?c15 ?k15 ?a16 ?l16 ?c16 ?k16 ?n0 ?n1 ?n2 ?n3 ?n4 ?n5 ?n6 ?n7 ?n8 ?m_len ?m_range ?m_sorted ?m_enumerate ?m_min ?m_zip
    (case a0 => k_is); (case l0 => k_is); (case c0 => k_is); (case k0 => k_is); (case a1 => k_is); (case l1 => k_is); (case c1 => k_is); (case k1 => k_is)
    (case a2 => k_is); (case l2 => k_is); (case c2 => k_is); (case k2 => k_is); (case a3 => k_is); (case l3 => k_is); (case c3 => k_is); (case k3 => k_is)
    (case a4 => k_is); (case l4 => k_is); (case c4 => k_is); (case k4 => k_is); (case a5 => k_is); (case l5 => k_is); (case c5 => k_is); (case k5 => k_is)
    (case a6 => k_is); (case l6 => k_is); (case c6 => k_is); (case k6 => k_is); (case a7 => k_is); (case l7 => k_is); (case c7 => k_is); (case k7 => k_is)
    (case a8 => k_is); (case l8 => k_is); (case c8 => k_is); (case k8 => k_is); (case a9 => k_is); (case l9 => k_is); (case c9 => k_is); (case k9 => k_is)
    (case a10 => k_is); (case l10 => k_is); (case c10 => k_is); (case k10 => k_is); (case a11 => k_is); (case l11 => k_is); (case c11 => k_is); (case k11 => k_is)
    (case a12 => k_is); (case l12 => k_is); (case c12 => k_is); (case k12 => k_is); (case a13 => k_is); (case l13 => k_is); (case c13 => k_is); (case k13 => k_is)
    (case a14 => k_is); (case l14 => k_is); (case c14 => k_is); (case k14 => k_is); (case a15 => k_is); (case l15 => k_is); (case c15 => k_is); (case k15 => k_is)
    (case a16 => k_is); (case l16 => k_is); (case c16 => k_is); (case k16 => k_is); (case n0 => k_is); (case n1 => k_is); (case n2 => k_is); (case n3 => k_is)
    (case n4 => k_is); (case n5 => k_is); (case n6 => k_is); (case n7 => k_is); (case n8 => k_is); (case m_len => k_is); (case m_range => k_is); (case m_sorted => k_is)
    (case m_enumerate => k_is); (case m_min => k_is); (case m_zip => k_is)
  case S =>
    intro K H xs a hO hwi hask hx
    obtain ⟨v0, v1, v2, u⟩ := a
    have q : (Codec.inInt 0 4294967295 v0 && ((Codec.inLen 0 40 v1 && v1.all (Codec.inInt 0 4294967295)) && ((Codec.inLen 0 40 v2 && v2.all (Codec.inInt 0 4294967295)) && true))) = true := hwi
    simp only [Bool.and_eq_true] at q
    obtain ⟨qv0, ⟨lv1, qv1⟩, ⟨lv2, qv2⟩, _⟩ := q
    cases hx with
    | cons hv0 tv0 =>
      cases hv0
      cases tv0 with
      | cons hv1 tv1 =>
        cases hv1 with
        | lst sv1 dv1 =>
          have ev1 := L2.ints_dw v1 _ dv1
          subst ev1
          cases tv1 with
          | cons hv2 tv2 =>
            cases hv2 with
            | lst sv2 dv2 =>
              have ev2 := L2.ints_dw v2 _ dv2
              subst ev2
              cases tv2
              refine ⟨v0, _, _, v1, v2, rfl, sv1, sv2, Nat.le_trans (Codec.inNat_iff.mp lv1).2 (by decide), Nat.le_trans (Codec.inNat_iff.mp lv2).2 (by decide), fun H' p _ hp => ?_⟩
              rw [← Bx.greedy_eq (Bx.inInt_ge qv0) (Bx.inInts_ge qv1) (Bx.inInts_ge qv2)] at hp
              exact .lst (L2.SqL.of hp) (L2.dw_ints _)
#print axioms PySem.Challenge.cw_boxeskept_s03_greedy_stock_holds
