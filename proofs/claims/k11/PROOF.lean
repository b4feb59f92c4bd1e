import PyProof.Rows.All
import Wide.All
import OpenK.AllK
import Wide.FinOn
import HandS.ForMost
import HandS.Exc
import HandS.ExcOwn
import HandS.Zip
import HandS.TupAny
import HandS.Deep
import HandS.IsInst
import HandS.WordsExc
import HandS.WordsList
import KE.GoesEnum
import KE.KDictZip
import KE.SortData
import KE.DataMinMax
import HandS.ExcInit
import HandS.ExcField
import PyProof.ReprBulk
import PyProof.ReprRoads
import HandS.TryMany
import HandS.Style
import PyProof.NeKinds
import PySem.Challenge.RW_turnweights_k11_levels_that_follow_memor
set_option Elab.async false
set_option linter.all false
set_option maxRecDepth 100000
set_option maxHeartbeats 8000000
namespace VM
/-! ### memories, as lists of naturals -/
def wiped (i e l : Nat) : Bool := if i % 2 = 1 then decide (l ≤ e) else decide (e ≤ l)
def cut (l : Nat) : Nat → List Nat → List Nat
  | _, [] => [l]
  | i, e :: r => if wiped i e l then [l] else e :: cut l (i + 1) r
def moved (m : List Nat) (l : Nat) : List Nat := if l = 0 then [] else cut l 0 m
def followed (m ls : List Nat) : List Nat := ls.foldl moved m
def hstep (d h l : Nat) : Nat := if d < l then (if h < l then l else h) else 0
def height (m : List Nat) (d : Nat) : Nat := m.foldl (hstep d) 0
def heights (top : Nat) (m : List Nat) : List Nat := (List.range top).map (height m)
def mstep (s : List Nat × Nat) (p : Nat × Nat) : List Nat × Nat := if 0 < p.1 then (s.1 ++ [p.2, p.1], p.2 + 1) else s
def memOf (hs : List Nat) : List Nat := let s := hs.zipIdx.foldl mstep ([], 0); followed [] (s.1 ++ [s.2])
def isOn (u d : Nat) (ls : List Nat) : Bool := ls.foldl (fun b l => if l ≤ d then false else if u ≤ l then true else b) false
def switches (top : Nat) : List (List Nat) := ((List.range top).map fun u => (List.range (u + 1)).map fun d => [u + 1, d]).flatten
def on (top : Nat) (ls : List Nat) : List (List Nat) := (switches top).filter fun s => isOn (s.getD 0 0) (s.getD 1 0) ls
/-! the law's memories -/
def lots : Nat → List (List Nat)
  | 0 => [[]]
  | n + 1 => lots n ++ (lots n).map (· ++ [n + 1])
def entries : Nat → Nat → List Nat → List Nat
  | 0, _, _ => []
  | _ + 1, _, [] => []
  | f + 1, i, e :: r => if i % 2 = 0 then ((e :: r).getLastD 0) :: entries f (i + 1) ((e :: r).dropLast) else e :: entries f (i + 1) r
def ent (lot : List Nat) : List Nat := entries lot.length 0 lot
def msOf (top : Nat) : List (List Nat) := (lots top).map ent
def code (hs : List Nat) : Nat := hs.foldl (fun c h => 8 * c + h) 0
/-- the height vectors of all memories are closed under max and min, and lead back to their memories -/
def closed (top : Nat) : Bool :=
  let hs := (msOf top).map (heights top)
  let cs := hs.map code
  hs.all fun a => hs.all fun b => cs.contains (code (List.zipWith max a b)) && cs.contains (code (List.zipWith min a b))
def back (top : Nat) : Bool := (msOf top).all fun a => memOf (heights top a) == a && followed [] a == a && (heights top a).all (· < 8) && a.all fun l => decide (l ≤ top)
theorem closed1 : closed 1 = true := by decide +kernel
theorem closed2 : closed 2 = true := by decide +kernel
theorem closed3 : closed 3 = true := by decide +kernel
theorem closed4 : closed 4 = true := by decide +kernel
theorem closed5 : closed 5 = true := by decide +kernel
theorem closed6 : closed 6 = true := by decide +kernel
theorem back1 : back 1 = true := by decide +kernel
theorem back2 : back 2 = true := by decide +kernel
theorem back3 : back 3 = true := by decide +kernel
theorem back4 : back 4 = true := by decide +kernel
theorem back5 : back 5 = true := by decide +kernel
theorem back6 : back 6 = true := by decide +kernel
end VM
namespace VM
theorem cut_at : ∀ (m : List Nat) (k i e l : Nat), (∀ j x, j < i → m[j]? = some x → wiped (k + j) x l = false) → m[i]? = some e → wiped (k + i) e l = true → cut l k m = m.take i ++ [l]
  | [], k, i, e, l, _, h, _ => by simp at h
  | x :: r, k, 0, e, l, _, h, hw => by
    have : x = e := by simpa using h
    subst this
    simp only [Nat.add_zero] at hw
    simp [cut, hw]
  | x :: r, k, i + 1, e, l, hn, h, hw => by
    have h0 : wiped k x l = false := by simpa using hn 0 x (by omega) (by simp)
    have ih := cut_at r (k + 1) i e l (fun j y hj hy => by
      have := hn (j + 1) y (by omega) (by simpa using hy)
      rw [show k + 1 + j = k + (j + 1) by omega]
      exact this) (by simpa using h) (by rw [show k + 1 + i = k + (i + 1) by omega]; exact hw)
    simp [cut, h0, ih]
theorem cut_none : ∀ (m : List Nat) (k l : Nat), (∀ j x, m[j]? = some x → wiped (k + j) x l = false) → cut l k m = m ++ [l]
  | [], k, l, _ => rfl
  | x :: r, k, l, hn => by
    have h0 : wiped k x l = false := by simpa using hn 0 x (by simp)
    have ih := cut_none r (k + 1) l (fun j y hy => by
      have := hn (j + 1) y (by simpa using hy)
      rw [show k + 1 + j = k + (j + 1) by omega]
      exact this)
    simp [cut, h0, ih]
theorem cut_len : ∀ (m : List Nat) (k l : Nat), (cut l k m).length ≤ m.length + 1
  | [], _, _ => Nat.le_refl _
  | x :: r, k, l => by
    have := cut_len r (k + 1) l
    unfold cut
    split <;> simp <;> omega
theorem moved_len (m : List Nat) (l : Nat) : (moved m l).length ≤ m.length + 1 := by
  unfold moved
  split
  · simp
  · exact cut_len _ _ _
theorem cut_le {b : Nat} : ∀ (m : List Nat) (k l : Nat), (∀ x ∈ m, x ≤ b) → l ≤ b → ∀ x ∈ cut l k m, x ≤ b
  | [], _, l, _, hl, x, hx => by simp [cut] at hx; omega
  | y :: r, k, l, h, hl, x, hx => by
    unfold cut at hx
    split at hx
    · simp at hx; omega
    · rcases List.mem_cons.mp hx with rfl | hx
      · exact h _ (by simp)
      · exact cut_le r (k + 1) l (fun z hz => h z (by simp [hz])) hl x hx
theorem moved_le {b : Nat} (m : List Nat) (l : Nat) (h : ∀ x ∈ m, x ≤ b) (hl : l ≤ b) : ∀ x ∈ moved m l, x ≤ b := by
  unfold moved
  split
  · simp
  · exact cut_le m 0 l h hl
theorem followed_snoc (m ls : List Nat) (l : Nat) : followed m (ls ++ [l]) = moved (followed m ls) l := by simp [followed]
theorem followed_len : ∀ (ls m : List Nat), (followed m ls).length ≤ m.length + ls.length
  | [], m => by simp [followed]
  | l :: r, m => by
    have h1 := followed_len r (moved m l)
    have h2 := moved_len m l
    show (followed (moved m l) r).length ≤ _
    simp only [List.length_cons]
    omega
theorem take_succ {α : Type} {l : List α} {i : Nat} {x : α} (h : l[i]? = some x) : l.take (i + 1) = l.take i ++ [x] := by
  rw [List.take_add_one, h]
  rfl
theorem followed_take {m ls : List Nat} {i l : Nat} (h : ls[i]? = some l) : followed m (ls.take (i + 1)) = moved (followed m (ls.take i)) l := by
  rw [take_succ h, followed_snoc]
theorem height_snoc (m : List Nat) (d l : Nat) : height (m ++ [l]) d = hstep d (height m d) l := by simp [height]
theorem height_take {m : List Nat} {i d l : Nat} (h : m[i]? = some l) : height (m.take (i + 1)) d = hstep d (height (m.take i) d) l := by
  rw [take_succ h, height_snoc]
theorem hstep_le {d h l b : Nat} (hh : h ≤ b) (hl : l ≤ b) : hstep d h l ≤ b := by
  unfold hstep
  split
  · split <;> omega
  · omega
theorem height_le {b : Nat} (d : Nat) : ∀ (ls : List Nat) , (∀ x ∈ ls, x ≤ b) → height ls d ≤ b := by
  intro ls h
  unfold height
  have g : ∀ (ls : List Nat) (s : Nat), (∀ x ∈ ls, x ≤ b) → s ≤ b → ls.foldl (hstep d) s ≤ b := by
    intro ls
    induction ls with
    | nil => intro s _ hs; exact hs
    | cons x r ih => intro s h hs; exact ih _ (fun y hy => h y (by simp [hy])) (hstep_le hs (h x (by simp)))
  exact g ls 0 h (Nat.zero_le _)
def ostep (u d : Nat) (b : Bool) (l : Nat) : Bool := if l ≤ d then false else if u ≤ l then true else b
theorem isOn_take {u d l i : Nat} {ls : List Nat} (h : ls[i]? = some l) : isOn u d (ls.take (i + 1)) = ostep u d (isOn u d (ls.take i)) l := by
  rw [take_succ h]
  simp [isOn, ostep]
theorem isOn_height {u d : Nat} (hd : d < u) (ls : List Nat) : isOn u d ls = decide (u ≤ height ls d) := by
  have g : ∀ (ls : List Nat) (b : Bool) (h : Nat), b = decide (u ≤ h) → ls.foldl (fun b l => if l ≤ d then false else if u ≤ l then true else b) b = decide (u ≤ ls.foldl (hstep d) h) := by
    intro ls
    induction ls with
    | nil => intro b h e; exact e
    | cons l r ih =>
      intro b h e
      refine ih _ _ ?_
      unfold hstep
      by_cases c1 : l ≤ d
      · have n1 : ¬ d < l := by omega
        have n2 : ¬ u ≤ 0 := by omega
        simp [c1, n1, n2]
      · have n1 : d < l := by omega
        by_cases c2 : u ≤ l
        · have : u ≤ (if h < l then l else h) := by split <;> omega
          simp [c1, n1, c2, this]
        · have : decide (u ≤ (if h < l then l else h)) = decide (u ≤ h) := by
            split
            · have a : ¬ u ≤ h := by omega
              simp [a, c2]
            · rfl
          simp [c1, n1, c2, this, e]
  exact g ls false 0 (by
    have : ¬ u ≤ 0 := by omega
    simp [this])
theorem mem_switches {top : Nat} {s : List Nat} : s ∈ switches top ↔ ∃ u d, s = [u, d] ∧ d < u ∧ u ≤ top := by
  unfold switches
  simp only [List.mem_flatten, List.mem_map, List.mem_range]
  constructor
  · rintro ⟨l, ⟨u, hu, rfl⟩, hs⟩
    simp only [List.mem_map, List.mem_range] at hs
    obtain ⟨d, hd, rfl⟩ := hs
    exact ⟨u + 1, d, rfl, by omega, by omega⟩
  · rintro ⟨u, d, rfl, h1, h2⟩
    exact ⟨_, ⟨u - 1, by omega, rfl⟩, by
      simp only [List.mem_map, List.mem_range]
      exact ⟨d, by omega, by rw [show u - 1 + 1 = u by omega]⟩⟩
theorem heights_len (top : Nat) (m : List Nat) : (heights top m).length = top := by simp [heights]
theorem heights_get {top d : Nat} (m : List Nat) (h : d < top) : (heights top m)[d]? = some (height m d) := by simp [heights, h]
theorem code_inj : ∀ (as bs : List Nat) (c e : Nat), as.length = bs.length → (∀ x ∈ as, x < 8) → (∀ x ∈ bs, x < 8) → as.foldl (fun c h => 8 * c + h) c = bs.foldl (fun c h => 8 * c + h) e → c = e ∧ as = bs
  | [], [], c, e, _, _, _, h => ⟨h, rfl⟩
  | a :: as, b :: bs, c, e, hl, ha, hb, h => by
    obtain ⟨h1, h2⟩ := code_inj as bs (8 * c + a) (8 * e + b) (by simpa using hl) (fun x hx => ha x (by simp [hx])) (fun x hx => hb x (by simp [hx])) h
    have := ha a (by simp)
    have := hb b (by simp)
    exact ⟨by omega, by rw [h2, show a = b by omega]⟩
theorem closed_of {top : Nat} (h1 : 1 ≤ top) (h6 : top ≤ 6) : closed top = true ∧ back top = true := by
  rcases (show top = 1 ∨ top = 2 ∨ top = 3 ∨ top = 4 ∨ top = 5 ∨ top = 6 by omega) with rfl | rfl | rfl | rfl | rfl | rfl
  · exact ⟨closed1, back1⟩
  · exact ⟨closed2, back2⟩
  · exact ⟨closed3, back3⟩
  · exact ⟨closed4, back4⟩
  · exact ⟨closed5, back5⟩
  · exact ⟨closed6, back6⟩
structure Good (top : Nat) (a : List Nat) : Prop where
  mem : a ∈ msOf top
  back : memOf (heights top a) = a
  self : followed [] a = a
  small : ∀ x ∈ heights top a, x < 8
  lev : ∀ x ∈ a, x ≤ top
theorem good_of {top : Nat} (h1 : 1 ≤ top) (h6 : top ≤ 6) {a : List Nat} (h : a ∈ msOf top) : Good top a := by
  have q := (closed_of h1 h6).2
  unfold VM.back at q
  have q2 := List.all_eq_true.mp q a h
  simp only [Bool.and_eq_true, beq_iff_eq, List.all_eq_true, decide_eq_true_eq] at q2
  exact ⟨h, q2.1.1.1, q2.1.1.2, q2.1.2, q2.2⟩
theorem zip_small {f : Nat → Nat → Nat} (hf : ∀ a b, a < 8 → b < 8 → f a b < 8) : ∀ (as bs : List Nat), (∀ x ∈ as, x < 8) → (∀ x ∈ bs, x < 8) → ∀ x ∈ List.zipWith f as bs, x < 8
  | [], _, _, _, x, hx => by simp at hx
  | _ :: _, [], _, _, x, hx => by simp at hx
  | a :: as, b :: bs, ha, hb, x, hx => by
    simp only [List.zipWith_cons_cons, List.mem_cons] at hx
    rcases hx with rfl | hx
    · exact hf a b (ha a (by simp)) (hb b (by simp))
    · exact zip_small hf as bs (fun y hy => ha y (by simp [hy])) (fun y hy => hb y (by simp [hy])) x hx
theorem back_to {top : Nat} (h1 : 1 ≤ top) (h6 : top ≤ 6) {a b : List Nat} (ha : a ∈ msOf top) (hb : b ∈ msOf top) (f : Nat → Nat → Nat) (hf : ∀ a b, a < 8 → b < 8 → f a b < 8)
    (hc : code (List.zipWith f (heights top a) (heights top b)) ∈ ((msOf top).map (heights top)).map code) :
    memOf (List.zipWith f (heights top a) (heights top b)) ∈ msOf top ∧ heights top (memOf (List.zipWith f (heights top a) (heights top b))) = List.zipWith f (heights top a) (heights top b) := by
  simp only [List.mem_map] at hc
  obtain ⟨x, ⟨c, hcm, rfl⟩, e⟩ := hc
  have ga := good_of h1 h6 ha
  have gb := good_of h1 h6 hb
  have gc := good_of h1 h6 hcm
  have e2 := (code_inj _ _ 0 0 (by simp [heights_len]) gc.small (zip_small hf _ _ ga.small gb.small) e).2
  rw [← e2, gc.back]
  exact ⟨hcm, rfl⟩
theorem closed_at {top : Nat} (h1 : 1 ≤ top) (h6 : top ≤ 6) {a b : List Nat} (ha : a ∈ msOf top) (hb : b ∈ msOf top) :
    code (List.zipWith max (heights top a) (heights top b)) ∈ ((msOf top).map (heights top)).map code ∧ code (List.zipWith min (heights top a) (heights top b)) ∈ ((msOf top).map (heights top)).map code := by
  have q := (closed_of h1 h6).1
  have q2 : (((msOf top).map (heights top)).all fun a => ((msOf top).map (heights top)).all fun b => (((msOf top).map (heights top)).map code).contains (code (List.zipWith max a b)) && (((msOf top).map (heights top)).map code).contains (code (List.zipWith min a b))) = true := q
  have q3 := List.all_eq_true.mp q2 _ (List.mem_map_of_mem ha)
  have q4 := List.all_eq_true.mp q3 _ (List.mem_map_of_mem hb)
  simp only [Bool.and_eq_true, List.contains_iff_mem] at q4
  exact q4
def joinM (top : Nat) (a b : List Nat) : List Nat := memOf (List.zipWith max (heights top a) (heights top b))
def meetM (top : Nat) (a b : List Nat) : List Nat := memOf (List.zipWith min (heights top a) (heights top b))
theorem join_ok {top : Nat} (h1 : 1 ≤ top) (h6 : top ≤ 6) {a b : List Nat} (ha : a ∈ msOf top) (hb : b ∈ msOf top) : joinM top a b ∈ msOf top ∧ heights top (joinM top a b) = List.zipWith max (heights top a) (heights top b) :=
  back_to h1 h6 ha hb max (fun a b _ _ => by omega) (closed_at h1 h6 ha hb).1
theorem meet_ok {top : Nat} (h1 : 1 ≤ top) (h6 : top ≤ 6) {a b : List Nat} (ha : a ∈ msOf top) (hb : b ∈ msOf top) : meetM top a b ∈ msOf top ∧ heights top (meetM top a b) = List.zipWith min (heights top a) (heights top b) :=
  back_to h1 h6 ha hb min (fun a b _ _ => by omega) (closed_at h1 h6 ha hb).2
theorem zip_comm {f : Nat → Nat → Nat} (hf : ∀ a b, f a b = f b a) : ∀ (as bs : List Nat), List.zipWith f as bs = List.zipWith f bs as
  | [], [] => rfl
  | [], _ :: _ => rfl
  | _ :: _, [] => rfl
  | a :: as, b :: bs => by simp [hf a b, zip_comm hf as bs]
theorem zip_self {f : Nat → Nat → Nat} (hf : ∀ a, f a a = a) : ∀ (as : List Nat), List.zipWith f as as = as
  | [] => rfl
  | a :: as => by
    rw [List.zipWith_cons_cons, hf a, zip_self hf as]
theorem join_comm (top : Nat) (a b : List Nat) : joinM top a b = joinM top b a := by unfold joinM; rw [zip_comm (fun a b => Nat.max_comm a b)]
theorem meet_comm (top : Nat) (a b : List Nat) : meetM top a b = meetM top b a := by unfold meetM; rw [zip_comm (fun a b => Nat.min_comm a b)]
theorem join_self {top : Nat} {a : List Nat} (g : Good top a) : joinM top a a = a := by unfold joinM; rw [zip_self (fun a => Nat.max_self a), g.back]
theorem meet_self {top : Nat} {a : List Nat} (g : Good top a) : meetM top a a = a := by unfold meetM; rw [zip_self (fun a => Nat.min_self a), g.back]
theorem heights_nil (top : Nat) : heights top [] = List.replicate top 0 := by
  unfold heights
  rw [List.eq_replicate_iff]
  simp [height]
theorem zip_zero_max : ∀ (as : List Nat), List.zipWith max (List.replicate as.length 0) as = as
  | [] => rfl
  | a :: as => by simp [List.replicate_succ, zip_zero_max as]
theorem zip_zero_min : ∀ (as : List Nat), List.zipWith min as (List.replicate as.length 0) = List.replicate as.length 0
  | [] => rfl
  | a :: as => by simp [List.replicate_succ, zip_zero_min as]
theorem join_nil {top : Nat} {a : List Nat} (g : Good top a) : joinM top [] a = a := by
  unfold joinM
  have := zip_zero_max (heights top a)
  rw [heights_len] at this
  rw [heights_nil, this, g.back]
theorem nil_mem {top : Nat} (h1 : 1 ≤ top) (h6 : top ≤ 6) : ([] : List Nat) ∈ msOf top := by
  rcases (show top = 1 ∨ top = 2 ∨ top = 3 ∨ top = 4 ∨ top = 5 ∨ top = 6 by omega) with rfl | rfl | rfl | rfl | rfl | rfl <;> decide
theorem meet_nil {top : Nat} (h1 : 1 ≤ top) (h6 : top ≤ 6) (a : List Nat) : meetM top a [] = [] := by
  unfold meetM
  have := zip_zero_min (heights top a)
  rw [heights_len] at this
  rw [heights_nil, this, ← heights_nil]
  exact (good_of h1 h6 (nil_mem h1 h6)).back
theorem on_contains {top : Nat} {ls : List Nat} {u d : Nat} (hd : d < u) (hu : u ≤ top) : (on top ls).contains [u, d] = decide (u ≤ height ls d) := by
  rw [Bool.eq_iff_iff]
  simp only [List.contains_iff_mem, on, List.mem_filter, decide_eq_true_eq]
  constructor
  · rintro ⟨_, h⟩
    simpa [isOn_height hd] using h
  · intro h
    exact ⟨mem_switches.mpr ⟨u, d, rfl, hd, hu⟩, by simpa [isOn_height hd] using h⟩
theorem zip_get {f : Nat → Nat → Nat} {as bs : List Nat} {i x y : Nat} (ha : as[i]? = some x) (hb : bs[i]? = some y) : (List.zipWith f as bs)[i]? = some (f x y) := by
  rw [List.getElem?_zipWith, ha, hb]
theorem on_join {top : Nat} (h1 : 1 ≤ top) (h6 : top ≤ 6) {a b : List Nat} (ha : a ∈ msOf top) (hb : b ∈ msOf top) :
    on top (joinM top a b) = (switches top).filter fun s => (on top a).contains s || (on top b).contains s := by
  unfold on
  refine List.filter_congr fun s hs => ?_
  obtain ⟨u, d, rfl, hd, hu⟩ := mem_switches.mp hs
  show isOn u d _ = ((on top a).contains [u, d] || (on top b).contains [u, d])
  rw [on_contains hd hu, on_contains hd hu, isOn_height hd]
  have e := (join_ok h1 h6 ha hb).2
  have g := heights_get (joinM top a b) (show d < top by omega)
  rw [e, zip_get (heights_get a (by omega)) (heights_get b (by omega))] at g
  have g' := Option.some.inj g
  rw [← g']
  rw [Bool.eq_iff_iff]
  simp only [decide_eq_true_eq, Bool.or_eq_true]
  omega
theorem on_meet {top : Nat} (h1 : 1 ≤ top) (h6 : top ≤ 6) {a b : List Nat} (ha : a ∈ msOf top) (hb : b ∈ msOf top) :
    on top (meetM top a b) = (on top a).filter fun s => (on top b).contains s := by
  have q : (on top a).filter (fun s => (on top b).contains s) = (switches top).filter fun s => (on top b).contains s && isOn (s.getD 0 0) (s.getD 1 0) a := by
    unfold on
    rw [List.filter_filter]
  rw [q]
  unfold on
  refine List.filter_congr fun s hs => ?_
  obtain ⟨u, d, rfl, hd, hu⟩ := mem_switches.mp hs
  show isOn u d _ = ((on top b).contains [u, d] && isOn u d a)
  rw [on_contains hd hu, isOn_height hd, isOn_height hd]
  have e := (meet_ok h1 h6 ha hb).2
  have g := heights_get (meetM top a b) (show d < top by omega)
  rw [e, zip_get (heights_get a (by omega)) (heights_get b (by omega))] at g
  have g' := Option.some.inj g
  rw [← g']
  rw [Bool.eq_iff_iff]
  simp only [decide_eq_true_eq, Bool.and_eq_true]
  omega
end VM
namespace VM
/-! ### one more level: the memories are closed, and so are their heights -/
def steps (top : Nat) : Bool :=
  (msOf top).all fun m => (List.range (top + 1)).all fun l =>
    let n := moved m l
    (msOf top).contains n && (List.range top).all fun d => height n d == hstep d (height m d) l
theorem steps1 : steps 1 = true := by decide +kernel
theorem steps2 : steps 2 = true := by decide +kernel
theorem steps3 : steps 3 = true := by decide +kernel
theorem steps4 : steps 4 = true := by decide +kernel
theorem steps5 : steps 5 = true := by decide +kernel
theorem steps6 : steps 6 = true := by decide +kernel
theorem steps_of {top : Nat} (h1 : 1 ≤ top) (h6 : top ≤ 6) : steps top = true := by
  have : top = 1 ∨ top = 2 ∨ top = 3 ∨ top = 4 ∨ top = 5 ∨ top = 6 := by omega
  rcases this with rfl | rfl | rfl | rfl | rfl | rfl
  · exact steps1
  · exact steps2
  · exact steps3
  · exact steps4
  · exact steps5
  · exact steps6
theorem step_mem {top : Nat} (h1 : 1 ≤ top) (h6 : top ≤ 6) {m : List Nat} {l : Nat} (hm : m ∈ msOf top) (hl : l ≤ top) : moved m l ∈ msOf top ∧ ∀ d, d < top → height (moved m l) d = hstep d (height m d) l := by
  have h := steps_of h1 h6
  simp only [steps, List.all_eq_true, List.mem_range, Bool.and_eq_true, List.contains_iff_mem, beq_iff_eq] at h
  exact h m hm l (by omega)
theorem steps_mem {top : Nat} (h1 : 1 ≤ top) (h6 : top ≤ 6) : ∀ (ls m : List Nat), m ∈ msOf top → (∀ l ∈ ls, l ≤ top) → followed m ls ∈ msOf top ∧ ∀ d, d < top → height (followed m ls) d = ls.foldl (hstep d) (height m d)
  | [], m, hm, _ => ⟨hm, fun d _ => rfl⟩
  | l :: r, m, hm, hl => by
    obtain ⟨a, b⟩ := step_mem h1 h6 hm (hl l (by simp))
    obtain ⟨c, e⟩ := steps_mem h1 h6 r (moved m l) a (fun x hx => hl x (by simp [hx]))
    refine ⟨c, fun d hd => ?_⟩
    show height (followed (moved m l) r) d = r.foldl (hstep d) (hstep d (height m d) l)
    rw [e d hd, b d hd]
/-- the memory of a history -/
theorem fol_mem {top : Nat} (h1 : 1 ≤ top) (h6 : top ≤ 6) {ls : List Nat} (hl : ∀ l ∈ ls, l ≤ top) : followed [] ls ∈ msOf top ∧ ∀ d, d < top → height (followed [] ls) d = height ls d :=
  steps_mem h1 h6 ls [] (nil_mem h1 h6) hl
theorem fol_heights {top : Nat} (h1 : 1 ≤ top) (h6 : top ≤ 6) {ls : List Nat} (hl : ∀ l ∈ ls, l ≤ top) : heights top (followed [] ls) = heights top ls := by
  refine List.map_congr_left fun d hd => ?_
  exact (fol_mem h1 h6 hl).2 d (List.mem_range.mp hd)
/-- the switches that are on, by heights -/
def onH (top : Nat) (hs : List Nat) : List (List Nat) := (switches top).filter fun s => decide (s.getD 0 0 ≤ hs.getD (s.getD 1 0) 0)
theorem on_heights (top : Nat) (ls : List Nat) : onH top (heights top ls) = on top ls := by
  refine List.filter_congr fun s hs => ?_
  obtain ⟨u, d, rfl, h1, h2⟩ := mem_switches.mp hs
  show decide (u ≤ (heights top ls).getD d 0) = isOn u d ls
  rw [isOn_height h1, List.getD_eq_getElem?_getD, heights_get ls (by omega)]
  rfl
theorem on_fol {top : Nat} (h1 : 1 ≤ top) (h6 : top ≤ 6) {ls : List Nat} (hl : ∀ l ∈ ls, l ≤ top) : on top (followed [] ls) = on top ls := by
  rw [← on_heights, fol_heights h1 h6 hl, on_heights]
theorem mem_on {top : Nat} {ls : List Nat} {u d : Nat} : [u, d] ∈ on top ls ↔ d < u ∧ u ≤ top ∧ isOn u d ls = true := by
  simp only [on, List.mem_filter]
  constructor
  · rintro ⟨h, e⟩
    obtain ⟨u', d', h0, h1, h2⟩ := mem_switches.mp h
    injection h0 with h3 h4
    injection h4 with h5 _
    subst h3 h5
    exact ⟨h1, h2, e⟩
  · rintro ⟨a, b, c⟩
    exact ⟨mem_switches.mpr ⟨u, d, rfl, a, b⟩, c⟩
end VM
namespace VM
/-! ### the memory by greatest and least levels -/
/-- what comes after the last e -/
def after (e : Nat) : List Nat → List Nat
  | [] => []
  | x :: r => if r.contains e then after e r else if x = e then r else x :: r
/-- the greatest (high) or the least -/
def peak (high : Bool) : List Nat → Nat
  | [] => 0
  | x :: r => r.foldl (fun a b => if high then max a b else min a b) x
theorem after_snoc (e l : Nat) (hl : l ≠ e) : ∀ (ls : List Nat), e ∈ ls → after e (ls ++ [l]) = after e ls ++ [l]
  | [], h => by cases h
  | x :: r, h => by
    by_cases c : e ∈ r
    · have c1 : r.contains e = true := by simpa using c
      have c2 : (r ++ [l]).contains e = true := by simp [c]
      show (if (r ++ [l]).contains e then after e (r ++ [l]) else if x = e then r ++ [l] else x :: (r ++ [l])) = (if r.contains e then after e r else if x = e then r else x :: r) ++ [l]
      rw [if_pos c1, if_pos c2]
      exact after_snoc e l hl r c
    · have c1 : ¬ r.contains e = true := by simpa using c
      have c2 : ¬ (r ++ [l]).contains e = true := by simp [c, Ne.symm hl]
      have hx : x = e := by
        rcases List.mem_cons.mp h with h | h
        · exact h.symm
        · exact absurd h c
      show (if (r ++ [l]).contains e then after e (r ++ [l]) else if x = e then r ++ [l] else x :: (r ++ [l])) = (if r.contains e then after e r else if x = e then r else x :: r) ++ [l]
      rw [if_neg c1, if_neg c2, if_pos hx, if_pos hx]
theorem after_last (e : Nat) : ∀ (ls : List Nat), after e (ls ++ [e]) = []
  | [] => by simp [after]
  | x :: r => by
    have c2 : (r ++ [e]).contains e = true := by simp
    show (if (r ++ [e]).contains e then after e (r ++ [e]) else if x = e then r ++ [e] else x :: (r ++ [e])) = []
    rw [if_pos c2]
    exact after_last e r
theorem after_len (e : Nat) : ∀ (ls : List Nat), e ∈ ls → (after e ls).length < ls.length
  | [], h => by cases h
  | x :: r, h => by
    show (if r.contains e then after e r else if x = e then r else x :: r).length < r.length + 1
    by_cases c : e ∈ r
    · rw [if_pos (by simpa using c)]
      have := after_len e r c
      omega
    · have hx : x = e := by
        rcases List.mem_cons.mp h with h | h
        · exact h.symm
        · exact absurd h c
      rw [if_neg (by simpa using c), if_pos hx]
      omega
theorem fold_mem (high : Bool) : ∀ (r : List Nat) (x : Nat), r.foldl (fun a b => if high then max a b else min a b) x ∈ x :: r
  | [], x => by simp
  | y :: r, x => by
    have ih := fold_mem high r (if high then max x y else min x y)
    show r.foldl _ (if high then max x y else min x y) ∈ x :: y :: r
    rcases List.mem_cons.mp ih with h | h
    · rw [h]
      cases high with
      | true =>
        show max x y ∈ x :: y :: r
        rcases Nat.le_total x y with q | q
        · rw [Nat.max_eq_right q]; simp
        · rw [Nat.max_eq_left q]; simp
      | false =>
        show min x y ∈ x :: y :: r
        rcases Nat.le_total x y with q | q
        · rw [Nat.min_eq_left q]; simp
        · rw [Nat.min_eq_right q]; simp
    · exact List.mem_cons_of_mem _ (List.mem_cons_of_mem _ h)
theorem peak_mem {high : Bool} {ls : List Nat} (h : ls ≠ []) : peak high ls ∈ ls := by
  cases ls with
  | nil => exact absurd rfl h
  | cons x r => exact fold_mem high r x
theorem peak_snoc {high : Bool} {ls : List Nat} (h : ls ≠ []) (l : Nat) : peak high (ls ++ [l]) = if high then max (peak high ls) l else min (peak high ls) l := by
  cases ls with
  | nil => exact absurd rfl h
  | cons x r => simp [peak, List.foldl_append]
/-- highs and lows in turn, by steps -/
def ends : Nat → Bool → List Nat → List Nat
  | 0, _, _ => []
  | n + 1, high, ls => if ls = [] then [] else peak high ls :: ends n (!high) (after (peak high ls) ls)
/-- one more level (none is 0) -/
theorem ends_snoc : ∀ (n k : Nat) (ls : List Nat) (l : Nat), ls.length ≤ n → ends (n + 1) (decide (k % 2 = 0)) (ls ++ [l]) = cut l k (ends n (decide (k % 2 = 0)) ls) := by
  intro n
  induction n with
  | zero =>
    intro k ls l h
    have e : ls = [] := by
      cases ls with
      | nil => rfl
      | cons _ _ => simp at h
    subst e
    show (if ([] ++ [l] : List Nat) = [] then [] else peak _ ([] ++ [l]) :: ends 0 _ _) = cut l k []
    rw [if_neg (by simp)]
    simp [peak, ends, cut]
  | succ n ih =>
    intro k ls l h
    by_cases e : ls = []
    · subst e
      show (if ([] ++ [l] : List Nat) = [] then [] else peak _ ([] ++ [l]) :: ends (n + 1) _ (after (peak _ ([] ++ [l])) ([] ++ [l]))) = cut l k (if ([] : List Nat) = [] then [] else _)
      rw [if_neg (by simp), if_pos rfl]
      have p : peak (decide (k % 2 = 0)) ([] ++ [l]) = l := by simp [peak]
      rw [p, after_last]
      simp [ends, cut]
    · have pm := peak_mem (high := decide (k % 2 = 0)) e
      have ps := peak_snoc (high := decide (k % 2 = 0)) e l
      show (if (ls ++ [l]) = [] then [] else peak (decide (k % 2 = 0)) (ls ++ [l]) :: ends (n + 1) (!decide (k % 2 = 0)) (after (peak (decide (k % 2 = 0)) (ls ++ [l])) (ls ++ [l]))) =
        cut l k (if ls = [] then [] else peak (decide (k % 2 = 0)) ls :: ends n (!decide (k % 2 = 0)) (after (peak (decide (k % 2 = 0)) ls) ls))
      rw [if_neg (by simp), if_neg e]
      have flip : (!decide (k % 2 = 0)) = decide ((k + 1) % 2 = 0) := by
        rw [Bool.eq_iff_iff]
        simp
        omega
      generalize hq : peak (decide (k % 2 = 0)) ls = q at pm ps
      by_cases wp : wiped k q l = true
      · -- the level takes the end's place
        have same : peak (decide (k % 2 = 0)) (ls ++ [l]) = l := by
          rw [ps]
          unfold wiped at wp
          by_cases c : k % 2 = 1
          · rw [if_pos c] at wp
            have c0 : ¬ k % 2 = 0 := by omega
            have := of_decide_eq_true wp
            simp only [decide_eq_false c0, Bool.false_eq_true, if_false]
            omega
          · rw [if_neg c] at wp
            have c0 : k % 2 = 0 := by omega
            have := of_decide_eq_true wp
            simp only [decide_eq_true c0, if_true]
            omega
        rw [same, after_last]
        have z : ends (n + 1) (!decide (k % 2 = 0)) [] = [] := by simp [ends]
        rw [z]
        simp [cut, wp]
      · have wp' : wiped k q l = false := by simpa using wp
        have keep : peak (decide (k % 2 = 0)) (ls ++ [l]) = q ∧ l ≠ q := by
          rw [ps]
          unfold wiped at wp'
          by_cases c : k % 2 = 1
          · rw [if_pos c] at wp'
            have c0 : ¬ k % 2 = 0 := by omega
            have := of_decide_eq_false wp'
            simp only [decide_eq_false c0, Bool.false_eq_true, if_false]
            omega
          · rw [if_neg c] at wp'
            have c0 : k % 2 = 0 := by omega
            have := of_decide_eq_false wp'
            simp only [decide_eq_true c0, if_true]
            omega
        rw [keep.1, after_snoc q l keep.2 ls pm, flip]
        have short := after_len q ls pm
        rw [ih (k + 1) (after q ls) l (by omega)]
        simp [cut, wp']
/-- what is left behind the last 0 -/
def left (ls : List Nat) : List Nat := ls.foldl (fun m l => if l = 0 then [] else m ++ [l]) []
theorem ends_more : ∀ (n m : Nat) (h : Bool) (ls : List Nat), ls.length ≤ n → n ≤ m → ends m h ls = ends n h ls := by
  intro n
  induction n with
  | zero =>
    intro m h ls hz _
    have e : ls = [] := by
      cases ls with
      | nil => rfl
      | cons _ _ => simp at hz
    subst e
    cases m <;> simp [ends]
  | succ n ih =>
    intro m h ls hz hm
    obtain ⟨m, rfl⟩ : ∃ k, m = k + 1 := ⟨m - 1, by omega⟩
    show (if ls = [] then [] else _) = (if ls = [] then [] else _)
    by_cases e : ls = []
    · rw [if_pos e, if_pos e]
    · rw [if_neg e, if_neg e]
      have short := after_len _ ls (peak_mem (high := h) e)
      rw [ih m (!h) (after (peak h ls) ls) (by omega) (by omega)]
def byEnds (ls : List Nat) : List Nat := ends (left ls).length true (left ls)
theorem left_snoc (ls : List Nat) (l : Nat) : left (ls ++ [l]) = if l = 0 then [] else left ls ++ [l] := by simp [left]
theorem byEnds_snoc (ls : List Nat) (l : Nat) : byEnds (ls ++ [l]) = moved (byEnds ls) l := by
  unfold byEnds moved
  rw [left_snoc]
  by_cases c : l = 0
  · rw [if_pos c, if_pos c]
    simp [ends]
  · rw [if_neg c, if_neg c, List.length_append]
    exact ends_snoc (left ls).length 0 (left ls) l (Nat.le_refl _)
/-- the memory of a history, by its ends -/
theorem byEnds_followed (ls : List Nat) : byEnds ls = followed [] ls := by
  have all : ∀ n (ls : List Nat), ls.length = n → byEnds ls = followed [] ls := by
    intro n
    induction n with
    | zero =>
      intro ls h
      have e : ls = [] := by
        cases ls with
        | nil => rfl
        | cons _ _ => simp at h
      subst e
      rfl
    | succ n ih =>
      intro ls h
      have ne : ls ≠ [] := by
        intro z
        rw [z] at h
        simp at h
      have e := List.dropLast_concat_getLast ne
      rw [← e, byEnds_snoc, followed_snoc, ih ls.dropLast (by rw [List.length_dropLast]; omega)]
  exact all _ ls rfl
end VM
namespace VM
theorem after_idx (e : Nat) : ∀ (n : Nat) (ls : List Nat), ls.length = n → e ∈ ls → ∃ j, ls.reverse[j]? = some e ∧ (∀ m x, m < j → ls.reverse[m]? = some x → x ≠ e) ∧ ls.drop (ls.length - j) = after e ls ∧ j ≤ ls.length := by
  intro n
  induction n with
  | zero =>
    intro ls h he
    cases ls with
    | nil => cases he
    | cons _ _ => simp at h
  | succ n ih =>
    intro ls h he
    have ne : ls ≠ [] := by
      intro z
      rw [z] at he
      cases he
    obtain ⟨r, x, rfl⟩ : ∃ r x, ls = r ++ [x] := ⟨ls.dropLast, ls.getLast ne, (List.dropLast_concat_getLast ne).symm⟩
    have rev : (r ++ [x]).reverse = x :: r.reverse := by simp
    by_cases c : x = e
    · subst c
      refine ⟨0, by rw [rev]; rfl, fun m y hm => by omega, ?_, Nat.zero_le _⟩
      rw [after_last]
      simp
    · have he' : e ∈ r := by
        rcases List.mem_append.mp he with q | q
        · exact q
        · exact absurd (List.mem_singleton.mp q).symm c
      obtain ⟨j, h1, h2, h3, h4⟩ := ih r (by simpa using h) he'
      refine ⟨j + 1, by rw [rev]; exact h1, ?_, ?_, by simp; omega⟩
      · intro m y hm hy
        rw [rev] at hy
        cases m with
        | zero =>
          have : x = y := by simpa using hy
          rw [← this]
          exact c
        | succ m => exact h2 m y (by omega) (by simpa using hy)
      · rw [after_snoc e x c r he', ← h3]
        rw [show (r ++ [x]).length - (j + 1) = r.length - j by simp]
        rw [List.drop_append_of_le_length (by omega)]
theorem fold_ge : ∀ (r : List Nat) (x : Nat), ∀ y ∈ x :: r, y ≤ r.foldl (fun a b => if true then max a b else min a b) x
  | [], x, y, h => by
    rw [List.mem_singleton.mp h]
    exact Nat.le_refl _
  | z :: r, x, y, h => by
    show y ≤ r.foldl _ (max x z)
    have ih := fold_ge r (max x z)
    rcases List.mem_cons.mp h with q | q
    · exact Nat.le_trans (by omega) (ih (max x z) (by simp))
    · rcases List.mem_cons.mp q with q | q
      · exact Nat.le_trans (by omega) (ih (max x z) (by simp))
      · exact ih y (by simp [q])
theorem fold_le : ∀ (r : List Nat) (x : Nat), ∀ y ∈ x :: r, r.foldl (fun a b => if false then max a b else min a b) x ≤ y
  | [], x, y, h => by
    rw [List.mem_singleton.mp h]
    exact Nat.le_refl _
  | z :: r, x, y, h => by
    show r.foldl _ (min x z) ≤ y
    have ih := fold_le r (min x z)
    rcases List.mem_cons.mp h with q | q
    · exact Nat.le_trans (ih (min x z) (by simp)) (by omega)
    · rcases List.mem_cons.mp q with q | q
      · exact Nat.le_trans (ih (min x z) (by simp)) (by omega)
      · exact ih y (by simp [q])
theorem peak_high {ls : List Nat} {m : Nat} (h : m ∈ ls) (g : ∀ y ∈ ls, y ≤ m) : m = peak true ls := by
  have ne : ls ≠ [] := by
    intro z
    rw [z] at h
    cases h
  have a := g _ (peak_mem (high := true) ne)
  cases ls with
  | nil => cases h
  | cons x r =>
    have b := fold_ge r x m h
    have b' : m ≤ peak true (x :: r) := by
      simpa [peak] using b
    omega
theorem peak_low {ls : List Nat} {m : Nat} (h : m ∈ ls) (g : ∀ y ∈ ls, m ≤ y) : m = peak false ls := by
  have ne : ls ≠ [] := by
    intro z
    rw [z] at h
    cases h
  have a := g _ (peak_mem (high := false) ne)
  cases ls with
  | nil => cases h
  | cons x r =>
    have b := fold_le r x m h
    have b' : peak false (x :: r) ≤ m := by
      simpa [peak] using b
    omega
/-- one turn -/
theorem ends_turn {h : Bool} {ls : List Nat} (ne : ls ≠ []) : ends ls.length h ls = peak h ls :: ends (after (peak h ls) ls).length (!h) (after (peak h ls) ls) := by
  obtain ⟨n, hn⟩ : ∃ n, ls.length = n + 1 := by
    cases ls with
    | nil => exact absurd rfl ne
    | cons x r => exact ⟨r.length, rfl⟩
  have short := after_len _ ls (peak_mem (high := h) ne)
  rw [hn]
  show (if ls = [] then [] else peak h ls :: ends n (!h) (after (peak h ls) ls)) = _
  rw [if_neg ne]
  congr 1
  exact ends_more _ _ _ _ (Nat.le_refl _) (by omega)
end VM
namespace VK
open PySem PySem.Spec PyProof.Rows L2

/-! ### raise C(), C an own exception class without an __init__ of its own -/
section
variable {X : Cx}
theorem pmk_own0 {C : Addr} {bmB : List Value} {B newId initId : String} {x : Str} {p pos : Pos} (F : ExcBaseFacts B newId initId bmB)
    (q : PySem.W.excIn X.K C bmB newId = true) (gC : X.mg x = some (.ref C)) (kC : PySem.W.keepIn X.K (.ref C) = true) (r : Raises X (.ref C)) (hg : Gl X x)
    (hdb : (x == ("__debug__" : Str)) = false := by decide) : PMk X (.Call (.Name x p) [] [] pos) (fun _ H Q => Q (.ref C) none H) := by
  intro pins s σ H Q I h
  refine wpAny_Call_Name_kw (ld_glob I hg gC ?_ hdb)
  refine PySem.W.callWith_K0 I.kIn kC ?_
  show wpAny _ _ (call (.ref C) []) _ _ _
  obtain ⟨bm, N, nm, qn, bs, hdct, sn, sub, ab, col, dd, k0, k1, k2, k3, k5, mN, hC, hN, hni, T⟩ := exc_obj I.kIn q
  exact wpAny_call_exc_subT F T hC hN hni (fun h' e hm => mk_of I hm r h (I.hok.gone hm.new)) (by show 0 ≤ sizeLine; exact Nat.zero_le _)
end

/-! ### the greatest and the least of a tuple of ints -/
section
variable {X : Cx}
theorem dp_ints {K : PySem.W.Frag} {H : Hp} : ∀ ns : List Int, DpAll K H (ns.map V.int) (ns.map PyData.int)
  | [] => .nil
  | n :: r => .cons (.int n) (dp_ints r)
theorem alike_intsAll (ns : List Int) : PySem.W.AlikeAll (ns.map PyData.int) := by
  refine ⟨fun x hx y hy => ?_, fun x hx e => ?_⟩
  · obtain ⟨i, _, rfl⟩ := List.mem_map.mp hx
    obtain ⟨j, _, rfl⟩ := List.mem_map.mp hy
    rfl
  · obtain ⟨i, _, rfl⟩ := List.mem_map.mp hx
    cases e
theorem reads_int {h : Heap} {v : Value} {m : Int} {bs : List Addr} (r : Reads h v (.int m) bs) : ∃ t, v = .int m t := by
  cases r
  exact ⟨_, rfl⟩
def rMaxT (K : PySem.W.Frag) : List V → Hp → VK → Prop := fun vs H Q => ∃ (a : Addr) (n : Int) (ns : List Int), vs = [V.ref a] ∧ SqT K H a ((n :: ns).map V.int) ∧ Q (.int (ns.foldl max n)) H
def rMinT (K : PySem.W.Frag) : List V → Hp → VK → Prop := fun vs H Q => ∃ (a : Addr) (n : Int) (ns : List Int), vs = [V.ref a] ∧ SqT K H a ((n :: ns).map V.int) ∧ Q (.int (ns.foldl min n)) H
theorem cr_maxT (hc : X.calm = true) (hu : X.A.units + 1 < cLine) : CallR X (.builtin "max") (rMaxT X.K) := by
  intro pins s σ H vs us Q I r h
  obtain ⟨a, n, ns, rfl, hs, q⟩ := h
  obtain ⟨its, rv, ht, _⟩ := I.tuple hs
  rw [Vals.ref1 r]
  obtain ⟨as, hr⟩ := Dp.readsAll I ((n :: ns).map PyData.int) _ its (dp_ints (n :: ns)) rv
  refine PySem.W.max_tuple_data (x := .int n) (xs := ns.map .int) (I.ok.hd hc) ht (by simpa using hr) (alike_intsAll (n :: ns)) (by rw [show PyData.depthAll (.int n :: ns.map .int) = 0 from PySem.W.depth_ints (n :: ns)]; exact hu) fun i v h' tk bs _ rd hk => ?_
  rw [PySem.W.maxD_ints] at rd
  obtain ⟨t, rfl⟩ := reads_int rd
  exact ⟨.int _, H, I.kept hk, ⟨_, rfl⟩, q⟩
theorem cr_minT (hc : X.calm = true) (hu : X.A.units + 1 < cLine) : CallR X (.builtin "min") (rMinT X.K) := by
  intro pins s σ H vs us Q I r h
  obtain ⟨a, n, ns, rfl, hs, q⟩ := h
  obtain ⟨its, rv, ht, _⟩ := I.tuple hs
  rw [Vals.ref1 r]
  obtain ⟨as, hr⟩ := Dp.readsAll I ((n :: ns).map PyData.int) _ its (dp_ints (n :: ns)) rv
  refine PySem.W.min_tuple_data (x := .int n) (xs := ns.map .int) (I.ok.hd hc) ht (by simpa using hr) (alike_intsAll (n :: ns)) (by rw [show PyData.depthAll (.int n :: ns.map .int) = 0 from PySem.W.depth_ints (n :: ns)]; exact hu) fun i v h' tk bs _ rd hk => ?_
  rw [PySem.W.minD_ints] at rd
  obtain ⟨t, rfl⟩ := reads_int rd
  exact ⟨.int _, H, I.kept hk, ⟨_, rfl⟩, q⟩
end
end VK
namespace VK
open PySem PySem.Spec PyProof.Rows L2
section
variable {X : Cx}
/-! ### sorted of a list of alike data -/
abbrev srt (xs : List V) (ds : List PyData) : List (V × PyData) := (xs.zip ds).mergeSort (PySem.W.dataLe false Prod.snd)
def rSortD (K : PySem.W.Frag) : List V → Hp → VK → Prop := fun vs H Q => ∃ (a : Addr) (xs : List V) (ds : List PyData), vs = [V.ref a] ∧ SqL K H a xs ∧ DpAll K H xs ds ∧ PySem.W.AllAlike ds ∧ PySem.W.Sortable ds ∧
  (∀ d ∈ ds, d.depth ≤ 60) ∧ ∀ p, H p = none → Q (.ref p) (upd H p (.lst ((srt xs ds).map Prod.fst)))
theorem dpAll_len {K : PySem.W.Frag} {H : Hp} : ∀ {xs : List V} {ds : List PyData}, DpAll K H xs ds → xs.length = ds.length
  | _, _, .nil => rfl
  | _, _, .cons _ t => congrArg (· + 1) (dpAll_len t)
theorem each_of {R : Value → V × PyData → Prop} : ∀ {xs : List V} {ds : List PyData} {us : List Value}, xs.length = ds.length → Vals xs us → (∀ v x d, RelV x v → (x, d) ∈ xs.zip ds → R v (x, d)) → PySem.W.EachIs R us (xs.zip ds)
  | [], [], _, _, .nil, _ => .nil
  | x :: xs, d :: ds, _, hl, .cons r t, f => .cons (f _ _ _ r (by simp)) (each_of (by simpa using hl) t fun v y e ry hm => f v y e ry (by simp [hm]))
theorem dp_zip {K : PySem.W.Frag} {H : Hp} : ∀ {xs : List V} {ds : List PyData}, DpAll K H xs ds → ∀ x d, (x, d) ∈ xs.zip ds → Dp K H x d
  | _, _, .nil, x, d, hm => by simp at hm
  | _, _, .cons h t, x, d, hm => by
    simp only [List.zip_cons_cons, List.mem_cons, Prod.mk.injEq] at hm
    rcases hm with ⟨rfl, rfl⟩ | hm
    · exact h
    · exact dp_zip t x d hm
theorem vals_of_each : ∀ {us : List Value} {bs : List (V × PyData)}, PySem.W.EachIs (fun v b => RelV b.1 v) us bs → Vals (bs.map Prod.fst) us
  | _, _, .nil => .nil
  | _, _, .cons r t => .cons r (vals_of_each t)
theorem snd_zip : ∀ {xs : List V} {ds : List PyData}, xs.length = ds.length → (xs.zip ds).map Prod.snd = ds
  | [], [], _ => rfl
  | x :: xs, d :: ds, h => by simp [snd_zip (xs := xs) (ds := ds) (by simpa using h)]
theorem cr_sortD (hu : X.A.units + 64 < cLine) : CallR X (.builtin "sorted") (rSortD X.K) := by
  intro pins s σ H vs us Q I r h
  obtain ⟨a, xs, ds, rfl, hs, hd, ha, hk, hdep, q⟩ := h
  obtain ⟨its, rv, hl, hz⟩ := I.list hs
  rw [Vals.ref1 r]
  have len := dpAll_len hd
  have e := snd_zip len
  refine PySem.W.sorted_data (R := fun v b => RelV b.1 v) (bs := xs.zip ds) (enc := Prod.snd) hl.isList (each_of len rv fun v x d h1 _ => h1) (each_of len rv fun v x d h1 h2 => Dp.reads I d x v (dp_zip hd x d h2) h1)
    (by rw [e]; exact ha) (by rw [e]; exact hk) (by rw [List.length_zip, len]; simpa [← len] using hz) (fun b hb => ?_) fun out h1 h2 => ?_
  · have : b.2 ∈ ds := by rw [← e]; exact List.mem_map_of_mem hb
    have := hdep _ this
    omega
  · obtain ⟨ep, he⟩ := PyProof.Rows.sortedAll_at s.heap its (List.toArray out)
    have v2 := vals_of_each h2
    have hsz : ((srt xs ds).map Prod.fst).length ≤ sizeLine := by
      rw [List.length_map, List.length_mergeSort, List.length_zip, len]; simpa [← len] using hz
    exact ⟨.ref _, upd H (s.heap.objs.size + 1) (.lst ((srt xs ds).map Prod.fst)), I.laid (t' := s.toks) (fun _ _ => PyProof.Rows.sortedAll_old) (Nat.le_succ _)
      ⟨hsz, out, ep, v2, he⟩, rfl, q _ (I.hok.fresh (Nat.le_succ _))⟩
end
end VK
namespace VK
open PySem PySem.Spec PyProof.Rows L2
/-! ### enumerate(t), t a tuple -/
set_option maxHeartbeats 4000000 in
theorem enumB {v : Value} {o : Obj} {G : Heap → Prop} (B : Begins v o G) :
    Meets (Builtin.«enumerate.__new__» ⟨[.type "enumerate", v], []⟩) (fun _ R s => G s.heap ∧
      R (.ok (.ret (.ref (s.heap.push o).objs.size))) { s with heap := (s.heap.push o).push { cls := .type "enumerate", data := .fields #[.none, .bool false, .ref s.heap.objs.size, rawInt 0, .none, .none] } }) :=
  .of_wp fun prog w A R s hh => by
    obtain ⟨hp, g, dr, tok, os⟩ := s
    obtain ⟨hg, hr⟩ := hh
    have su := sub_enumerate
    have st : ∀ {A' : Around} {E : Value → Shared → Prop} {Q : Value → Shared → Prop}, Q (.ref hp.objs.size) ⟨hp.push o, g, dr, tok, os⟩ → wpAny (model prog w) A' (pyIter v) Q E ⟨hp, g, dr, tok, os⟩ :=
      fun z => B.iter prog w _ _ ⟨hp, g, dr, tok, os⟩ _ hg z
    wp_walk using st
    refine wpAny_stack_any fun sk => wpAny_pure ?_
    split
    · rename_i c _ _ _ _ _
      cases (c == Value.type "enumerate") <;> (wp_walk using st; exact ⟨_, rfl, hr⟩)
    · wp_walk using st
      exact ⟨_, rfl, hr⟩
section
variable {prog : Program} {w : World} {A : Around} {E : Value → Shared → Prop} {s : Shared}
theorem enum1 {v : Value} {o : Obj} {G : Heap → Prop} {Q : Value → Shared → Prop} (B : Begins v o G) (hg : G s.heap)
    (k : ∀ h', IsEnum h' (s.heap.objs.size + 1) s.heap.objs.size 0 .none → h'.get? s.heap.objs.size = some o →
      (∀ b u, s.heap.get? b = some u → h'.get? b = some u) → Q (.ref (s.heap.objs.size + 1)) { s with heap := h' }) :
    wpAny (model prog w) A (call (.type "enumerate") [v]) Q E s := by
  refine callType_new F.called_enumerate (by decide) (F.typeCall_enumerate_1 _) (F.newCall_enumerate_1 _) (fun x => F.args_object_init_2 x _) F.entry_enumerate_new (enumB B) ⟨hg, ?_⟩
  have z1 : (s.heap.push o).objs.size = s.heap.objs.size + 1 := Heap.size_push ..
  have z2 := Heap.get?_push_size (s.heap.push o) (o := { cls := .type "enumerate", data := .fields #[.none, .bool false, .ref s.heap.objs.size, rawInt 0, .none, .none] }) rfl
  show _ ∧ _
  rw [z1]
  rw [z1] at z2
  exact ⟨⟨_, z2, rfl⟩, k _ z2 (Heap.get?_push_of_some _ (Heap.get?_push_size _ B.free)) fun b u x => Heap.get?_push_of_some _ (Heap.get?_push_of_some _ x)⟩
end
/-- the tuple at a, each item in a new pair -/
def IteT (K : PySem.W.Frag) (a : Addr) : It :=
  ⟨fun i H => ∃ (xs : List V) (x : V), SqT K H a xs ∧ xs[i]? = some x,
   fun i H v H' => ∃ T x, v = .ref T ∧ H T = none ∧ H' = upd H T (.tup [.int (i : Nat), x]) ∧ ∀ xs, SqT K H a xs → xs[i]? = some x,
   fun i H => ∃ xs : List V, SqT K H a xs ∧ xs.length = i⟩
theorem turn_enumT {P : Program} {w : World} {K : PySem.W.Frag} {elts : List Expr} {kk : Nat} {tpos : Pos} (a e it : Addr) :
    Turn P w K (.Tuple elts kk tpos) (IteT K a) [e, it] e (fun i h => (∃ old, IsEnum h e it ((i : Nat) : Int) old) ∧ h.IsTupleIter it a i ∧ e ≠ it ∧ a ≠ it ∧ a ≠ e) where
  mem := by simp
  obj := fun i h st b hb => by
    obtain ⟨⟨old, he⟩, ⟨o, ho, hc, hd⟩, _⟩ := st
    simp only [List.mem_cons, List.not_mem_nil, or_false] at hb
    rcases hb with rfl | rfl
    · exact ⟨_, he, fun v q => nomatch q⟩
    · exact ⟨o, ho, fun v q => by rw [hd] at q; cases q⟩
  keep := fun i h h' st k => by
    obtain ⟨⟨old, he⟩, hi, hne⟩ := st
    exact ⟨⟨old, k e (by simp) _ he⟩, hi.at fun o q => k it (by simp) o q, hne⟩
  item := by
    intro X hP hw hK hc i pins s σ H E I hf st hg
    subst hP hw hK
    obtain ⟨⟨old, he⟩, hit, hne, ha1, ha2⟩ := st
    obtain ⟨xs, x, hq, hx⟩ := hg
    obtain ⟨its, rv, p, hz⟩ := I.tuple hq
    obtain ⟨u, hu, ru⟩ := rv.get hx
    have le : e < s.heap.objs.size := Heap.lt_size he
    have li : it < s.heap.objs.size := by obtain ⟨_, q, _⟩ := hit; exact Heap.lt_size q
    have hlt : i < its.toArray.size := by
      have := (List.getElem?_eq_some_iff.mp hu).1
      simpa using this
    refine wpAny_pyNext_enum_itemC (Draws.tuple (A := X.A.in1) (I.ok.hd hc) it a ha1 its.toArray) he ⟨hit, p⟩ hlt hne (by simp [hne, Ne.symm ha2]) fun y h' tk hP ho st' hT hsz hk => ?_
    have ey : y = u := by
      have h1 : its[i]? = some y := by simpa using hP
      rw [hu] at h1
      exact (Option.some.inj h1).symm
    subst ey
    refine ⟨_, rfl, wpAny_letOwnedTupleGo_enum (s := { s with heap := h', toks := tk + 1 }) ho fun h'' he' sb => ?_⟩
    have hT2 : h''.get? s.heap.objs.size = some { cls := .type "tuple", data := .seq #[.int i tk, y] } := (sb.2 _ (Nat.ne_of_gt le)).trans hT
    have new : ObjOk X.prog X.w (upd H s.heap.objs.size (.tup [.int (i : Nat), x])) h'' s.heap.objs.size (.tup [.int (i : Nat), x]) :=
      ⟨by show 2 ≤ sizeLine; decide, [.int i tk, y], .cons ⟨_, rfl⟩ (.cons ru .nil), ⟨_, hT2, rfl, _, rfl⟩⟩
    have I1 : Inv X pins σ (upd H s.heap.objs.size (.tup [.int (i : Nat), x])) { s with heap := h'', toks := tk + 1 } :=
      I.turnedNew (ch := [e, it]) (fun b ob hb q => by
        simp only [List.mem_cons, List.not_mem_nil, or_false, not_or] at hb
        exact (sb.2 b hb.1).trans (hk b ob hb.1 hb.2 q)) hf (Nat.le_refl _) new
    refine ⟨.ref s.heap.objs.size, _, I1, rfl, ⟨_, x, rfl, I.hok.fresh (Nat.le_refl _), rfl, fun ys hy => by rw [I.tuple_inj hy hq]; exact hx⟩, ⟨⟨y, ?_⟩, st'.1.at fun o q => (sb.2 it (Ne.symm hne)).trans q, hne, ha1, ha2⟩, fun b hb => ?_⟩
    · have e1 : ((i + 1 : Nat) : Int) = (i : Int) + 1 := by omega
      rw [e1]
      exact he'
    · have hb' : b < s.heap.objs.size := by
        simp only [List.mem_cons, List.not_mem_nil, or_false] at hb
        rcases hb with rfl | rfl
        · exact le
        · exact li
      rw [upd_ne (Nat.ne_of_lt hb')]
      exact (hf b hb).1
  done := by
    intro X hP hw hK hc i pins s σ H E I hf st hg
    subst hP hw hK
    obtain ⟨⟨old, he⟩, hit, hne, ha1, ha2⟩ := st
    obtain ⟨xs, hq, hx⟩ := hg
    obtain ⟨its, rv, p, hz⟩ := I.tuple hq
    subst hx
    have sz : its.toArray.size = xs.length := by rw [rv.length]; simp
    have fin : s.heap.IsTupleIter it a its.toArray.size ∧ s.heap.IsTuple a its.toArray := ⟨by rw [sz]; exact hit, p⟩
    refine wpAny_pyNext_enum_endD (Draws.tuple (A := X.A.in1) (I.ok.hd hc) it a ha1 its.toArray) he fin fun h' eb => ⟨rfl, ?_⟩
    obtain ⟨f0, f1, f2, f3, f4, f5⟩ := hf it (by simp)
    exact I.turned (t' := s.toks) (fun b o hb q => eb b o hb q) f0 f1 f3 f4 f5
  self := fun A i s Q E st h => let ⟨⟨_, he⟩, _⟩ := st; wpAny_pyIter_enum he h

def iEnumT (K : PySem.W.Frag) (ta : TA) : TI := fun σ H R => ta σ H fun vs H1 => ∃ a xs, vs = [.ref a] ∧ SqT K H1 a xs ∧ R (IteT K a) H1
theorem pi_enumT {X : Cx} {e : Expr} {ta : TA} {p pos tpos : Pos} {elts : List Expr} {kk : Nat} (hg : Gl X "enumerate") (hm : X.mg "enumerate" = none) (ha : PA X [e] ta)
    (hs : starEach [e] X.env = [(false, eval e X.env)] := by rfl) : PI X (.Tuple elts kk tpos) (.Call (.Name "enumerate" p) [e] [] pos) (iEnumT X.K ta) := by
  refine ⟨fun pins s σ H R I h => ?_⟩
  refine Call_ (ld_blt I hg hm boot_enumerate (PyProof.Rows.callWith_type1 (thn (ha.run pos pins s σ H _ I h) fun us s1 ⟨vs, G, J, r1, q1⟩ => ?_) hs rfl))
  obtain ⟨a, xs, ex, hq, q⟩ := q1
  subst ex
  rw [Vals.ref1 r1]
  obtain ⟨its, rv, p', hz⟩ := J.tuple hq
  have la : a < s1.heap.objs.size := by obtain ⟨o, ho, _⟩ := p'; exact Heap.lt_size ho
  refine enum1 (begins_tuple a its.toArray) p' fun h' he hit hk => wpAny_pyIter_enum he ?_
  have J2 : Inv X pins σ G { s1 with heap := h' } := J.kept (t' := s1.toks) hk
  refine ⟨s1.heap.objs.size + 1, [s1.heap.objs.size + 1, s1.heap.objs.size], _, _, G, rfl, J2, turn_enumT a (s1.heap.objs.size + 1) s1.heap.objs.size,
    ⟨⟨.none, he⟩, ⟨_, hit, rfl, rfl⟩, Nat.succ_ne_self _, Nat.ne_of_lt la, Nat.ne_of_lt (Nat.lt_succ_of_lt la)⟩, fun b hb => ?_, q⟩
  have hle : s1.heap.objs.size ≤ b := by
    simp only [List.mem_cons, List.not_mem_nil, or_false] at hb
    rcases hb with rfl | rfl <;> omega
  exact J.fpOk hle (J.hok.fresh hle)
/-- a loop over enumerate of a tuple -/
theorem for_enumT {K : PySem.W.Frag} {a : Addr} {xs : List V} {g : TG} {tb : TS} {D : Ends} {σ : L2.St} {H : Hp} (Pv : Nat → L2.St → Hp → Prop) (h0 : Pv 0 σ H) (hq : ∀ i σ H, Pv i σ H → SqT K H a xs)
    (hs : ∀ (i : Nat) (x : V) (T : Addr) (σ : L2.St) (H : Hp), xs[i]? = some x → Pv i σ H → H T = none → g (.ref T) σ (upd H T (.tup [.int (i : Nat), x])) fun σ2 H2 => tb { D with nx := Pv (i + 1), ct := Pv (i + 1), bk := D.nx } σ2 H2)
    (hd : ∀ σ H, Pv xs.length σ H → D.nx σ H) :
    ∃ W : Nat → Nat → L2.St → Hp → Prop, (∃ m, W 0 m σ H) ∧ ∀ i m σ H, W i m σ H →
      ((IteT K a).stop i H ∧ D.nx σ H) ∨ ((IteT K a).go i H ∧ ∃ N : L2.St → Hp → Prop, (∀ σ' H', N σ' H' → ∃ m', m' < m ∧ W (i + 1) m' σ' H') ∧ ∀ v H', (IteT K a).yld i H v H' → g v σ H' fun σ2 H2 => tb { D with nx := N, ct := N, bk := D.nx } σ2 H2) := by
  refine ⟨fun i m σ H => m = xs.length - i ∧ i ≤ xs.length ∧ Pv i σ H, ⟨xs.length, rfl, Nat.zero_le _, h0⟩, ?_⟩
  rintro i m σ H ⟨rfl, hi, p⟩
  have qx := hq i σ H p
  by_cases lt : i < xs.length
  · refine .inr ⟨⟨xs, _, qx, List.getElem?_eq_getElem lt⟩, Pv (i + 1), fun σ' H' p' => ⟨xs.length - (i + 1), by omega, rfl, lt, p'⟩, fun v H' y => ?_⟩
    obtain ⟨T, x', rfl, hT, rfl, f⟩ := y
    exact hs i x' T σ H (f xs qx) p hT
  · have e : xs.length = i := by omega
    exact .inl ⟨⟨xs, qx, e⟩, hd σ H (by rw [e]; exact p)⟩
end VK
namespace VK
open PySem PySem.Spec PyProof.Rows L2
/-! ### zip(xs, ys) walked by one name: the pair that was handed out last may be alive or not -/
section
variable {prog : Program} {w : World} {A : Around} {E : Value → Shared → Prop} {s : Shared}
theorem dead_free {z TI TO T : Addr} {f : Bool} {Q : Bool → Shared → Prop} (hz : IsZipHeld s.heap z TI TO T f) (hT : s.heap.get? T = none) (h : Q true s) :
    wpAny (model prog w) A (Builtin.SmallTypes.ownedTupleIsFree (.ref z)) Q E s := by
  unfold Builtin.SmallTypes.ownedTupleIsFree
  refine wpAny_bind (wpAny_field hz rfl (x := rawInt T) rfl ?_)
  show wpAny _ _ (loadIfAlive ((T : Int).toNat) >>= _) _ _ _
  rw [Int.toNat_natCast]
  refine wpAny_bind ?_
  have step : wpAny (model prog w) A (loadIfAlive T) (fun r s' => r = none ∧ s' = s) E s := by
    have q : (s.heap.get? T = none ∧ s = s) := ⟨hT, rfl⟩
    exact fun _ _ _ => q
  refine wpAny_mono step (fun r s' hr => ?_) fun _ _ y => y
  obtain ⟨rfl, rfl⟩ := hr
  simp only [Option.isNone_none, if_true]
  exact wpAny_pure h
abbrev ZipF (h : Heap) (z TI TO : Addr) (v : Value) (f : Bool) : Prop :=
  h.get? z = some { cls := .type "zip", dict := none, data := .fields #[v, .bool f, .bool false, .ref TI, .ref TO], slots := #[] }
/-- the heap of a zip whose last pair is gone -/
structure Gone (h : Heap) (z TI TO T : Addr) (f : Bool) (i1 i2 l1 l2 : Addr) (k : Nat) (xs ys : Array Value) : Prop where
  ap : ZipApart z TI TO i1 i2 l1 l2
  hz : IsZipHeld h z TI TO T f
  no : h.get? T = none
  ti : IsPair h TI (.ref i1) (.ref i2)
  to : ∃ a b, IsPair h TO a b
  n1 : h.IsListIter i1 l1 k
  n2 : h.IsListIter i2 l2 k
  g1 : h.IsList l1 xs
  g2 : h.IsList l2 ys
theorem gone_item {z TI TO T i1 i2 l1 l2 : Addr} {f : Bool} {k : Nat} {xs ys : Array Value} {x y : Value} {Q : Value → Shared → Prop} (G : Gone s.heap z TI TO T f i1 i2 l1 l2 k xs ys) (hx : xs[k]? = some x) (hy : ys[k]? = some y)
    (q : ∀ h', IsZip h' z TI TO (rawInt s.heap.objs.size) → IsPair h' TO x y → h'.IsListIter i1 l1 (k + 1) → h'.IsListIter i2 l2 (k + 1) → IsPair h' s.heap.objs.size x y →
      (∀ c o, c ≠ z → c ≠ TO → c ≠ i1 → c ≠ i2 → s.heap.get? c = some o → h'.get? c = some o) → Q (.ref s.heap.objs.size) { s with heap := h' }) :
    wpAny (model prog w) A (Builtin.«zip.__next__» ⟨[.ref z], []⟩) (fun fin s' => ∃ v, fin = .done (.ret v) ∧ Q v s') E s := by
  obtain ⟨D, hz, no, hTI, ⟨a, b, hTO⟩, h1, h2, hl1, hl2⟩ := G
  show wpAny _ _ (field (.ref z) 2 >>= _) _ _ _
  refine wpAny_bind (wpAny_field hz rfl (x := .bool false) rfl ?_); show wpAny _ _ (field (.ref z) 3 >>= _) _ _ _
  refine wpAny_bind (wpAny_field hz rfl (x := .ref TI) rfl (wpAny_bind (wpAny_seqItems hTI rfl ?_)))
  show wpAny _ _ (Builtin.SmallTypes.ownedTupleIsFree (.ref z) >>= _) _ _ _
  refine wpAny_bind (dead_free hz no ?_); simp only [if_true]
  refine wpAny_bind (wpAny_rule (wpAny_bind (wpAny_field hz rfl (x := .ref TO) rfl (wpAny_bind (wpAny_setField_rec hz (by simp) fun g1 hz1 b1 => ?_)))))
  replace hz1 : ZipF g1 z TI TO .ellipsis f := hz1
  refine wpAny_bind ?_; simp only [List.zipIdx_cons, List.zipIdx_nil, List.forIn_cons, List.forIn_nil]
  refine wpAny_bind (wpAny_bind (wpAny_onRaise ?_)); show wpAny _ _ (Builtin.SmallTypes.nextOf (.ref i1) >>= _) _ _ _
  refine wpAny_bind (wpAny_nextOf_list_item (h1.extBut b1.extBut D.i1z) (hl1.extBut b1.extBut D.l1z) hx fun g2 n2 b2 => wpAny_pure ?_)
  replace b2 : Heap.SameBut i1 g1 g2 := b2
  have to2 : IsPair g2 TO a b := b2.extBut _ _ D.TOi1 (b1.extBut _ _ D.TOz hTO)
  refine wpAny_bind (wpAny_seqItems to2 rfl (wpAny_bind (wpAny_updateSeq_pair to2 fun g3 to3 b3 => wpAny_bind (wpAny_letGo (wpAny_pure ?_)))))
  replace to3 : IsPair g3 TO x b := to3
  replace b3 : Heap.SameBut TO g2 g3 := b3
  refine wpAny_bind (wpAny_bind (wpAny_onRaise ?_)); show wpAny _ _ (Builtin.SmallTypes.nextOf (.ref i2) >>= _) _ _ _
  have m2 : g3.IsListIter i2 l2 k := ((h2.extBut b1.extBut D.i2z).extBut b2.extBut D.i12.symm).extBut b3.extBut D.TOi2.symm
  have ml : g3.IsList l2 ys := ((hl2.extBut b1.extBut D.l2z).extBut b2.extBut D.l2i1).extBut b3.extBut D.l2TO
  refine wpAny_bind (wpAny_nextOf_list_item m2 ml hy fun g4 n4 b4 => wpAny_pure ?_)
  replace b4 : Heap.SameBut i2 g3 g4 := b4
  have to4 : IsPair g4 TO x b := b4.extBut _ _ D.TOi2 to3
  refine wpAny_bind (wpAny_seqItems to4 rfl (wpAny_bind (wpAny_updateSeq_pair to4 fun g5 to5 b5 => wpAny_bind (wpAny_letGo (wpAny_pure (wpAny_pure ?_))))))
  replace to5 : IsPair g5 TO x y := to5
  replace b5 : Heap.SameBut TO g4 g5 := b5
  refine wpAny_bind (wpAny_seqItems to5 rfl (wpAny_bind (wpAny_newTuple ?_)))
  have sz : g5.objs.size = s.heap.objs.size := b5.1.trans (b4.1.trans (b3.1.trans (b2.1.trans b1.1)))
  have keep5 : ∀ c o, c ≠ z → c ≠ TO → c ≠ i1 → c ≠ i2 → s.heap.get? c = some o → g5.get? c = some o := fun c o c1 c2 c3 c4 e =>
    b5.extBut c o c2 (b4.extBut c o c4 (b3.extBut c o c2 (b2.extBut c o c3 (b1.extBut c o c1 e))))
  have hz5 : ZipF g5 z TI TO .ellipsis f := b5.extBut _ _ D.TOz.symm (b4.extBut _ _ D.i2z.symm (b3.extBut _ _ D.TOz.symm (b2.extBut _ _ D.i1z.symm hz1)))
  have n15 : g5.IsListIter i1 l1 (k + 1) := ((n2.extBut b3.extBut D.TOi1.symm).extBut b4.extBut D.i12).extBut b5.extBut D.TOi1.symm
  have n25 : g5.IsListIter i2 l2 (k + 1) := n4.extBut b5.extBut D.TOi2.symm
  have lz : z < g5.objs.size := Heap.lt_size hz5
  show wpAny _ _ (Builtin.SmallTypes.ownedTupleHandOut (.ref z) (.ref g5.objs.size) >>= _) _ _ _
  refine wpAny_bind ?_; unfold Builtin.SmallTypes.ownedTupleHandOut
  have hz6 : ZipF (g5.push { cls := .type "tuple", data := .seq #[x, y] }) z TI TO .ellipsis f := Heap.get?_push_of_some _ hz5
  refine wpAny_bind (wpAny_setField_rec hz6 (by simp) fun g7 hz7 b7 => ?_)
  replace hz7 : ZipF g7 z TI TO (rawInt g5.objs.size) f := hz7
  refine wpAny_setField_rec hz7 (by simp) fun g8 hz8 b8 => wpAny_pure ⟨_, rfl, ?_⟩
  replace hz8 : IsZip g8 z TI TO (rawInt g5.objs.size) := hz8
  have up : ∀ c o, c ≠ z → g5.get? c = some o → g8.get? c = some o := fun c o c1 e => b8.extBut _ _ c1 (b7.extBut _ _ c1 (Heap.get?_push_of_some _ e))
  have np : IsPair g8 g5.objs.size x y := b8.extBut _ _ (Nat.ne_of_gt lz) (b7.extBut _ _ (Nat.ne_of_gt lz) (Heap.get?_push_size _ rfl))
  show Q (.ref g5.objs.size) _
  rw [sz] at hz8 np ⊢
  exact q g8 hz8 (up _ _ D.TOz to5) (n15.at fun o e => up _ o D.i1z e) (n25.at fun o e => up _ o D.i2z e) np fun c o c1 c2 c3 c4 e => up c o c1 (keep5 c o c1 c2 c3 c4 e)
theorem gone_end {z TI TO T i1 i2 l1 l2 : Addr} {f : Bool} {k : Nat} {xs ys : Array Value} {Q : Fin → Shared → Prop} (hh : A.handled = none) (G : Gone s.heap z TI TO T f i1 i2 l1 l2 k xs ys) (he : xs[k]? = none)
    (q : ∀ h' e, (∀ c o, c ≠ z → c ≠ TO → c ≠ i1 → c ≠ i2 → s.heap.get? c = some o → h'.get? c = some o) → (∃ o, h'.get? e = some o ∧ o.cls = .type "StopIteration") → E (.ref e) { s with heap := h' }) :
    wpAny (model prog w) A (Builtin.«zip.__next__» ⟨[.ref z], []⟩) Q E s := by
  obtain ⟨D, hz, no, hTI, ⟨a, b, hTO⟩, h1, h2, hl1, hl2⟩ := G
  show wpAny _ _ (field (.ref z) 2 >>= _) _ _ _
  refine wpAny_bind (wpAny_field hz rfl (x := .bool false) rfl ?_); show wpAny _ _ (field (.ref z) 3 >>= _) _ _ _
  refine wpAny_bind (wpAny_field hz rfl (x := .ref TI) rfl (wpAny_bind (wpAny_seqItems hTI rfl ?_)))
  show wpAny _ _ (Builtin.SmallTypes.ownedTupleIsFree (.ref z) >>= _) _ _ _
  refine wpAny_bind (dead_free hz no ?_); simp only [if_true]
  refine wpAny_bind (wpAny_rule (wpAny_bind (wpAny_field hz rfl (x := .ref TO) rfl (wpAny_bind (wpAny_setField_rec hz (by simp) fun g1 hz1 b1 => ?_)))))
  replace hz1 : ZipF g1 z TI TO .ellipsis f := hz1
  refine wpAny_bind ?_; simp only [List.zipIdx_cons, List.zipIdx_nil, List.forIn_cons, List.forIn_nil]
  refine wpAny_bind (wpAny_bind (wpAny_onRaise ?_)); show wpAny _ _ (Builtin.SmallTypes.nextOf (.ref i1) >>= _) _ _ _
  refine wpAny_bind (wpAny_nextOf_list_end hh (h1.extBut b1.extBut D.i1z) (hl1.extBut b1.extBut D.l1z) he fun g2 e b2 hs => ?_)
  obtain ⟨oe, hoe, hce⟩ := hs
  have hz2 : ZipF g2 z TI TO .ellipsis f := b2 _ _ D.i1z.symm hz1
  have ez : e ≠ z := fun y => by subst y; rw [hz2] at hoe; cases hoe; simp at hce
  exact wpAny_setField_rec hz2 (by simp) fun g3 _ b3 => q g3 e (fun c o c1 _ c3 _ y => b3.extBut _ _ c1 (b2 _ _ c3 (b1.extBut _ _ c1 y))) ⟨oe, b3.extBut _ _ ez hoe, hce⟩
end
end VK
namespace VK
open PySem PySem.Spec PyProof.Rows L2
def ItzN (K : PySem.W.Frag) (a b : Addr) : It :=
  ⟨fun i H => ∃ (xs ys : List V), SqL K H a xs ∧ SqL K H b ys ∧ xs.length = ys.length ∧ i < xs.length,
   fun i H v H' => ∃ T x y, v = .ref T ∧ H T = none ∧ H' = upd H T (.tup [x, y]) ∧ (∀ xs, SqL K H a xs → xs[i]? = some x) ∧ ∀ ys, SqL K H b ys → ys[i]? = some y,
   fun i H => ∃ xs ys : List V, SqL K H a xs ∧ SqL K H b ys ∧ xs.length ≤ i⟩
theorem name_go {M : Model} {A : Around} {E : Value → Shared → Prop} {s : Shared} {x : Str} {p : Pos} {it v : Value} {Q : Unit → Shared → Prop} (h : Q () s) : wpAny M A (letOwnedTupleGo (.Name x p) it v) Q E s := by
  unfold letOwnedTupleGo
  exact wpAny_pure h
def ZSt (z TI TO : Addr) (h : Heap) : Prop := IsZip h z TI TO .none ∨ ∃ T f, IsZipHeld h z TI TO T f
theorem pyNext_gone_item {prog : Program} {w : World} {A : Around} {E : Value → Shared → Prop} {s : Shared} {z TI TO T i1 i2 l1 l2 : Addr} {f : Bool} {k : Nat} {xs ys : Array Value} {x y : Value} {Q : Option Value → Shared → Prop} (G : Gone s.heap z TI TO T f i1 i2 l1 l2 k xs ys) (hx : xs[k]? = some x) (hy : ys[k]? = some y)
    (q : ∀ h', IsZip h' z TI TO (rawInt s.heap.objs.size) → IsPair h' TO x y → h'.IsListIter i1 l1 (k + 1) → h'.IsListIter i2 l2 (k + 1) → IsPair h' s.heap.objs.size x y →
      (∀ c o, c ≠ z → c ≠ TO → c ≠ i1 → c ≠ i2 → s.heap.get? c = some o → h'.get? c = some o) → Q (some (.ref s.heap.objs.size)) { s with heap := h' }) :
    wpAny (model prog w) A (pyNext (.ref z)) Q E s := by
  have ty : s.TypeIs (.ref z) "zip" := ⟨_, G.hz, rfl⟩
  unfold pyNext
  refine wpAny_bind (wpAny_attempt (wpAny_callSpecial?_slot (name := Str.ofString "__next__") ty F.slot_zip_next (wpAny_call_entry F.slot_zip_next ty F.entry_zip_next ?_ (F.args_zip_next_1 _))))
  exact gone_item G hx hy fun h' a1 a2 a3 a4 a5 a6 => wpAny_pure (q h' a1 a2 a3 a4 a5 a6)
theorem pyNext_gone_end {prog : Program} {w : World} {A : Around} {E : Value → Shared → Prop} {s : Shared} {z TI TO T i1 i2 l1 l2 : Addr} {f : Bool} {k : Nat} {xs ys : Array Value} {Q : Option Value → Shared → Prop} (hh : A.handled = none) (G : Gone s.heap z TI TO T f i1 i2 l1 l2 k xs ys) (he : xs[k]? = none)
    (q : ∀ h', (∀ c o, c ≠ z → c ≠ TO → c ≠ i1 → c ≠ i2 → s.heap.get? c = some o → h'.get? c = some o) → Q none { s with heap := h' }) :
    wpAny (model prog w) A (pyNext (.ref z)) Q E s := by
  have ty : s.TypeIs (.ref z) "zip" := ⟨_, G.hz, rfl⟩
  unfold pyNext
  refine wpAny_bind (wpAny_attempt (wpAny_callSpecial?_slot (name := Str.ofString "__next__") ty F.slot_zip_next (wpAny_call_entry F.slot_zip_next ty F.entry_zip_next ?_ (F.args_zip_next_1 _))))
  refine gone_end hh G he fun h' e hk hs => ?_
  obtain ⟨o, ho, hc⟩ := hs
  exact wpAny_bind (wpAny_isInstance (T := "StopIteration") (b := true) ⟨o, ho, hc⟩ isSubtype_stop (wpAny_pure (q _ hk)))
theorem turn_zipN {P : Program} {w : World} {K : PySem.W.Frag} {nx : Str} {np : Pos} {a b z TI TO i1 i2 : Addr} (D : ZipApart z TI TO i1 i2 a b) :
    Turn P w K (.Name nx np) (ItzN K a b) [z, TI, TO, i1, i2] z (fun i h => ZSt z TI TO h ∧ IsPair h TI (.ref i1) (.ref i2) ∧ (∃ x y, IsPair h TO x y) ∧ h.IsListIter i1 a i ∧ h.IsListIter i2 b i) where
  mem := by simp
  obj := fun i h st c hc => by
    obtain ⟨hz, hTI, ⟨x, y, hTO⟩, ⟨o1, e1, _, d1⟩, ⟨o2, e2, _, d2⟩⟩ := st
    simp only [List.mem_cons, List.not_mem_nil, or_false] at hc
    rcases hc with rfl | rfl | rfl | rfl | rfl
    · rcases hz with hz | ⟨T, f, hz⟩ <;> exact ⟨_, hz, fun v q => nomatch q⟩
    · exact ⟨_, hTI, fun v q => nomatch q⟩
    · exact ⟨_, hTO, fun v q => nomatch q⟩
    · exact ⟨o1, e1, fun v q => by rw [d1] at q; cases q⟩
    · exact ⟨o2, e2, fun v q => by rw [d2] at q; cases q⟩
  keep := fun i h h' st k => by
    obtain ⟨hz, hTI, ⟨x, y, hTO⟩, h1, h2⟩ := st
    refine ⟨?_, k TI (by simp) _ hTI, ⟨x, y, k TO (by simp) _ hTO⟩, h1.at fun o q => k i1 (by simp) o q, h2.at fun o q => k i2 (by simp) o q⟩
    rcases hz with hz | ⟨T, f, hz⟩
    · exact .inl (k z (by simp) _ hz)
    · exact .inr ⟨T, f, k z (by simp) _ hz⟩
  item := by
    intro X hP hw hK hc i pins s σ H E I hf st hg
    subst hP hw hK
    obtain ⟨hz, hTI, ⟨x0, y0, hTO⟩, h1, h2⟩ := st
    obtain ⟨xs, ys, hqx, hqy, hlen, hlt⟩ := hg
    obtain ⟨its, rv, p, _⟩ := I.list hqx
    obtain ⟨its2, rv2, p2, _⟩ := I.list hqy
    obtain ⟨u, hu, ru⟩ := rv.get (List.getElem?_eq_getElem hlt)
    obtain ⟨u2, hu2, ru2⟩ := rv2.get (List.getElem?_eq_getElem (show i < ys.length by omega))
    have zl : z < s.heap.objs.size := by rcases hz with hz | ⟨_, _, hz⟩ <;> exact Heap.lt_size hz
    have core : ∀ h' : Heap, ZSt z TI TO h' → (∃ x y, IsPair h' TO x y) → h'.IsListIter i1 a (i + 1) → h'.IsListIter i2 b (i + 1) → IsPair h' s.heap.objs.size u u2 →
        (∀ c o, c ≠ z → c ≠ TO → c ≠ i1 → c ≠ i2 → s.heap.get? c = some o → h'.get? c = some o) →
        ∃ u', some (Value.ref s.heap.objs.size) = some u' ∧ wpAny (model X.prog X.w) X.A (letOwnedTupleGo (.Name nx np) (.ref z) u') (fun _ s2 => ∃ x H', Inv X pins σ H' s2 ∧ RelV x u' ∧ (ItzN X.K a b).yld i H x H' ∧
          (ZSt z TI TO s2.heap ∧ IsPair s2.heap TI (.ref i1) (.ref i2) ∧ (∃ x y, IsPair s2.heap TO x y) ∧ s2.heap.IsListIter i1 a (i + 1) ∧ s2.heap.IsListIter i2 b (i + 1)) ∧ ∀ c ∈ [z, TI, TO, i1, i2], H' c = none) E { s with heap := h' } := by
      intro h' z' to' n1 n2 hT hk
      refine ⟨_, rfl, name_go ?_⟩
      have new : ObjOk X.prog X.w (upd H s.heap.objs.size (.tup [xs[i], ys[i]])) h' s.heap.objs.size (.tup [xs[i], ys[i]]) :=
        ⟨by show 2 ≤ sizeLine; decide, [u, u2], .cons ru (.cons ru2 .nil), ⟨_, hT, rfl, _, rfl⟩⟩
      have I1 : Inv X pins σ (upd H s.heap.objs.size (.tup [xs[i], ys[i]])) { s with heap := h' } :=
        I.turnedNew (t' := s.toks) (ch := [z, TI, TO, i1, i2]) (fun c o hb q => by
          simp only [List.mem_cons, List.not_mem_nil, or_false, not_or] at hb
          exact hk c o hb.1 hb.2.2.1 hb.2.2.2.1 hb.2.2.2.2 q) hf (Nat.le_refl _) new
      refine ⟨.ref s.heap.objs.size, _, I1, rfl, ⟨_, xs[i], ys[i], rfl, I.hok.fresh (Nat.le_refl _), rfl, fun l hl => by rw [I.list_inj hl hqx]; exact List.getElem?_eq_getElem hlt, fun l hl => by rw [I.list_inj hl hqy]; exact List.getElem?_eq_getElem _⟩,
        ⟨z', hk _ _ D.TIz D.TITO D.TIi1 D.TIi2 hTI, to', n1, n2⟩, fun c hcm => ?_⟩
      have lt : c < s.heap.objs.size := by
        simp only [List.mem_cons, List.not_mem_nil, or_false] at hcm
        rcases hcm with rfl | rfl | rfl | rfl | rfl
        · exact zl
        · exact Heap.lt_size hTI
        · exact Heap.lt_size hTO
        · obtain ⟨_, e1, _⟩ := h1; exact Heap.lt_size e1
        · obtain ⟨_, e2, _⟩ := h2; exact Heap.lt_size e2
      rw [upd_ne (Nat.ne_of_lt lt)]
      exact (hf c hcm).1
    rcases hz with hz | ⟨T, f, hz⟩
    · exact wpAny_pyNext_zip_item D hz hTI hTO h1 h2 p.isList p2.isList (x := u) (y := u2) (by simpa using hu) (by simpa using hu2) fun h' a1 a2 a3 a4 a5 _ a7 => core h' (.inr ⟨_, _, a1⟩) ⟨_, _, a2⟩ a3 a4 a5 a7
    · cases al : s.heap.get? T with
      | some oT => exact wpAny_pyNext_zip_item_held D hz al hTI h1 h2 p.isList p2.isList (x := u) (y := u2) (by simpa using hu) (by simpa using hu2) fun h' a1 a3 a4 a5 _ a7 => core h' (.inr ⟨_, _, a1⟩) ⟨_, _, a7 TO _ D.TOz D.TOi1 D.TOi2 hTO⟩ a3 a4 a5 fun c o c1 _ c3 c4 e => a7 c o c1 c3 c4 e
      | none => exact pyNext_gone_item ⟨D, hz, al, hTI, ⟨_, _, hTO⟩, h1, h2, p.isList, p2.isList⟩ (x := u) (y := u2) (by simpa using hu) (by simpa using hu2) fun h' a1 a2 a3 a4 a5 a6 => core h' (.inr ⟨_, _, a1⟩) ⟨_, _, a2⟩ a3 a4 a5 a6
  done := by
    intro X hP hw hK hc i pins s σ H E I hf st hg
    subst hP hw hK
    obtain ⟨hz, hTI, ⟨x0, y0, hTO⟩, h1, h2⟩ := st
    obtain ⟨xs, ys, hqx, hqy, hend⟩ := hg
    obtain ⟨its, rv, p, _⟩ := I.list hqx
    obtain ⟨its2, rv2, p2, _⟩ := I.list hqy
    have l1 := rv.length
    have he : its.toArray[i]? = none := by simp; omega
    have core : ∀ h' : Heap, (∀ c o, c ≠ z → c ≠ TO → c ≠ i1 → c ≠ i2 → s.heap.get? c = some o → h'.get? c = some o) → (none : Option Value) = none ∧ Inv X pins σ H { s with heap := h' } := fun h' hk =>
      ⟨rfl, I.turnedL (t' := s.toks) (ch := [z, TI, TO, i1, i2]) (fun c o hb q => by
        simp only [List.mem_cons, List.not_mem_nil, or_false, not_or] at hb
        exact hk c o hb.1 hb.2.2.1 hb.2.2.2.1 hb.2.2.2.2 q) hf⟩
    rcases hz with hz | ⟨T, f, hz⟩
    · exact wpAny_pyNext_zip_end (I.ok.hd hc) D hz hTI hTO h1 h2 p.isList p2.isList (.inl he) fun h' hk => core h' hk
    · cases al : s.heap.get? T with
      | some oT => exact wpAny_pyNext_zip_end_held (I.ok.hd hc) D hz al hTI h1 h2 p.isList p2.isList (.inl he) fun h' hk => core h' fun c o c1 _ c3 c4 e => hk c o c1 c3 c4 e
      | none => exact pyNext_gone_end (I.ok.hd hc) ⟨D, hz, al, hTI, ⟨_, _, hTO⟩, h1, h2, p.isList, p2.isList⟩ he fun h' hk => core h' hk
  self := fun A i s Q E st h => by
    have ty : s.TypeIs (.ref z) "zip" := by rcases st.1 with hz | ⟨T, f, hz⟩ <;> exact ⟨_, hz, rfl⟩
    refine wpAny_pyIter_slot ty F.slot_zip_iter (wpAny_call_entry F.slot_zip_iter ty F.entry_zip_iter ?_ (F.args_zip_iter_1 _)); show wpAny _ _ (ret (.ref z)) _ _ s
    exact wpAny_pure ⟨.ref z, rfl, "zip", _, ty, F.slot_zip_next.lookup, h⟩
def iZipN (K : PySem.W.Frag) (ta : TA) : TI := fun σ H R => ta σ H fun vs H1 => ∃ a b xs ys, vs = [.ref a, .ref b] ∧ SqL K H1 a xs ∧ SqL K H1 b ys ∧ R (ItzN K a b) H1
theorem pi_zipN {X : Cx} {e e2 : Expr} {ta : TA} {p pos np : Pos} {nx : Str} (hg : Gl X "zip") (hm : X.mg "zip" = none) (ha : PA X [e, e2] ta)
    (hs : starEach [e, e2] X.env = (false, eval e X.env) :: starEach [e2] X.env := by rfl) (hpl : (backTo pos (starEach [e2] X.env)).any (·.1) = false := by rfl) :
    PI X (.Name nx np) (.Call (.Name "zip" p) [e, e2] [] pos) (iZipN X.K ta) := by
  refine ⟨fun pins s σ H R I h => ?_⟩
  refine Call_ (ld_blt I hg hm PyProof.Rows.boot_zip (PyProof.Rows.callWith_type1 (thn (ha.run pos pins s σ H _ I h) fun us s1 ⟨vs, G, J, r1, q1⟩ => ?_) hs hpl))
  obtain ⟨a, b, xs, ys, ex, hqx, hqy, q⟩ := q1
  subst ex
  cases r1 with
  | cons r rr =>
    cases rr with
    | cons r' rr =>
      cases rr
      cases r
      cases r'
      obtain ⟨its, rv, p1, _⟩ := J.list hqx
      obtain ⟨its2, rv2, p2, _⟩ := J.list hqy
      refine call_zip_2 p1.isList p2.isList fun h' hz hTI hTO h1 h2 hsz hk => wpAny_pyIter_zip hz ?_
      have J2 : Inv X pins σ G { s1 with heap := h' } := J.kept (t' := s1.toks) hk
      refine ⟨s1.heap.objs.size + 4, [s1.heap.objs.size + 4, s1.heap.objs.size + 2, s1.heap.objs.size + 3, s1.heap.objs.size, s1.heap.objs.size + 1], _, _, G, rfl, J2,
        turn_zipN (PySem.W.ktu_apart s1.heap.objs.size a b p1.lt p2.lt), ⟨.inl hz, hTI, ⟨_, _, hTO⟩, h1, h2⟩, fun c hc => ?_, q⟩
      have le : s1.heap.objs.size ≤ c := by
        simp only [List.mem_cons, List.not_mem_nil, or_false] at hc
        rcases hc with rfl | rfl | rfl | rfl | rfl <;> omega
      exact J.fpOk le (J.hok.fresh le)
/-- a comprehension over zip of two lists of one length, its name one -/
theorem lc_zipN {K : PySem.W.Frag} {a b : Addr} {xs ys : List V} {g : TG} {tt : TT} {te : TE} {vs : List Nat} {σ : L2.St} {H1 : Hp} {D : Addr} {Qd : Hp → Prop} (hl : xs.length = ys.length) (Pv : Nat → Hp → Prop) (h0 : Pv 0 (upd H1 D (.lst [])))
    (hq : ∀ i H, Pv i H → SqL K H a xs ∧ SqL K H b ys)
    (hs : ∀ (i : Nat) (x y : V) (T : Addr) (H : Hp), xs[i]? = some x → ys[i]? = some y → Pv i H → H T = none → g (.ref T) (wipe σ vs) (upd H T (.tup [x, y])) fun σ2 H2 => wipe σ2 vs = wipe σ vs ∧ tt σ2 H2 fun b H3 =>
      if b = true then te σ2 H3 fun y H4 => ∃ acc, H4 D = some (.lst acc) ∧ acc.length < sizeLine ∧ Pv (i + 1) (upd H4 D (.lst (acc ++ [y]))) else Pv (i + 1) H3) (hd : ∀ H, Pv xs.length H → Qd H) :
    ∃ W : Nat → Nat → Hp → Prop, (∃ m, W 0 m (upd H1 D (.lst []))) ∧ ∀ i m H, W i m H →
      ((ItzN K a b).stop i H ∧ Qd H) ∨ ((ItzN K a b).go i H ∧ ∃ Nx : Hp → Prop, (∀ H', Nx H' → ∃ m', m' < m ∧ W (i + 1) m' H') ∧ ∀ x H', (ItzN K a b).yld i H x H' → g x (wipe σ vs) H' fun σ2 H2 => wipe σ2 vs = wipe σ vs ∧ tt σ2 H2 fun b H3 =>
        if b = true then te σ2 H3 fun y H4 => ∃ acc, H4 D = some (.lst acc) ∧ acc.length < sizeLine ∧ Nx (upd H4 D (.lst (acc ++ [y]))) else Nx H3) := by
  refine ⟨fun i m H => m = xs.length - i ∧ i ≤ xs.length ∧ Pv i H, ⟨xs.length, by simp, Nat.zero_le _, h0⟩, ?_⟩
  rintro i m H ⟨rfl, hi, p⟩
  obtain ⟨qx, qy⟩ := hq i H p
  by_cases lt : i < xs.length
  · refine .inr ⟨⟨xs, ys, qx, qy, hl, lt⟩, Pv (i + 1), fun H' p' => ⟨xs.length - (i + 1), by omega, rfl, lt, p'⟩, fun v H' y => ?_⟩
    obtain ⟨T, x', y', rfl, hT, rfl, f1, f2⟩ := y
    exact hs i x' y' T H (f1 xs qx) (f2 ys qy) p hT
  · have e : i = xs.length := by omega
    subst e
    exact .inl ⟨⟨xs, ys, qx, qy, Nat.le_refl _⟩, hd H p⟩
end VK
namespace VK
open PySem PySem.Spec PyProof.Rows L2
/-! ### a def of the text: where it stands, and what it promises -/
structure Def (P : Program) (w : World) (K : PySem.W.Frag) (mg : Str → Option Value) (base : Heap) (CX : CXT) (k : Nat) (x : Str) (ps : List Str) (sp : Sp) : Prop where
  ex : ∃ (f : Addr) (fd : FuncData), mg x = some (.ref f) ∧ PySem.W.keepIn K (.ref f) = true ∧ Binds K fd ps [] ∧ FnOk P w K mg base CX k f fd ps sp
section
variable {X : Cx} {CX : CXT} {k : Nat} {x : Str} {ps : List Str} {sp : Sp} {E : XK} {e : Expr} {es : List Expr} {t : TA} {p pos : Pos}
theorem pe_callD (D : Def X.prog X.w X.K X.mg X.base CX k x ps sp) (hr : Room k X.A) (hg : Gl X x) (hx : Passes CX X E) (ha : PA X (e :: es) t) (hdb : (x == ("__debug__" : Str)) = false := by decide)
    (he : starEach (e :: es) X.env = (false, eval e X.env) :: starEach es X.env := by rfl) (hpl : (backTo pos (starEach es X.env)).any (·.1) = false := by rfl) :
    PE X (.Call (.Name x p) (e :: es) [] pos) (tCall sp [] E t) := by
  obtain ⟨f, fd, hm, hk, hb, F⟩ := D.ex
  exact pe_call F hr hg hm hk hb .nil hx ha hdb he hpl
theorem pe_callDS {E : L2.St → XK} (D : Def X.prog X.w X.K X.mg X.base CX k x ps sp) (hr : Room k X.A) (hg : Gl X x) (hx : ∀ σ, PassesAt CX X σ (E σ)) (ha : PA X (e :: es) t) (hdb : (x == ("__debug__" : Str)) = false := by decide)
    (he : starEach (e :: es) X.env = (false, eval e X.env) :: starEach es X.env := by rfl) (hpl : (backTo pos (starEach es X.env)).any (·.1) = false := by rfl) :
    PE X (.Call (.Name x p) (e :: es) [] pos) (tCallS sp E t) := by
  obtain ⟨f, fd, hm, hk, hb, F⟩ := D.ex
  exact pe_callS F hr hg hm hk hb hx ha hdb he hpl
end
theorem pi_or {X : Cx} {tg it : Expr} {w1 w2 : TI} (h1 : PI X tg it w1) (h2 : PI X tg it w2) : PI X tg it (fun σ H R => w1 σ H R ∨ w2 σ H R) :=
  ⟨fun pins s σ H R I h => h.elim (fun q => h1.run pins s σ H R I q) fun q => h2.run pins s σ H R I q⟩
theorem u65 {k : Nat} {A : Around} (r : Room k A) : A.units + 65 < cLine := by
  have := r.un
  omega
theorem u1 {k : Nat} {A : Around} (r : Room k A) : A.units + 1 < cLine := by
  have := r.un
  omega
/-! ### heaps that keep all but one -/
def But (f : Addr) (H H' : Hp) : Prop := ∀ b o, H b = some o → b ≠ f → H' b = some o
theorem upd_new {H : Hp} {a q : Addr} {o o' : HO} (hq : H q = none) (h : H a = some o) : upd H q o' a = some o := by
  rw [upd_ne (ne_of_none h hq)]
  exact h
theorem upd_old {H : Hp} {a f : Addr} {o o' : HO} (hf : a ≠ f) (h : H a = some o) : upd H f o' a = some o := by
  rw [upd_ne hf]
  exact h
theorem same_new {H : Hp} {q : Addr} {o' : HO} (hq : H q = none) : Same H (upd H q o') := fun _ _ h => upd_new hq h
theorem sqT_same {K : PySem.W.Frag} {H H' : Hp} {a : Addr} {xs : List V} (e : Same H H') (h : SqT K H a xs) : SqT K H' a xs := by
  rcases h with (h | ⟨o, h⟩) | h
  · exact .inl (.inl (e _ _ h))
  · exact .inl (.inr ⟨o, e _ _ h⟩)
  · exact .inr h
theorem but_same {f : Addr} {H H' : Hp} (e : Same H H') : But f H H' := fun b o h _ => e b o h
theorem but_trans {f : Addr} {H H1 H2 : Hp} (a : But f H H1) (b : But f H1 H2) : But f H H2 := fun c o h ne => b c o (a c o h ne) ne
theorem but_upd {f : Addr} {H : Hp} {o : HO} : But f H (upd H f o) := fun b u h ne => upd_old ne h
theorem sqT_but {K : PySem.W.Frag} {f : Addr} {H H' : Hp} {a : Addr} {xs : List V} {u : List V} (e : But f H H') (hf : H f = some (.lst u)) (h : SqT K H a xs) : SqT K H' a xs := by
  rcases h with (h | ⟨o, h⟩) | h
  · exact .inl (.inl (e _ _ h (ne_of h hf (by intro z; cases z))))
  · exact .inl (.inr ⟨o, e _ _ h (ne_of h hf (by intro z; cases z))⟩)
  · exact .inr h
theorem sqL_but {K : PySem.W.Frag} {f : Addr} {H H' : Hp} {a : Addr} {xs : List V} (e : But f H H') (ne : a ≠ f) (h : SqL K H a xs) : SqL K H' a xs := by
  rcases h with (h | ⟨o, h⟩) | h
  · exact .inl (.inl (e _ _ h ne))
  · exact .inl (.inr ⟨o, e _ _ h ne⟩)
  · exact .inr h
end VK
namespace VK
open PySem PySem.Spec PyProof.Rows L2
/-! ### steps of readings, each concluding the form in which a reading opens -/
variable {K : PySem.W.Frag} {H : Hp} {p q : Addr} {xs ys : List V} {v x y : V} {i j : Int}
theorem v_I {C : Int → Int → Prop} {R : Int → Int → Prop} (hc : C i j) (r : R i j) : ∃ i' j', V.int i = V.int i' ∧ V.int j = V.int j' ∧ C i' j' ∧ R i' j' := ⟨i, j, rfl, rfl, hc, r⟩
theorem v_ixL {R : V → Prop} (h : SqL K H p xs) (ha : atI xs i = some v) (r : R v) : ∃ p' xs' i' v', V.ref p = V.ref p' ∧ V.int i = V.int i' ∧ SqL K H p' xs' ∧ atI xs' i' = some v' ∧ R v' := ⟨p, xs, i, v, rfl, rfl, h, ha, r⟩
theorem v_ixT {R : V → Prop} (h : SqT K H p xs) (ha : atI xs i = some v) (r : R v) : ∃ p' xs' i' v', V.ref p = V.ref p' ∧ V.int i = V.int i' ∧ SqT K H p' xs' ∧ atI xs' i' = some v' ∧ R v' := ⟨p, xs, i, v, rfl, rfl, h, ha, r⟩
theorem v_setL {R : Addr → List V → Nat → Prop} {n : Nat} (h : H p = some (.lst xs)) (ha : ixN xs.length i = some n) (r : R p xs n) :
    ∃ p' xs' k j, V.ref p = V.ref p' ∧ V.int i = V.int k ∧ H p' = some (.lst xs') ∧ ixN xs'.length k = some j ∧ R p' xs' j := ⟨p, xs, i, n, rfl, rfl, h, ha, r⟩
theorem v_lenL {R : List V → Prop} (h : SqL K H p xs) (r : R xs) : ∃ p' ys, [V.ref p] = [.ref p'] ∧ (SqL K H p' ys ∨ SqT K H p' ys) ∧ R ys := ⟨p, xs, rfl, .inl h, r⟩
theorem v_lenT {R : List V → Prop} (h : SqT K H p xs) (r : R xs) : ∃ p' ys, [V.ref p] = [.ref p'] ∧ (SqL K H p' ys ∨ SqT K H p' ys) ∧ R ys := ⟨p, xs, rfl, .inr h, r⟩
theorem v_app {R : Addr → List V → V → Prop} (h : H p = some (.lst xs)) (hz : xs.length < sizeLine) (r : R p xs v) :
    ∃ l xs' y, V.ref p = .ref l ∧ [v] = [y] ∧ H l = some (.lst xs') ∧ xs'.length < sizeLine ∧ R l xs' y := ⟨p, xs, v, rfl, rfl, h, hz, r⟩
theorem v_cat {R : List V → List V → Prop} (h1 : H p = some (.lst xs)) (h2 : H q = some (.lst ys)) (hz : xs.length + ys.length ≤ sizeLine) (r : R xs ys) :
    ∃ l b xs' zs, V.ref p = .ref l ∧ V.ref q = .ref b ∧ H l = some (.lst xs') ∧ H b = some (.lst zs) ∧ xs'.length + zs.length ≤ sizeLine ∧ R xs' zs := ⟨p, q, xs, ys, rfl, rfl, h1, h2, hz, r⟩
theorem v_ext {R : Addr → List V → List V → Prop} (h1 : H p = some (.lst xs)) (h2 : H q = some (.lst ys)) (hz : xs.length + ys.length ≤ sizeLine) (r : R p xs ys) :
    ∃ l b xs' zs, V.ref p = .ref l ∧ [V.ref q] = [.ref b] ∧ H l = some (.lst xs') ∧ H b = some (.lst zs) ∧ xs'.length + zs.length ≤ sizeLine ∧ R l xs' zs := ⟨p, q, xs, ys, rfl, rfl, h1, h2, hz, r⟩
theorem v_slL {R : List V → Prop} (h : SqL K H p xs) (r : R xs) : ∃ a xs', V.ref p = .ref a ∧ SqL K H a xs' ∧ R xs' := ⟨p, xs, rfl, h, r⟩
theorem v_slT {R : Addr → List V → Prop} (h : SqT K H p xs) (r : R p xs) : ∃ a xs', V.ref p = .ref a ∧ SqT K H a xs' ∧ R a xs' := ⟨p, xs, rfl, h, r⟩
theorem v_catT {R : Addr → Addr → List V → List V → Prop} (h1 : SqT K H p xs) (h2 : SqT K H q ys) (r : R p q xs ys) :
    ∃ a b xs' ys', V.ref p = .ref a ∧ V.ref q = .ref b ∧ SqT K H a xs' ∧ SqT K H b ys' ∧ R a b xs' ys' := ⟨p, q, xs, ys, rfl, rfl, h1, h2, r⟩
theorem small {n : Nat} (h : n ≤ 100000) : n ≤ sizeLine := Nat.le_trans h (by decide)
theorem small' {n : Nat} (h : n < 100000) : n < sizeLine := Nat.lt_of_lt_of_le h (by decide)
theorem v_ifd {c : Prop} [Decidable c] {A B : Prop} (h1 : c → A) (h2 : ¬ c → B) : if decide c = true then A else B := by
  by_cases h : c
  · rw [decide_eq_true h]
    exact h1 h
  · rw [decide_eq_false h, if_neg Bool.false_ne_true]
    exact h2 h
theorem v_ifn {c : Prop} [Decidable c] {A B : Prop} (h1 : ¬ c → A) (h2 : c → B) : if (!decide c) = true then A else B := by
  by_cases h : c
  · rw [decide_eq_true h]
    exact h2 h
  · rw [decide_eq_false h]
    exact h1 h
theorem v_ifb {b : Bool} {A B : Prop} (h1 : b = true → A) (h2 : b = false → B) : if b = true then A else B := by
  cases b with
  | true => exact h1 rfl
  | false => exact h2 rfl
theorem v_ift {b : Bool} {A B : Prop} (hb : b = true) (h : A) : if b = true then A else B := by
  rw [hb]
  exact h
theorem v_iff {b : Bool} {A B : Prop} (hb : b = false) (h : B) : if b = true then A else B := by
  rw [hb]
  exact h
end VK
namespace VK
open PySem PySem.Spec PyProof.Rows L2
/-- a loop over enumerate of a list -/
theorem for_enumL {K : PySem.W.Frag} {a : Addr} {xs : List V} {g : TG} {tb : TS} {D : Ends} {σ : L2.St} {H : Hp} (Pv : Nat → L2.St → Hp → Prop) (h0 : Pv 0 σ H) (hq : ∀ i σ H, Pv i σ H → SqL K H a xs)
    (hs : ∀ (i : Nat) (x : V) (T : Addr) (σ : L2.St) (H : Hp), xs[i]? = some x → Pv i σ H → H T = none → g (.ref T) σ (upd H T (.tup [.int (i : Nat), x])) fun σ2 H2 => tb { D with nx := Pv (i + 1), ct := Pv (i + 1), bk := D.nx } σ2 H2)
    (hd : ∀ σ H, Pv xs.length σ H → D.nx σ H) :
    ∃ W : Nat → Nat → L2.St → Hp → Prop, (∃ m, W 0 m σ H) ∧ ∀ i m σ H, W i m σ H →
      ((Ite K a).stop i H ∧ D.nx σ H) ∨ ((Ite K a).go i H ∧ ∃ N : L2.St → Hp → Prop, (∀ σ' H', N σ' H' → ∃ m', m' < m ∧ W (i + 1) m' σ' H') ∧ ∀ v H', (Ite K a).yld i H v H' → g v σ H' fun σ2 H2 => tb { D with nx := N, ct := N, bk := D.nx } σ2 H2) := by
  refine ⟨fun i m σ H => m = xs.length - i ∧ i ≤ xs.length ∧ Pv i σ H, ⟨xs.length, rfl, Nat.zero_le _, h0⟩, ?_⟩
  rintro i m σ H ⟨rfl, hi, p⟩
  have qx := hq i σ H p
  by_cases lt : i < xs.length
  · refine .inr ⟨⟨xs, _, qx, List.getElem?_eq_getElem lt⟩, Pv (i + 1), fun σ' H' p' => ⟨xs.length - (i + 1), by omega, rfl, lt, p'⟩, fun v H' y => ?_⟩
    obtain ⟨T, x', rfl, hT, rfl, f⟩ := y
    exact hs i x' T σ H (f xs qx) p hT
  · have e : i = xs.length := by omega
    subst e
    exact .inl ⟨⟨xs, qx, Nat.le_refl _⟩, hd σ H p⟩
theorem same_mut {H H' : Hp} {p : Addr} {o : HO} (hp : H p = none) (e : Same H H') : Same H (upd H' p o) := fun b u hb => upd_old (fun z => by rw [z, hp] at hb; cases hb) (e b u hb)
/-! ### rules whose reading hangs on the written part, said of K itself (within a comprehension) -/
theorem kOp {X : Cx} {f : Value → Value → Sem Value} (r : PySem.W.Frag → R2) (K : PySem.W.Frag) (h : OpR X f (r X.K)) (e : X.K = K := by rfl) : OpR X f (r K) := e ▸ h
theorem kCall {X : Cx} {f : Value} (r : PySem.W.Frag → List V → Hp → VK → Prop) (K : PySem.W.Frag) (h : CallR X f (r X.K)) (e : X.K = K := by rfl) : CallR X f (r K) := e ▸ h
theorem kIx {X : Cx} (r : PySem.W.Frag → R2) (K : PySem.W.Frag) (h : IxR X (r X.K)) (e : X.K = K := by rfl) : IxR X (r K) := e ▸ h
theorem pg_tupK {X : Cx} (K : PySem.W.Frag) {es : List Expr} {kk : Nat} {pos : Pos} {t : TGs} {n : Nat} (h : PG X (.Tuple es kk pos) (gTup X.K n t)) (e : X.K = K := by rfl) : PG X (.Tuple es kk pos) (gTup K n t) := e ▸ h
/-! ### values and data -/
def vn (n : Nat) : V := .int (n : Int)
abbrev vns (ns : List Nat) : List V := ns.map vn
theorem vns_inj : ∀ {as bs : List Nat}, vns as = vns bs → as = bs
  | [], [], _ => rfl
  | [], _ :: _, h => by simp [vns] at h
  | _ :: _, [], h => by simp [vns] at h
  | a :: as, b :: bs, h => by
    simp only [vns, List.map_cons, List.cons.injEq] at h
    have h1 : (a : Int) = b := by
      have := h.1
      unfold vn at this
      injection this
    rw [vns_inj h.2, show a = b by omega]
theorem tyX_same {K : PySem.W.Frag} {H H' : Hp} (e : Same H H') {x : V} {t : Value} (h : TyX K H x t) : TyX K H' x t := by
  cases h with
  | base b =>
    refine .base ?_
    cases b with
    | non => exact .non
    | bl => exact .bl _
    | int => exact .int _
    | str => exact .str _
    | flt => exact .flt _
    | lst h => exact .lst (e _ _ h)
    | frz h => exact .frz (e _ _ h)
    | tup h => exact .tup (e _ _ h)
    | dK h => exact .dK (e _ _ h)
    | dT h => exact .dT (e _ _ h)
    | ins h a b c d f => exact .ins (e _ _ h) a b c d f
  | byt => exact .byt _
  | set h => exact .set (e _ _ h)
  | kList h c => exact .kList h c
  | kTuple h c => exact .kTuple h c
  | kDict h c => exact .kDict h c
  | fTuple h => exact .fTuple (e _ _ h)
  | fDict h => exact .fDict (e _ _ h)
def kinds : List String := ["NoneType", "bool", "int", "str", "list", "tuple", "dict"]
/-- a value of one of the kinds that the document names -/
structure OkT (K : PySem.W.Frag) (H : Hp) (x : V) (n : String) : Prop where
  ty : TyX K H x (.type n)
  kd : n ∈ kinds
theorem OkT.same {K : PySem.W.Frag} {H H' : Hp} {x : V} {n : String} (e : Same H H') (h : OkT K H x n) : OkT K H' x n := ⟨tyX_same e h.ty, h.kd⟩
theorem kit_int {n : String} (h : n ∈ kinds) : kitB n "int" = some (n == "int" || n == "bool") := by
  simp only [kinds, List.mem_cons, List.not_mem_nil, or_false] at h
  rcases h with rfl | rfl | rfl | rfl | rfl | rfl | rfl <;> decide +kernel
theorem kit_bool {n : String} (h : n ∈ kinds) : kitB n "bool" = some (n == "bool") := by
  simp only [kinds, List.mem_cons, List.not_mem_nil, or_false] at h
  rcases h with rfl | rfl | rfl | rfl | rfl | rfl | rfl <;> decide +kernel
theorem kit_tuple {n : String} (h : n ∈ kinds) : kitB n "tuple" = some (n == "tuple") := by
  simp only [kinds, List.mem_cons, List.not_mem_nil, or_false] at h
  rcases h with rfl | rfl | rfl | rfl | rfl | rfl | rfl <;> decide +kernel
theorem kit_list {n : String} (h : n ∈ kinds) : kitB n "list" = some (n == "list") := by
  simp only [kinds, List.mem_cons, List.not_mem_nil, or_false] at h
  rcases h with rfl | rfl | rfl | rfl | rfl | rfl | rfl <;> decide +kernel
theorem int_of' {K : PySem.W.Frag} {H : Hp} {x : V} {t : Value} (h : TyX K H x t) (e : t = .type "int") : ∃ i, x = .int i := by
  cases h with
  | base b =>
    cases b with
    | int i => exact ⟨i, rfl⟩
    | _ => first | (injection e with e; exact absurd e (by decide)) | cases e
  | _ => injection e with e; exact absurd e (by decide)
theorem int_of {K : PySem.W.Frag} {H : Hp} {x : V} (h : TyX K H x (.type "int")) : ∃ i, x = .int i := int_of' h rfl
theorem int_ty {K : PySem.W.Frag} {H : Hp} {i : Int} {t : Value} (h : TyX K H (.int i) t) : t = .type "int" := by
  cases h with
  | base b => cases b with
    | int i => rfl
theorem v_isi {K : PySem.W.Frag} {H : Hp} {x : V} {n c : String} {b : Bool} {R : Bool → Prop} (h : OkT K H x n) (e : kitB n c = some b) (r : R b) :
    ∃ (x' c' : V) (t u : Value) (b' : Bool), [x, V.ty c] = [x', c'] ∧ ClsV c' u ∧ TyX K H x' t ∧ PySem.W.kitOne K t u = some b' ∧ R b' :=
  ⟨x, .ty c, .type n, .type c, b, rfl, .ty c, h.ty, kit_ty e, r⟩
/-- whether a value is a level -/
def lvl (top : Nat) : V → Bool
  | .int i => decide (0 ≤ i ∧ i ≤ (top : Int))
  | _ => false
theorem lvl_not {K : PySem.W.Frag} {H : Hp} {x : V} {n : String} (h : TyX K H x (.type n)) (hn : n ≠ "int") (top : Nat) : lvl top x = false := by
  cases x with
  | int i =>
    have := int_ty h
    injection this with e
    exact absurd e hn
  | _ => rfl
def natV : V → Nat
  | .int i => i.toNat
  | _ => 0
theorem all_lvl {top : Nat} : ∀ {xs : List V}, xs.all (lvl top) = true → xs = vns (xs.map natV) ∧ ∀ n ∈ xs.map natV, n ≤ top
  | [], _ => ⟨rfl, by simp⟩
  | x :: r, h => by
    simp only [List.all_cons, Bool.and_eq_true] at h
    obtain ⟨e, f⟩ := all_lvl h.2
    cases x with
    | int i =>
      have h1 : 0 ≤ i ∧ i ≤ (top : Int) := by simpa [lvl] using h.1
      refine ⟨?_, ?_⟩
      · show V.int i :: r = vn i.toNat :: vns (r.map natV)
        rw [← e]
        unfold vn
        rw [Int.toNat_of_nonneg h1.1]
      · intro n hn
        simp only [List.map_cons, List.mem_cons] at hn
        rcases hn with rfl | hn
        · show i.toNat ≤ top
          omega
        · exact f n hn
    | _ => simp [lvl] at h
theorem lvl_vns {top : Nat} : ∀ {ns : List Nat}, (∀ n ∈ ns, n ≤ top) → (vns ns).all (lvl top) = true
  | [], _ => rfl
  | n :: r, h => by
    simp only [vns, List.map_cons, List.all_cons, Bool.and_eq_true]
    refine ⟨?_, lvl_vns fun m hm => h m (by simp [hm])⟩
    have := h n (by simp)
    simp only [lvl, vn, decide_eq_true_eq]
    omega
theorem nat_vns (ns : List Nat) : (vns ns).map natV = ns := by
  induction ns with
  | nil => rfl
  | cons n r ih =>
    simp only [vns, List.map_cons, List.cons.injEq]
    exact ⟨by simp [vn, natV], ih⟩
/-- whether a tuple of these items is a memory -/
def isMem (top : Nat) (xs : List V) : Bool := xs.all (lvl top) && decide (VM.followed [] (xs.map natV) = xs.map natV)
def pint (n : Nat) : PyData := .int (n : Int)
theorem dp_vns {K : PySem.W.Frag} {H : Hp} : ∀ ns : List Nat, DpAll K H (vns ns) (ns.map pint)
  | [] => .nil
  | n :: r => .cons (.int _) (dp_vns r)
/-- tuples of naturals as data, lists of such -/
def ptup (ns : List Nat) : PyData := .tuple (ns.map pint)
def plist (nss : List (List Nat)) : PyData := .list (nss.map ptup)
theorem lay_ints : ∀ ns : List Nat, PyData.canLayAll0 (ns.map pint) = true
  | [] => rfl
  | _ :: r => lay_ints r
theorem lay_tups : ∀ nss : List (List Nat), PyData.canLayAll0 (nss.map ptup) = true
  | [] => rfl
  | n :: r => by
    show (PyData.canLayAll0 (n.map pint) && PyData.canLayAll0 (r.map ptup)) = true
    rw [lay_ints, lay_tups r]
    rfl
theorem dep_ints : ∀ ns : List Nat, PyData.depthAll (ns.map pint) = 0
  | [] => rfl
  | _ :: r => by
    show max 0 (PyData.depthAll (r.map pint)) = 0
    rw [dep_ints r]
    rfl
theorem dep_tups : ∀ nss : List (List Nat), PyData.depthAll (nss.map ptup) ≤ 1
  | [] => Nat.zero_le _
  | n :: r => by
    show max (PyData.depthAll (n.map pint) + 1) (PyData.depthAll (r.map ptup)) ≤ 1
    have := dep_tups r
    rw [dep_ints]
    omega
theorem shaped_tup (ns : List Nat) : SeqAt.shaped (ptup ns) = true := by
  show (PyData.canLayAll0 (ns.map pint) && decide (PyData.depthAll (ns.map pint) + 1 ≤ 64)) = true
  rw [lay_ints, dep_ints]
  rfl
theorem shaped_ilist (ns : List Nat) : SeqAt.shaped (.list (ns.map pint)) = true := by
  show (PyData.canLayAll0 (ns.map pint) && decide (PyData.depthAll (ns.map pint) + 1 ≤ 64)) = true
  rw [lay_ints, dep_ints]
  rfl
theorem shaped_list (nss : List (List Nat)) : SeqAt.shaped (plist nss) = true := by
  have := dep_tups nss
  show (PyData.canLayAll0 (nss.map ptup) && decide (PyData.depthAll (nss.map ptup) + 1 ≤ 64)) = true
  rw [lay_tups, decide_eq_true (by omega)]
  rfl
theorem eqv_ints : ∀ as bs : List Nat, PyData.eqvAll (as.map pint) (bs.map pint) = decide (as = bs)
  | [], [] => rfl
  | [], _ :: _ => rfl
  | _ :: _, [] => rfl
  | a :: as, b :: bs => by
    show (((a : Int) == (b : Int)) && PyData.eqvAll (as.map pint) (bs.map pint)) = _
    rw [eqv_ints as bs, Bool.eq_iff_iff]
    simp only [Bool.and_eq_true, beq_iff_eq, decide_eq_true_eq, List.cons.injEq]
    exact ⟨fun h => ⟨by omega, h.2⟩, fun h => ⟨by omega, h.2⟩⟩
theorem eqv_tup (as bs : List Nat) : PyData.eqv (ptup as) (ptup bs) = decide (as = bs) := eqv_ints as bs
theorem eqv_ilist (as bs : List Nat) : PyData.eqv (.list (as.map pint)) (.list (bs.map pint)) = decide (as = bs) := eqv_ints as bs
theorem eqv_tups : ∀ as bs : List (List Nat), PyData.eqvAll (as.map ptup) (bs.map ptup) = decide (as = bs)
  | [], [] => rfl
  | [], _ :: _ => rfl
  | _ :: _, [] => rfl
  | a :: as, b :: bs => by
    show (PyData.eqv (ptup a) (ptup b) && PyData.eqvAll (as.map ptup) (bs.map ptup)) = _
    rw [eqv_tups as bs, eqv_tup, Bool.eq_iff_iff]
    simp only [Bool.and_eq_true, decide_eq_true_eq, List.cons.injEq]
theorem eqv_list (as bs : List (List Nat)) : PyData.eqv (plist as) (plist bs) = decide (as = bs) := eqv_tups as bs
theorem any_tups (nss : List (List Nat)) (ns : List Nat) : ((nss.map ptup).any fun z => PyData.eqv z (ptup ns)) = nss.contains ns := by
  induction nss with
  | nil => rfl
  | cons n r ih =>
    simp only [List.map_cons, List.any_cons, ih, eqv_tup, List.contains_cons]
    congr 1
    rw [Bool.eq_iff_iff]
    simp only [decide_eq_true_eq, beq_iff_eq]
    exact eq_comm
/-- references to tuples of naturals -/
inductive Tups (K : PySem.W.Frag) (H : Hp) : List V → List (List Nat) → Prop
  | nil : Tups K H [] []
  | cons {a : Addr} {ns : List Nat} {xs : List V} {nss : List (List Nat)} : SqT K H a (vns ns) → Tups K H xs nss → Tups K H (.ref a :: xs) (ns :: nss)
theorem Tups.len {K : PySem.W.Frag} {H : Hp} : ∀ {xs : List V} {nss : List (List Nat)}, Tups K H xs nss → xs.length = nss.length
  | _, _, .nil => rfl
  | _, _, .cons _ t => congrArg (· + 1) t.len
theorem Tups.but {K : PySem.W.Frag} {H H' : Hp} (f : ∀ a ns, SqT K H a (vns ns) → SqT K H' a (vns ns)) : ∀ {xs : List V} {nss : List (List Nat)}, Tups K H xs nss → Tups K H' xs nss
  | _, _, .nil => .nil
  | _, _, .cons h t => .cons (f _ _ h) (t.but f)
theorem Tups.same {K : PySem.W.Frag} {H H' : Hp} (e : Same H H') {xs : List V} {nss : List (List Nat)} (t : Tups K H xs nss) : Tups K H' xs nss := t.but fun _ _ h => sqT_same e h
theorem Tups.get {K : PySem.W.Frag} {H : Hp} : ∀ {xs : List V} {nss : List (List Nat)} {i : Nat} {x : V}, Tups K H xs nss → xs[i]? = some x → ∃ a ns, x = .ref a ∧ nss[i]? = some ns ∧ SqT K H a (vns ns)
  | _, _, i, _, .nil, h => by simp at h
  | _, _, 0, x, .cons h t, e => by
    have e' := Option.some.inj (show some _ = some x from e)
    subst e'
    exact ⟨_, _, rfl, rfl, h⟩
  | _, _, i + 1, x, .cons h t, e => by
    obtain ⟨a, ns, h1, h2, h3⟩ := t.get (i := i) (x := x) (by simpa using e)
    exact ⟨a, ns, h1, by simpa using h2, h3⟩
theorem Tups.mem {K : PySem.W.Frag} {H : Hp} {xs : List V} {nss : List (List Nat)} {x : V} (t : Tups K H xs nss) (h : x ∈ xs) : ∃ a ns, x = .ref a ∧ ns ∈ nss ∧ SqT K H a (vns ns) := by
  obtain ⟨i, hi, e⟩ := List.mem_iff_getElem.mp h
  obtain ⟨a, ns, h1, h2, h3⟩ := t.get (i := i) (x := x) (by rw [← e]; simp)
  exact ⟨a, ns, h1, List.mem_of_getElem? h2, h3⟩
theorem Tups.append {K : PySem.W.Frag} {H : Hp} : ∀ {xs ys : List V} {nss mss : List (List Nat)}, Tups K H xs nss → Tups K H ys mss → Tups K H (xs ++ ys) (nss ++ mss)
  | _, _, _, _, .nil, u => u
  | _, _, _, _, .cons h t, u => .cons h (t.append u)
theorem Tups.one {K : PySem.W.Frag} {H : Hp} {a : Addr} {ns : List Nat} (h : SqT K H a (vns ns)) : Tups K H [.ref a] [ns] := .cons h .nil
theorem Tups.dp {K : PySem.W.Frag} {H : Hp} : ∀ {xs : List V} {nss : List (List Nat)}, Tups K H xs nss → DpAll K H xs (nss.map ptup)
  | _, _, .nil => .nil
  | _, _, .cons h t => .cons (.tup h (dp_vns _)) t.dp
theorem dp_tup {K : PySem.W.Frag} {H : Hp} {a : Addr} {ns : List Nat} (h : SqT K H a (vns ns)) : Dp K H (.ref a) (ptup ns) := .tup h (dp_vns ns)
theorem dp_list {K : PySem.W.Frag} {H : Hp} {a : Addr} {xs : List V} {nss : List (List Nat)} (h : SqL K H a xs) (t : Tups K H xs nss) : Dp K H (.ref a) (plist nss) := .lst h t.dp
end VK
namespace VK
open PySem PySem.Spec PyProof.Rows L2
/-! ### an own error that keeps an index -/
def spIndex (C : Addr) : Sp := fun vs H Q _ => ∃ (a : Addr) (y : V), vs = [.ref a, y] ∧ H a = some (exo a C none) ∧ ∀ d, H d = none → d ≠ a → Q .non (upd (upd H d (exd d [("index", y)])) a (exo a C (some d)))
theorem own_index {P : Program} {w : World} {K : PySem.W.Frag} {mg : Str → Option Value} {base : Heap} {q : Str} {st : Stmt} {f C : Addr} {fd : FuncData} (F : Fun K "__init__" q st f fd) (S : FnScope ["self", "index"] ["self", "index"] (defScope st))
    (hb : ∃ p1 p2 p3 p4, defBody st = [.Assign [.Attribute (.Name "self" p1) "index" p2] (.Name "index" p3) p4]) (l1 : (defScope st).names.lookup ("self" : Str) = some NameKind.local) (l2 : (defScope st).names.lookup ("index" : Str) = some NameKind.local) (T : OexC K C) (no : PySem.W.findIn K (.ref C) "index" = some none) :
    FnOk P w K mg base CX0 1 f fd ["self", "index"] (spIndex C) := by
  obtain ⟨p1, p2, p3, p4, hb⟩ := hb
  refine F.ok S (fun vs H Q E h => ?_) (fun cdv A outer s H vs Q E hr h => ?_)
  · obtain ⟨a, y, rfl, _⟩ := h
    rfl
  · obtain ⟨a, y, rfl, ha, k⟩ := h
    refine ⟨_, by rw [hb]; exact pss_one (ps_ost (pv 0 (hv := .inl l1)) (pv 1 (hv := .inl l2))), ?_⟩
    refine ⟨_, rfl, _, rfl, a, C, rfl, T, no, .inl ⟨ha, fun d hd hn => ?_⟩⟩
    exact k d hd hn
/-- C(e): the error with a new dict of its own -/
theorem mk_index {C : Addr} {H1 : Hp} {y : V} {Q : XK} (h : ∀ d H', Same H1 H' → H' d = some (.xd [("index", y)]) → Q (.ref C) (some d) H') :
    [y].length ≤ 1000 ∧ ∀ a, H1 a = none → spIndex C (.ref a :: ([y] ++ [])) (upd H1 a (exo a C none))
      (fun v H2 => v = .non ∧ ∃ (d : Addr) (fs : List (Str × V)), H2 a = some (exo a C (some d)) ∧ H2 d = some (exd d fs) ∧ H1 d = none ∧ Q (.ref C) (some d) (upd (del H2 a) d (.xd fs))) (fun _ _ _ => False) := by
  refine ⟨(by show 1 ≤ 1000; decide), fun a ha => ⟨a, y, rfl, upd_same, fun d hd hn => ⟨rfl, d, [("index", y)], upd_same, upd_old hn upd_same, ?_, h d _ (fun b o e => ?_) upd_same⟩⟩⟩
  · rw [← hd, upd_ne hn]
  · have ba : b ≠ a := ne_of_none e ha
    have hd' : H1 d = none := by rw [← hd, upd_ne hn]
    have bd : b ≠ d := ne_of_none e hd'
    refine upd_old bd ?_
    rw [del_ne ba]
    exact upd_old ba (upd_old bd (upd_old ba e))
theorem pmk_ix {X : Cx} {x : Str} {e : Expr} {ta : TA} {p pos : Pos} {C fI : Addr} {fd : FuncData} (T : OexC X.K C) (iC : PySem.W.findIn X.K (.ref C) "__init__" = some (some (.ref fI))) (tI : PySem.W.typeIn X.K (.ref fI) = some (.type "function"))
    (F : FnOk X.prog X.w X.K X.mg X.base CX0 1 fI fd ["self", "index"] (spIndex C)) (hr : Room 2 X.A) (hb : Binds X.K fd ["self", "index"] []) (hg : Gl X x) (hm : X.mg x = some (.ref C)) (ha : PA X [e] ta)
    (hdb : (x == ("__debug__" : Str)) = false := by decide) (he : starEach [e] X.env = (false, eval e X.env) :: starEach [] X.env := by rfl) (hpl : (backTo pos (starEach [] X.env)).any (·.1) = false := by rfl) :
    PMk X (.Call (.Name x p) [e] [] pos) (tMkO C (spIndex C) [] ta) := pmk_oex (p := p) (pos := pos) T iC tI F hr hb .nil pass0 hg hm ha hdb he hpl
end VK
namespace VK
open PySem PySem.Spec PyProof.Rows L2
/-- the class, as the top has left it, and its maker's promise -/
structure OwnIx (P : Program) (w : World) (K : PySem.W.Frag) (mg : Str → Option Value) (base : Heap) (x : Str) (C : Addr) : Prop where
  ex : ∃ (fI : Addr) (fd : FuncData), OexC K C ∧ PySem.W.findIn K (.ref C) "__init__" = some (some (.ref fI)) ∧ PySem.W.typeIn K (.ref fI) = some (.type "function") ∧ FnOk P w K mg base CX0 1 fI fd ["self", "index"] (spIndex C) ∧ Binds K fd ["self", "index"] []
  gm : mg x = some (.ref C)
theorem OwnIx.pmk {X : Cx} {x : Str} {e : Expr} {ta : TA} {p pos : Pos} {C : Addr} (D : OwnIx X.prog X.w X.K X.mg X.base x C) (hr : Room 2 X.A) (hg : Gl X x) (ha : PA X [e] ta)
    (hdb : (x == ("__debug__" : Str)) = false := by decide) (he : starEach [e] X.env = (false, eval e X.env) :: starEach [] X.env := by rfl) (hpl : (backTo pos (starEach [] X.env)).any (·.1) = false := by rfl) :
    PMk X (.Call (.Name x p) [e] [] pos) (tMkO C (spIndex C) [] ta) := by
  obtain ⟨fI, fd, T, iC, tI, F, hb⟩ := D.ex
  exact pmk_ix T iC tI F hr hb hg D.gm ha hdb he hpl
end VK
namespace VK
open PySem PySem.Spec PyProof.Rows L2
/-- turns over a range, whatever a turn is (for comprehensions of two loops) -/
theorem it_range {lo : Int} {n : Nat} {B : V → Hp → (Hp → Prop) → Prop} {Qd : Hp → Prop} {H0 : Hp} (Pv : Nat → Hp → Prop) (h0 : Pv 0 H0) (hs : ∀ i H, i < n → Pv i H → B (.int (lo + i)) H (Pv (i + 1))) (hd : ∀ H, Pv n H → Qd H) :
    ∃ W : Nat → Nat → Hp → Prop, (∃ m, W 0 m H0) ∧ ∀ i m H, W i m H →
      ((Itr lo n).stop i H ∧ Qd H) ∨ ((Itr lo n).go i H ∧ ∃ Nx : Hp → Prop, (∀ H', Nx H' → ∃ m', m' < m ∧ W (i + 1) m' H') ∧ ∀ x H', (Itr lo n).yld i H x H' → B x H' Nx) := by
  let W : Nat → Nat → Hp → Prop := fun i m H => m + i = n ∧ Pv i H
  refine ⟨W, ⟨n, by omega, h0⟩, ?_⟩
  rintro i m H ⟨e, p⟩
  by_cases c : i < n
  · refine Or.inr ⟨c, Pv (i + 1), fun H' q => ⟨m - 1, by omega, by omega, q⟩, ?_⟩
    rintro x H' ⟨rfl, rfl⟩
    exact hs i _ c p
  · have z : i = n := by omega
    subst z
    exact Or.inl ⟨Nat.le_refl _, hd H p⟩
end VK
namespace VK
open PySem PySem.Spec PyProof.Rows L2
/-! ### repr, where no repr is under way -/
abbrev NoG (A : Around) : Prop := A.guards = some []
mutual
theorem dp_plain {K : PySem.W.Frag} {H : Hp} : ∀ (d : PyData) (v : V), Dp K H v d → d.hasDict = false
  | .none, _, _ => rfl
  | .bool _, _, _ => rfl
  | .int _, _, _ => rfl
  | .str _, _, _ => rfl
  | .list ds, _, h => by
    cases h with
    | lst _ a =>
      show PyData.hasDictAll ds = false
      exact dp_plains ds _ a
  | .tuple ds, _, h => by
    cases h with
    | tup _ a =>
      show PyData.hasDictAll ds = false
      exact dp_plains ds _ a
  | .dict _, _, h => by cases h
theorem dp_plains {K : PySem.W.Frag} {H : Hp} : ∀ (ds : List PyData) (vs : List V), DpAll K H vs ds → PyData.hasDictAll ds = false
  | [], _, _ => rfl
  | d :: ds, _, h => by
    cases h with
    | cons a b =>
      simp only [PyData.hasDictAll, Bool.or_eq_false_iff]
      exact ⟨dp_plain d _ a, dp_plains ds _ b⟩
end
/-- what repr of data asks and gives -/
structure Shows (d : PyData) : Prop where
  able : d.showable = true
  deep : d.depth ≤ 50
  fits : d.shown.length ≤ sizeLine
def rShow (K : PySem.W.Frag) : List V → Hp → VK → Prop := fun xs H Q => ∃ (x : V) (d : PyData), xs = [x] ∧ Dp K H x d ∧ Shows d ∧ Q (.str d.shown) H
theorem cr_rep {X : Cx} (hg : NoG X.A) (hu : X.A.units + 64 < cLine) : CallR X (.builtin "repr") (rShow X.K) := by
  intro pins s σ H xs us Q I r h
  obtain ⟨x, d, rfl, hd, ⟨able, deep, fits⟩, q⟩ := h
  obtain ⟨u, rfl, ru⟩ := vals1 r
  obtain ⟨as, rd⟩ := Dp.reads I d x u hd ru
  cases rd with
  | none => exact P.repr_of_none ⟨.str _, H, I.tok _, ⟨_, rfl⟩, q⟩
  | bool b =>
    have e : PyData.shown (.bool b) = (if b then ("True" : Str) else ("False" : Str)) := rfl
    refine P.repr_of_bool ⟨.str _, H, I.tok _, ⟨_, rfl⟩, ?_⟩
    rw [← e]
    exact q
  | int i t =>
    have z : i.natAbs.log2 < 1920 := of_decide_eq_true able
    exact P.repr_of_int z ⟨.str _, H, I.tok _, ⟨_, rfl⟩, q⟩
  | str x t => exact P.repr_of_str ⟨.str _, H, I.tok _, ⟨_, rfl⟩, q⟩ fits
  | list h1 h2 h3 h4 =>
    refine repr_of_reads' (.list h1 h2 h3 h4) able (PyData.noDict_hsm (dp_plain _ _ hd)) hg (by omega) (fun _ _ e => e) (fun h' u tk kp => ?_) fits
    exact ⟨.str _, H, I.kept kp, ⟨_, rfl⟩, q⟩
  | tuple h1 h2 h3 h4 =>
    refine repr_of_reads' (.tuple h1 h2 h3 h4) able (PyData.noDict_hsm (dp_plain _ _ hd)) hg (by omega) (fun _ _ e => e) (fun h' u tk kp => ?_) fits
    exact ⟨.str _, H, I.kept kp, ⟨_, rfl⟩, q⟩
  | dict h1 h2 h3 h4 h5 => cases hd
/-! ### a def that is called where no repr is under way -/
structure FnG (P : Program) (w : World) (K : PySem.W.Frag) (mg : Str → Option Value) (base : Heap) (CX : CXT) (k : Nat) (f : Addr) (fd : FuncData) (ps : List Str) (sp : Sp) : Prop where
  len : ∀ vs H Q E, sp vs H Q E → vs.length = ps.length
  at_ : ∀ (A : Around), NoG A → Room k A → ∀ (outer : List Env) (s : Shared) (H : Hp) (args : Args) (us : List Value) (vs : List V) (Q : VK) (E : XK), Env0 P w K mg base A outer s H →
    BindsTo s fd args (ps.zip us) → Vals vs us → sp vs H Q E → codeAny (model P w) A (.call (.ref f) args) (CR CX outer P w H s Q E) s
section
variable {P : Program} {w : World} {K : PySem.W.Frag} {mg : Str → Option Value} {base : Heap} {CX : CXT} {k : Nat} {f : Addr}
theorem FnG.of {fd : FuncData} {ps : List Str} {sp : Sp} (F : FnOk P w K mg base CX k f fd ps sp) : FnG P w K mg base CX k f fd ps sp :=
  ⟨F.len, fun A _ hr outer s H args us vs Q E e b r h => F.run A outer s H args us vs Q E hr e b r h⟩
/-- by its body, read where no repr is under way -/
theorem fng_body {x qual : Str} {st : Stmt} {fd : FuncData} {N ps : List Str} {sp : Sp} (F : Fun K x qual st f fd) (S : FnScope N ps (defScope st)) (len : ∀ vs H Q E, sp vs H Q E → vs.length = ps.length)
    (body : ∀ (cdv : Value) (A : Around) (outer : List Env) (s : Shared) (H : Hp) (vs : List V) (Q : VK) (E : XK), NoG A → Room k (A.deeper (envOfC qual (defScope st) s.heap.objs.size f cdv)) → sp vs H Q E →
      ∃ t, PSs (cxOf CX P w K mg base N qual (defScope st) f cdv A outer s H E) (defBody st) t ∧ t { nx := fun _ H' => Q .non H', rt := Q } (start N vs) H) :
    FnG P w K mg base CX (k + 1) f fd ps sp := by
  obtain ⟨oc, od, kV, doc, pm, an, cdv, ct, osl, efd, lk, codes⟩ := F.ex
  subst efd
  refine ⟨len, fun A guard hr outer s H args us vs Q E env0 binds r hsp => ?_⟩
  have lenV := len vs H Q E hsp
  have inK : K.In s.heap := env0.mod.kin.keeps (fun b o e => (env0.bs b o e).1)
  have noLim : s.heap.NoLimit := env0.mod.nolimit.keeps (fun b o e => (env0.bs b o e).1)
  have kinds : ∀ y ∈ ps.zip us, (defScope st).names.lookup y.1 = some .local ∨ ((defScope st).names.lookup y.1 = some .cell ∧ ((cellsFrom (s.heap.objs.size + 1) (defScope st).names []).lookup y.1).isSome = true) := by
    rintro ⟨n, v⟩ hy
    have hn : n ∈ ps := (List.of_mem_zip hy).1
    cases S.par n hn with
    | inl q => exact Or.inl q
    | inr q => exact Or.inr ⟨q, PySem.W.cellsFrom_some _ _ _ (Or.inl q)⟩
  apply codeAny_call_function hr.depth (inK _ _ lk) rfl S.co S.gen rfl (PySem.W.codeRec_of inK codes)
  apply binds
  apply wpAny_newFunctionEnv_cells S.kind kinds
  intro env henv s1 laid
  subst henv
  refine ⟨noLim.keeps laid.toInCall.keep, codeAny_func ?_⟩
  obtain ⟨t, reads, hq⟩ := body cdv A outer s H vs Q E guard (hr.deeper _) hsp
  have I : Inv (cxOf CX P w K mg base N qual (defScope st) f cdv A outer s H E) [] (start N vs) H s1 := inv_start S hr.hd env0 lenV r laid
  have ended : ∀ {σ' : L2.St} {H' : Hp} {v : V} {u : Value} {s' : Shared}, Inv (cxOf CX P w K mg base N qual (defScope st) f cdv A outer s H E) [] σ' H' s' → RelV v u → Q v H' → CE outer P w H s Q u s' := by
    intro σ' H' v u s' J rv q
    exact ⟨v, H', J.os, J.bare, J.base, J.hok, rv, q⟩
  refine wpAny_mono (reads.run [] s1 (start N vs) H _ I hq) ?_ (fun e s' z => z)
  rintro (_ | _ | _ | u) s' hs
  · obtain ⟨σ', H', J, q⟩ := hs
    exact ended (v := .non) (u := Value.none) J rfl q
  · obtain ⟨_, _, _, q⟩ := hs
    exact q.elim
  · obtain ⟨_, _, _, q⟩ := hs
    exact q.elim
  · obtain ⟨v, σ', H', J, rv, q⟩ := hs
    exact ended J rv q
/-- .. of a def that lets nothing out -/
theorem fng_mk {x qual : Str} {st : Stmt} {fd : FuncData} {N ps : List Str} {sp : Sp} (F : Fun K x qual st f fd) (S : FnScope N ps (defScope st)) (len : ∀ vs H Q E, sp vs H Q E → vs.length = ps.length)
    (body : ∀ (cdv : Value) (A : Around) (outer : List Env) (s : Shared) (H : Hp) (vs : List V) (Q : VK) (E : XK), NoG A → Room k (A.deeper (envOfC qual (defScope st) s.heap.objs.size f cdv)) → sp vs H Q E →
      ∃ t, PSs (cxOf CX0 P w K mg base N qual (defScope st) f cdv A outer s H E).nox (defBody st) t ∧ t { nx := fun _ H' => Q .non H', rt := Q } (start N vs) H) :
    FnG P w K mg base CX0 (k + 1) f fd ps sp := fng_body F S len fun cdv A outer s H vs Q E guard hr h =>
  let ⟨t, reads, q⟩ := body cdv A outer s H vs Q E guard hr h
  ⟨t, reads.nox, q⟩
end
end VK
namespace VK
open PySem PySem.Spec PyProof.Rows L2
/-! ### repr of data in which empty dicts may stand (lists and dicts made by the program; none of the lists at f) -/
mutual
inductive DX (K : PySem.W.Frag) (H : Hp) (f : Addr) : V → PyData → Prop
  | non : DX K H f .non .none
  | bl (b : Bool) : DX K H f (.bl b) (.bool b)
  | int (i : Int) : DX K H f (.int i) (.int i)
  | str (x : Str) : DX K H f (.str x) (.str x)
  | lst {a : Addr} {xs : List V} {ds : List PyData} : H a = some (.lst xs) → a ≠ f → DXs K H f xs ds → DX K H f (.ref a) (.list ds)
  | tup {a : Addr} {xs : List V} {ds : List PyData} : SqT K H a xs → DXs K H f xs ds → DX K H f (.ref a) (.tuple ds)
  | dct {a : Addr} : H a = some (.dK []) → DX K H f (.ref a) (.dict [])
inductive DXs (K : PySem.W.Frag) (H : Hp) (f : Addr) : List V → List PyData → Prop
  | nil : DXs K H f [] []
  | cons {v : V} {vs : List V} {d : PyData} {ds : List PyData} : DX K H f v d → DXs K H f vs ds → DXs K H f (v :: vs) (d :: ds)
end
/-- sys.modules stands in the heap that is behind the top -/
abbrev Mods (base : Heap) : Prop := ∃ mm, base.Ns sysModules mm
section
variable {X : Cx} {pins : List (Addr × Obj)} {σ : L2.St} {H : Hp} {s : Shared} {f : Addr}
theorem not_mods (I : Inv X pins σ H s) (m : Mods X.base) {a : Addr} {o : HO} (h : H a = some o) : sysModules ≠ a := by
  intro e
  obtain ⟨mm, oM, es, ep, hM, _⟩ := m
  have := (I.bs _ _ hM).2
  rw [e, h] at this
  cases this
theorem dict_empty (I : Inv X pins σ H s) {a : Addr} (h : H a = some (.dK [])) : ∃ o es n, s.heap.get? a = some o ∧ o.cls = .type "dict" ∧ o.data = .dict es n ∧ es.toList = [] := by
  obtain ⟨_, _, vs, kv, o, es, ep, ho, ex, hd, _, pr, _⟩ := I.hok a _ h
  cases kv
  refine ⟨o, es, ep, ho, ex.1, hd, ?_⟩
  generalize es.toList = l at pr
  cases pr
  rfl
mutual
theorem dx_reads (I : Inv X pins σ H s) (m : Mods X.base) : ∀ (d : PyData) (v : V) (u : Value), DX X.K H f v d → RelV v u → ∃ as, Reads s.heap u d as ∧ sysModules ∉ as
  | .none, _, _, h, r => by
    cases h
    cases r
    exact ⟨[], .none, by simp⟩
  | .bool b, _, _, h, r => by
    cases h
    cases r
    exact ⟨[], .bool b, by simp⟩
  | .int i, _, _, h, r => by
    cases h
    obtain ⟨t, rfl⟩ := r
    exact ⟨[], .int i t, by simp⟩
  | .str x, _, _, h, r => by
    cases h
    obtain ⟨t, rfl⟩ := r
    exact ⟨[], .str x t, by simp⟩
  | .list ds, _, _, h, r => by
    cases h with
    | lst hs _ all =>
      cases r
      obtain ⟨its, rv, ⟨o, n, ho, hc, _, hd⟩, _⟩ := I.list (SqL.of hs)
      obtain ⟨as, rd, no⟩ := dx_readsAll I m ds _ its all rv
      refine ⟨_, .list ho hc hd rd, ?_⟩
      intro z
      rcases List.mem_cons.mp z with z | z
      · exact not_mods I m hs z
      · exact no z
  | .tuple ds, _, _, h, r => by
    cases h with
    | tup hs all =>
      cases r
      obtain ⟨its, rv, ⟨o, ho, hc, n, hd⟩, _⟩ := I.tuple hs
      obtain ⟨as, rd, no⟩ := dx_readsAll I m ds _ its all rv
      exact ⟨_, .tuple ho hc hd rd, no⟩
  | .dict kvs, _, _, h, r => by
    cases h with
    | dct hs =>
      cases r
      obtain ⟨o, es, n, ho, hc, hd, hl⟩ := dict_empty I hs
      refine ⟨_, .dict (kvs := []) ho hc hd (by rw [hl]; exact .nil) (by rw [hl]; exact .nil), ?_⟩
      intro z
      exact not_mods I m hs (by simpa using z)
theorem dx_readsAll (I : Inv X pins σ H s) (m : Mods X.base) : ∀ (ds : List PyData) (vs : List V) (us : List Value), DXs X.K H f vs ds → Vals vs us → ∃ as, ReadsAll s.heap us ds as ∧ sysModules ∉ as
  | [], _, _, h, r => by
    cases h
    cases r
    exact ⟨[], .nil, by simp⟩
  | d :: ds, _, _, h, r => by
    cases h with
    | cons h1 h2 =>
      cases r with
      | cons r1 r2 =>
        obtain ⟨as, q1, n1⟩ := dx_reads I m d _ _ h1 r1
        obtain ⟨bs, q2, n2⟩ := dx_readsAll I m ds _ _ h2 r2
        refine ⟨_, .cons q1 q2, ?_⟩
        intro z
        exact (List.mem_append.mp z).elim n1 n2
end
end
def rShowX (K : PySem.W.Frag) : List V → Hp → VK → Prop := fun xs H Q => ∃ (x : V) (d : PyData) (f : Addr), xs = [x] ∧ DX K H f x d ∧ Shows d ∧ Q (.str d.shown) H
theorem cr_repX {X : Cx} (hg : NoG X.A) (hu : X.A.units + 64 < cLine) (m : Mods X.base) : CallR X (.builtin "repr") (rShowX X.K) := by
  intro pins s σ H xs us Q I r h
  obtain ⟨x, d, f, rfl, hd, ⟨able, deep, fits⟩, q⟩ := h
  obtain ⟨u, rfl, ru⟩ := vals1 r
  obtain ⟨as, rd, no⟩ := dx_reads I m d x u hd ru
  have fin : ∀ h' tk' u', (∀ b o, s.heap.get? b = some o → h'.get? b = some o) → EP X pins σ Q (.str d.shown u') { s with heap := h', toks := tk' } := fun h' tk' u' kp => ⟨.str _, H, I.kept kp, ⟨_, rfl⟩, q⟩
  cases rd with
  | none => exact P.repr_of_none ⟨.str _, H, I.tok _, ⟨_, rfl⟩, q⟩
  | bool b =>
    have e : PyData.shown (.bool b) = (if b then ("True" : Str) else ("False" : Str)) := rfl
    refine P.repr_of_bool ⟨.str _, H, I.tok _, ⟨_, rfl⟩, ?_⟩
    rw [← e]
    exact q
  | int i t =>
    have z : i.natAbs.log2 < 1920 := of_decide_eq_true able
    exact P.repr_of_int z ⟨.str _, H, I.tok _, ⟨_, rfl⟩, q⟩
  | str x t => exact P.repr_of_str ⟨.str _, H, I.tok _, ⟨_, rfl⟩, q⟩ fits
  | list h1 h2 h3 h4 => exact repr_of_reads' (.list h1 h2 h3 h4) able (fun _ => no) hg (by omega) (fun _ _ e => e) (fun h' u' tk' kp => fin h' tk' u' kp) fits
  | tuple h1 h2 h3 h4 => exact repr_of_reads' (.tuple h1 h2 h3 h4) able (fun _ => no) hg (by omega) (fun _ _ e => e) (fun h' u' tk' kp => fin h' tk' u' kp) fits
  | dict h1 h2 h3 h4 h5 => exact repr_of_reads' (.dict h1 h2 h3 h4 h5) able (fun _ => no) hg (by omega) (fun _ _ e => e) (fun h' u' tk' kp => fin h' tk' u' kp) fits
end VK
namespace VK
open PySem PySem.Spec PyProof.Rows L2
/-! ### the caller's own call: no repr is under way -/
section
variable {P : Program} {w : World} {K : PySem.W.Frag} {mg mb : Str → Option Value} {CX : CXT} {k : Nat} {fa a : Addr} {fd : FuncData} {x : Str} {sp : Sp} {s1 : Shared} {us : List Value} {ns : List Int}
/-- what the call gives in the end -/
abbrev EndedX (s1 : Shared) (r : Result) (s' : Shared) : Prop := r = .ok (.ret (.bool true)) ∧ OldK s1.heap s'.heap ∧ s'.os = s1.os ∧ AllBare s'.gens
/-- from a heap in which at most the script is known -/
theorem askedx_at {H : Hp} (inK : K.In s1.heap) (nsM : s1.heap.Ns mainGlobals mg) (nsB : s1.heap.Ns builtinsNs mb) (boot : ∀ x : Str, x ≠ "__name__" → mb x = bootBuiltins x) (noLim : s1.heap.NoLimit) (mods : Mods s1.heap) (noGen : s1.gens = #[])
    (obj : s1.heap.get? a = some { cls := .type "list", data := .seq us.toArray }) (hr : Room k callerA)
    (F : ∀ base : Heap, K.In base → base.Ns mainGlobals mg → Mods base → FnG P w K mg base CX k fa fd [x] sp) (binds : ∀ (s : Shared) (u : Value), BindsTo s fd ⟨[u], []⟩ [(x, u)])
    (hsp : sp [.ref a] H (fun v _ => v = .bl true) fun _ _ _ => False) (hCX : ∀ H e s', CX [] H s1 (fun _ _ _ => False) e s' → False)
    (only : Only H) (ok : HOk P w H s1.heap) (self : ∀ b, H b ≠ none → b = a) (free : H a ≠ none → K.lookup a = none) :
    codeAny (model P w) callerA (.call (.ref fa) ⟨[.ref a], []⟩) (EndedX s1) s1 := by
  have plainly : ∀ {b : Addr} {o : Obj}, s1.heap.get? b = some o → b ≠ a → (hidT s1.heap H).get? b = some o := by
    intro b o e ne
    refine hidT_get e ?_
    cases q : H b with
    | none => rfl
    | some u => exact absurd (self b (by rw [q]; exact Option.some_ne_none u)) ne
  have spaces : ∀ {b : Addr} {m : Str → Option Value}, s1.heap.Ns b m → (hidT s1.heap H).Ns b m := by
    rintro b m ⟨o, es, ep, e, d, rest⟩
    refine ⟨o, es, ep, plainly e ?_, d, rest⟩
    intro z
    subst z
    have same : (some o : Option Obj) = some { cls := .type "list", data := .seq us.toArray } := e.symm.trans obj
    injection same with same
    rw [same] at d
    cases (show Data.seq us.toArray _ = Data.dict es ep from d)
  have inB : K.In (hidT s1.heap H) := by
    intro b o e
    cases q : H b with
    | none => exact hidT_get (inK b o e) q
    | some u =>
      have z : b = a := self b (by rw [q]; exact Option.some_ne_none u)
      subst z
      rw [free (by rw [q]; exact Option.some_ne_none u)] at e
      cases e
  obtain ⟨mc, l1, l2⟩ := noLim
  have modB : Mod K mg (hidT s1.heap H) := ⟨inB, spaces nsM, ⟨mb, spaces nsB, boot⟩, ⟨mc, spaces l1, l2⟩⟩
  have env0 : Env0 P w K mg (hidT s1.heap H) callerA [] s1 H :=
    { frames := rfl, mod := modB, bs := fun b o e => of_hidT e, bsz := Nat.le_of_eq (hidT_size _ _), funs := trivial, frf := (by intro b hb; cases hb), hok := ok, bare := AllBare.of_eq noGen }
  have run := (F _ inB (spaces nsM) (let ⟨mm, hm⟩ := mods; ⟨mm, spaces hm⟩)).at_ callerA rfl hr [] s1 H ⟨[.ref a], []⟩ [.ref a] [.ref a] _ _ env0 (binds s1 (.ref a)) (.cons rfl .nil) hsp
  refine codeAny_mono run ?_
  rintro (e | (_ | _ | _ | u)) s' h
  · exact (hCX H e s' h).elim
  · exact h.elim
  · exact h.elim
  · exact h.elim
  · obtain ⟨v, H', os, bare, un, ok', rv, hv⟩ := h
    have hv' : v = .bl true := hv
    subst hv'
    have eu : u = Value.bool true := rv
    subst eu
    refine ⟨rfl, OldK.of_keep (fun b o e => ?_), os, bare⟩
    rcases only b with q | ⟨ob, xs, q⟩
    · refine un.keep b o e q (fun z => ?_) (fun z => ?_)
      · cases z
      · cases z
    · have before := (ok b _ q).1
      have after := (ok' b _ (un.frzs b ob _ q)).1
      rw [e] at before
      injection before with before
      rw [before]
      exact after
theorem askedx {n : Nat} (inK : K.In s1.heap) (nsM : s1.heap.Ns mainGlobals mg) (nsB : s1.heap.Ns builtinsNs mb) (boot : ∀ x : Str, x ≠ "__name__" → mb x = bootBuiltins x) (noLim : s1.heap.NoLimit) (mods : Mods s1.heap) (noGen : s1.gens = #[])
    (obj : s1.heap.get? a = some { cls := .type "list", data := .seq us.toArray }) (hi : IntsAre us ns) (fits : ns.length ≤ sizeLine) (hr : Room k callerA)
    (F : ∀ base : Heap, K.In base → base.Ns mainGlobals mg → Mods base → FnG P w K mg base CX k fa fd [x] sp) (binds : ∀ (s : Shared) (u : Value), BindsTo s fd ⟨[u], []⟩ [(x, u)])
    (hsp : ∀ H : Hp, Only H → SqL K H a (ns.map V.int) → sp [.ref a] H (fun v _ => v = .bl true) fun _ _ _ => False) (hCX : ∀ H e s', CX [] H s1 (fun _ _ _ => False) e s' → False) :
    codeAny (model P w) callerA (.call (.ref fa) ⟨[.ref a], []⟩) (EndedX s1) s1 := by
  have rv := vals_ints hi
  have many := hi.length
  by_cases known : ∃ o, K.lookup a = some o
  · obtain ⟨o, ho⟩ := known
    have e : o = { cls := .type "list", data := .seq us.toArray } := by
      have := (inK a o ho).symm.trans obj
      injection this
    subst e
    have sq : SqL K (fun _ => Option.none) a (ns.map V.int) :=
      Or.inr ⟨_, us.toArray, _, ho, rfl, rfl, rfl, (by rw [List.size_toArray, many]; exact fits), (by simpa using rv)⟩
    refine askedx_at inK nsM nsB boot noLim mods noGen obj hr F binds (hsp (fun _ => Option.none) (fun _ => Or.inl rfl) sq) hCX (fun _ => Or.inl rfl) ?_ ?_ ?_
    · intro b u z
      cases z
    · intro b z
      exact absurd rfl z
    · intro z
      exact absurd rfl z
  · have out : K.lookup a = none := by
      cases q : K.lookup a with
      | none => rfl
      | some o => exact absurd ⟨o, q⟩ known
    let H : Hp := fun b => if b = a then some (.frz { cls := .type "list", data := .seq us.toArray } (.lst (ns.map V.int))) else none
    have Ha : H a = some (.frz { cls := .type "list", data := .seq us.toArray } (.lst (ns.map V.int))) := if_pos rfl
    have Hb : ∀ b, b ≠ a → H b = none := fun b z => if_neg z
    have only : Only H := by
      intro b
      by_cases z : b = a
      · subst z
        exact Or.inr ⟨_, _, Ha⟩
      · exact Or.inl (Hb b z)
    refine askedx_at (H := H) inK nsM nsB boot noLim mods noGen obj hr F binds (hsp H only (Or.inl (Or.inr ⟨_, Ha⟩))) hCX only ?_ ?_ (fun _ => out)
    · intro b u z
      by_cases e : b = a
      · subst e
        rw [Ha] at z
        injection z with z
        subst z
        refine ⟨obj, ?_, us, _, rv, obj⟩
        rw [List.length_map]
        exact fits
      · rw [Hb b e] at z
        cases z
    · intro b z
      by_cases e : b = a
      · exact e
      · exact absurd (Hb b e) z
end
/-- a law's row, from its promise where no repr is under way -/
theorem walk_x {l : PySem.W.OpenLaw} {n k : Nat} {q : Program} {loose : List Str} {XP : (Str → Option Value) → Heap → Prop} {YP : World → Heap → Prop} {d : DefRec} {K : PySem.Params → PySem.W.Frag} {CX : World → CXT} {sp : World → Sp} {x : Str}
    (most : l.most = some n) (fits : n ≤ sizeLine) (plain : d.params.defaults = []) (seen : importsNone q = true) (hr : Room k callerA)
    (inK : ∀ (w : World) (h : Heap), YP w h → (K w.params).In h)
    (F : ∀ (w : World) (mg : Str → Option Value) (fa : Addr) (h : Heap), (K w.params).In h → h.Ns mainGlobals mg → mg d.name = some (.ref fa) →
      ∃ fd : FuncData, (∀ (s : Shared) (u : Value), BindsTo s fd ⟨[u], []⟩ [(x, u)]) ∧ ∀ base : Heap, (K w.params).In base → base.Ns mainGlobals mg → Mods base → FnG l.prog w (K w.params) mg base (CX w) k fa fd [x] (sp w))
    (hsp : ∀ (w : World) (H : Hp) (a : Addr) (ns : List Int), ns.length ≤ n → Only H → SqL (K w.params) H a (ns.map V.int) → sp w [.ref a] H (fun v _ => v = .bl true) fun _ _ _ => False)
    (hCX : ∀ (w : World) (H : Hp) (s : Shared) (e : Value) (s' : Shared), CX w [] H s (fun _ _ _ => False) e s' → False) :
    PySem.W.WalkO q loose XP YP l.row.toRowW d [] (fun f vs => PySem.call f vs) := by
  apply Att.attach_call most plain
  intro w s₀ s1 mg mb fa o pm cd doc a us ns G Y ho hd hcd hmg obj whole len noGen
  have kin := inK w _ Y
  obtain ⟨fd, binds, F'⟩ := F w mg fa _ kin G.T.g hmg
  have mods : Mods s1.heap := by
    obtain ⟨mm, hm, _⟩ := (G.T.seer seen).mods
    exact ⟨mm, hm⟩
  exact askedx (n := n) kin G.T.g G.T.b G.T.builtins G.T.nolimit mods noGen obj whole (Nat.le_trans len fits) hr F' binds (fun H h1 h2 => hsp w H a ns len h1 h2) (fun H e s' => hCX w H s1 e s')
end VK
namespace VK
open PySem PySem.Spec PyProof.Rows L2
/-! ### data of small numbers is shown -/
/-- all that repr asks, by a rough size -/
structure Slim (d : PyData) (n : Nat) : Prop where
  able : d.showable = true
  short : d.leavesShort 25 = true
  deep : d.depth ≤ 40
  bulk : d.bulk ≤ n
structure SlimAll (ds : List PyData) (n : Nat) : Prop where
  able : PyData.showableAll ds = true
  short : PyData.leavesShortAll 25 ds = true
  deep : PyData.depthAll ds ≤ 40
  bulk : PyData.bulkAll ds ≤ n
theorem Slim.shows {d : PyData} {n : Nat} (h : Slim d n) (hn : n ≤ 500000) : Shows d := by
  refine ⟨h.able, Nat.le_trans h.deep (by decide), ?_⟩
  have q := PyData.shown_le_bulk 25 (by decide) d h.short
  have b := h.bulk
  have e : (25 + 2) * d.bulk ≤ 27 * 500000 := Nat.mul_le_mul (by decide) (Nat.le_trans b hn)
  rw [sizeLine_eq]
  omega
theorem slim_nil : SlimAll [] 0 := ⟨rfl, rfl, Nat.zero_le _, Nat.le_refl _⟩
theorem slim_cons {d : PyData} {ds : List PyData} {n m : Nat} (a : Slim d n) (b : SlimAll ds m) : SlimAll (d :: ds) (n + 1 + m) := by
  refine ⟨?_, ?_, ?_, ?_⟩
  · show (d.showable && PyData.showableAll ds) = true
    rw [a.able, b.able]
    rfl
  · show (d.leavesShort 25 && PyData.leavesShortAll 25 ds) = true
    rw [a.short, b.short]
    rfl
  · show max d.depth (PyData.depthAll ds) ≤ 40
    exact Nat.max_le.mpr ⟨a.deep, b.deep⟩
  · show d.bulk + 1 + PyData.bulkAll ds ≤ n + 1 + m
    have := a.bulk
    have := b.bulk
    omega
theorem slim_nat {n : Nat} (h : n ≤ 9) : Slim (pint n) 0 := by
  have all : ∀ n, n ≤ 9 → PyData.showable (pint n) = true ∧ PyData.leavesShort 25 (pint n) = true := by decide +kernel
  exact ⟨(all n h).1, (all n h).2, Nat.zero_le _, Nat.le_refl _⟩
theorem slim_ints : ∀ {ns : List Nat}, (∀ n ∈ ns, n ≤ 9) → SlimAll (ns.map pint) ns.length ∧ PyData.depthAll (ns.map pint) = 0
  | [], _ => ⟨slim_nil, rfl⟩
  | n :: r, h => by
    have a := slim_ints (ns := r) fun x hx => h x (by simp [hx])
    refine ⟨?_, dep_ints _⟩
    have q := slim_cons (slim_nat (h n (by simp))) a.1
    rw [show 0 + 1 + r.length = (n :: r).length by simp; omega] at q
    exact q
theorem slim_tup {ns : List Nat} (h : ∀ n ∈ ns, n ≤ 9) : Slim (ptup ns) ns.length := by
  obtain ⟨a, b⟩ := slim_ints h
  refine ⟨a.able, a.short, ?_, a.bulk⟩
  show PyData.depthAll (ns.map pint) + 1 ≤ 40
  omega
theorem slim_il {ns : List Nat} (h : ∀ n ∈ ns, n ≤ 9) : Slim (.list (ns.map pint)) ns.length := by
  obtain ⟨a, b⟩ := slim_ints h
  refine ⟨a.able, a.short, ?_, a.bulk⟩
  show PyData.depthAll (ns.map pint) + 1 ≤ 40
  omega
theorem slim_tups {c : Nat} : ∀ {nss : List (List Nat)}, (∀ ns ∈ nss, ns.length ≤ c ∧ ∀ n ∈ ns, n ≤ 9) → SlimAll (nss.map ptup) (nss.length * (c + 1))
  | [], _ => by
    have q := slim_nil
    simpa using q
  | ns :: r, h => by
    have a := slim_tups (nss := r) fun x hx => h x (by simp [hx])
    obtain ⟨h1, h2⟩ := h ns (by simp)
    have q := slim_cons (slim_tup h2) a
    refine ⟨q.able, q.short, q.deep, Nat.le_trans q.bulk ?_⟩
    rw [List.length_cons, Nat.add_mul]
    omega
theorem slim_list {nss : List (List Nat)} {c : Nat} (h : ∀ ns ∈ nss, ns.length ≤ c ∧ ∀ n ∈ ns, n ≤ 9) : Slim (plist nss) (nss.length * (c + 1)) := by
  have a := slim_tups h
  refine ⟨a.able, a.short, ?_, a.bulk⟩
  show PyData.depthAll (nss.map ptup) + 1 ≤ 40
  have := dep_tups nss
  omega
theorem slims_tup {ns : List Nat} (h : ∀ n ∈ ns, n ≤ 9) (hz : ns.length ≤ 500000) : Shows (ptup ns) := (slim_tup h).shows hz
theorem slims_il {ns : List Nat} (h : ∀ n ∈ ns, n ≤ 9) (hz : ns.length ≤ 500000) : Shows (.list (ns.map pint)) := (slim_il h).shows hz
theorem slims_list {nss : List (List Nat)} {c : Nat} (h : ∀ ns ∈ nss, ns.length ≤ c ∧ ∀ n ∈ ns, n ≤ 9) (hz : nss.length * (c + 1) ≤ 500000) : Shows (plist nss) := (slim_list h).shows hz
/-- two lists of numbers in a list -/
theorem slims_two {as bs : List Nat} (ha : ∀ n ∈ as, n ≤ 9) (hb : ∀ n ∈ bs, n ≤ 9) (hz : as.length + bs.length ≤ 100000) : Shows (.list [.list (as.map pint), .list (bs.map pint)]) := by
  have q := slim_cons (slim_il ha) (slim_cons (slim_il hb) slim_nil)
  refine Slim.shows (n := as.length + 1 + (bs.length + 1 + 0)) ⟨q.able, q.short, ?_, q.bulk⟩ (by omega)
  show max (PyData.depthAll (as.map pint) + 1) (max (PyData.depthAll (bs.map pint) + 1) 0) + 1 ≤ 40
  rw [dep_ints, dep_ints]
  decide
theorem slim_int {i : Int} (h : i.natAbs ≤ 10 ^ 20) (a : PyData.showable (.int i) = true) (s : PyData.leavesShort 25 (.int i) = true) : Slim (.int i) 0 := ⟨a, s, Nat.zero_le _, Nat.le_refl _⟩
theorem v_repX {K : PySem.W.Frag} {H : Hp} {f : Addr} {σ : L2.St} {x : V} {d : PyData} {Q : VK} (hd : DX K H f x d) (hs : Shows d) (q : Q (.str d.shown) H) : tNil σ H (fun xs H2 => rShowX K (x :: xs) H2 Q) := ⟨x, d, f, rfl, hd, hs, q⟩
end VK
namespace VK
open PySem PySem.Spec PyProof.Rows L2
/-! ### try with several arms, some of which keep the error under a name -/
/-- the ends of a suite whose name (slot i) is taken back behind it -/
abbrev offAt (i : Nat) (D : Ends) : Ends := { nx := fun σ H => D.nx (σ.set i none) H, rt := D.rt, bk := fun σ H => D.bk (σ.set i none) H, ct := fun σ H => D.ct (σ.set i none) H }
abbrev Arm := Value × Option Nat × (Addr → Value → Option Addr → TS)
def wArms (K : PySem.W.Frag) (out : WX) (D : Ends) : List Arm → WX
  | [] => out
  | (c, o, ts) :: rest => fun cls d σ H => ∃ hit : Bool, PySem.W.exmOne K cls c = some hit ∧
      (hit = true → ∀ a : Addr, H a = none → match o with
        | none => ts a cls d D σ H
        | some i => ts a cls d (offAt i D) (σ.set i (some (.ref a))) H) ∧ (hit = false → wArms K out D rest cls d σ H)
inductive Arms (X : Cx) : List ExceptHandler → List Arm → Prop
  | done : Arms X [] []
  | bare {x : Str} {c : Value} {ts : Addr → Value → Option Addr → TS} {st : Stmt} {more : List Stmt} {p1 p2 : Pos} {hds : List ExceptHandler} {l : List Arm} (nm : Names X x c)
      (suite : ∀ (a : Addr) (oe : Obj) (cls : Value) (d : Option Addr) (pn : List (Addr × Obj)), Zc cls d oe → (∃ vs, oe.data = .fields vs) → PSs (X.suite a ((a, oe) :: pn)) (st :: more) (ts a cls d)) (rest : Arms X hds l) :
      Arms X (.ExceptHandler (some (.Name x p1)) none (st :: more) p2 :: hds) ((c, none, ts) :: l)
  | kept {x n : Str} {i : Nat} {c : Value} {ts : Addr → Value → Option Addr → TS} {st : Stmt} {more : List Stmt} {p1 p2 : Pos} {hds : List ExceptHandler} {l : List Arm} (nm : Names X x c) (slot : X.N[i]? = some n) (loc : X.env.kindOf n = some .local)
      (suite : ∀ (a : Addr) (oe : Obj) (cls : Value) (d : Option Addr) (pn : List (Addr × Obj)), Zc cls d oe → (∃ vs, oe.data = .fields vs) → PSs (X.suite a ((a, oe) :: pn)) (st :: more) (ts a cls d)) (rest : Arms X hds l) :
      Arms X (.ExceptHandler (some (.Name x p1)) (some n) (st :: more) p2 :: hds) ((c, some i, ts) :: l)
section
variable {X : Cx}
/-- an object of fields is no frame's -/
theorem off_frames {B h : Heap} {a : Addr} {o : Obj} {vs : Array Value} (ff : h.FunFrames B (X.env :: X.outer)) (e : h.get? a = some o) (dd : o.data = .fields vs) : a ∉ frs (X.env :: X.outer) := by
  intro hm
  obtain ⟨_, o', e', no⟩ := ff.mem hm
  have same : o = o' := Option.some.inj (e.symm.trans e')
  subst same
  exact no _ dd
theorem ps_try_arms {body : List Stmt} {a0 : ExceptHandler} {arms : List ExceptHandler} {l : List Arm} {pos : Pos} {tb : WX → TS} {out : WX} (top : X.stack = X.env :: X.outer) (own : X.env.frame = some X.env.locals) (uniq : X.N.Nodup) (tk : Takes X out)
    (hb : ∀ (W : WX) (pn : List (Addr × Obj)) (xe : Value → Shared → Prop), Takes (X.tr pn xe) W → PassesOwn (model X.prog X.w) X.A X.env xe → PSs (X.tr pn xe) body (tb W)) (chain : Arms X (a0 :: arms) l) :
    PS X (.Try body (a0 :: arms) [] [] pos) (fun D σ H => tb (wArms X.K out D l) D σ H) := by
  refine ⟨fun pins s σ H D I reads => ?_⟩
  have okX := I.ok
  have frames : X.A.frames = some (X.env :: X.outer) := by
    rw [okX.frames, top]
  apply wpAny_Try_except
  refine wpAny_mono ((hb (wArms X.K out D l) (X.pn ++ pins)
    (fun e s₁ => wpAny (model X.prog X.w) X.A (noteFrame e X.env)
      (fun _ s₂ => wpAny (model X.prog X.w) X.A (setFlight e none)
        (fun _ s₃ => wpAny (model X.prog X.w) X.A (handleBy e X.env (a0 :: arms)) (SP X pins D) X.xe s₃) X.xe s₂) X.xe s₁) ?caught PassesOwn.looking).run [] s σ H D (I.toTry _) reads) ?whole (fun e s1 z => z)
  case whole =>
    rintro (_ | _ | _ | u) s1 z
    · obtain ⟨σ', H', J, q⟩ := z
      exact wpAny_execs_nil ⟨σ', H', J.ofTry okX, q⟩
    · obtain ⟨σ', H', J, q⟩ := z
      exact ⟨σ', H', J.ofTry okX, q⟩
    · obtain ⟨σ', H', J, q⟩ := z
      exact ⟨σ', H', J.ofTry okX, q⟩
    · obtain ⟨v, σ', H', J, r, q⟩ := z
      exact ⟨v, σ', H', J.ofTry okX, r, q⟩
  case caught =>
    rintro u s1 ⟨a, B, sI, pins1, σ1, H1, cls, d, rfl, J1, clean, up, sky, free, os, gens, wish⟩
    have J : Inv X pins σ1 H1 sI := J1.ofTry okX
    rw [top] at sky
    show wpAny (model X.prog X.w) X.A (noteFrame (.ref a) X.env) _ _ _
    refine Sky.land Zc.steady frames own sky fun h3 fl3 up3 => ?_
    have J3 : Inv X pins σ1 H1 { s1 with heap := h3 } := J.landed clean fl3.1 (up.trans up3) os gens
    obtain ⟨oe3, vs3, at3, z3, d3⟩ := fl3.there
    have noFr := off_frames fl3.2.2.1 at3 d3
    have noL : a ≠ X.env.locals := by
      intro z
      exact noFr (List.mem_filterMap.mpr ⟨X.env, List.mem_cons_self, by rw [own, z]⟩)
    have noF : a ∉ X.fs := by
      intro hm
      obtain ⟨e, he, q⟩ := List.mem_filterMap.mp hm
      exact noFr (List.mem_filterMap.mpr ⟨e, List.mem_cons_of_mem _ he, q⟩)
    have S3 := J3.suite at3 d3 free noL noF
    have go : ∀ {hds : List ExceptHandler} {l' : List Arm}, Arms X hds l' → wArms X.K out D l' cls d σ1 H1 →
        wpAny (model X.prog X.w) X.A (handleBy (.ref a) X.env hds) (SP X pins D) X.xe { s1 with heap := h3 } := by
      intro hds l' ch
      have typ : PySem.W.Looks (model X.prog X.w) h3 (typeOf (.ref a)) cls := by
        intro A Q E s k q
        refine wpAny_typeOf_ref (k _ _ at3) ?_
        rw [z3.1]
        exact q
      have named : ∀ {x : Str} {c : Value} {p1 : Pos} (nm : Names X x c) {Q : Value → Shared → Prop} {E : Value → Shared → Prop}, Q c { s1 with heap := h3 } →
          wpAny (model X.prog X.w) (X.A.mark (some (.ref a))) (eval (.Name x p1) X.env) Q E { s1 with heap := h3 } := by
        intro x c p1 nm Q E q
        obtain ⟨isG, isD, inM | ⟨noM, boot, noN⟩⟩ := nm
        · exact ld_glob (X := X.suite a ((a, oe3) :: (X.pn ++ pins))) S3 isG inM q isD
        · exact ld_blt (X := X.suite a ((a, oe3) :: (X.pn ++ pins))) S3 isG noM boot q noN isD
      induction ch with
      | done =>
        intro wish
        apply wpAny_handleBy_nil
        obtain ⟨k1, k2, k3, oe, vs, T, oT, ts', he, hz, hd, h1, hr⟩ := id fl3
        unfold PySem.passOn
        refine wpAny_bind (wpAny_field he hd h1 ?_)
        have ne : ¬ ((Value.ref T == Value.none) = true) := by simp
        rw [if_neg ne]
        have out_ : wpAny (model X.prog X.w) X.A (setFlight (.ref a) X.env.frame)
            (fun _ s4 => wpAny (model X.prog X.w) X.A (throw (.ref a) : Sem Flow) (SP X pins D) X.xe s4) X.xe { s1 with heap := h3 } := by
          rw [own]
          refine HandSPX.setFlight_upZ fl3 fun h4 held up4 => ?_
          refine wpAny_throw (tk _ _ ?_)
          refine ⟨a, B, sI, pins, σ1, H1, cls, d, rfl, J, clean, (up.trans up3).trans up4, ?_, free, os, gens, wish⟩
          rw [top]
          exact Or.inr (Or.inr held)
        first
          | exact wpAny_bind (wpAny_pure (wpAny_bind out_))
          | exact wpAny_bind out_
      | @bare x c ts st more p1 p2 hds2 l2 nm suite rest ih =>
        rintro ⟨hit, h1, yes, no⟩
        refine wpAny_handleBy_cons (codeAny_handlers_test ?_) (by intro q; cases q)
        refine named nm ((PySem.W.exm_one (M := model X.prog X.w) J3.kIn typ h1).here ?_)
        cases hit with
        | false => exact ih (no rfl)
        | true =>
          apply codeAny_handlers_suite
          refine HandSPX.lands_againZ fl3 fun h4 fl4 up4 => ?_
          have J4 : Inv X pins σ1 H1 { s1 with heap := h4 } := J.landed clean fl4.1 ((up.trans up3).trans up4) os gens
          obtain ⟨oe4, vs4, at4, z4, d4⟩ := fl4.there
          refine wpAny_mono ((suite a oe4 cls d (X.pn ++ pins) z4 ⟨_, d4⟩).run [] _ _ H1 _ (J4.suite at4 d4 free noL noF) (yes rfl a free)) ?_ (fun _ _ z => z.elim)
          rintro (_ | _ | _ | u) s6 z
          · obtain ⟨σ6, H6, S6, q⟩ := z
            exact ⟨_, _, S6.unsuite okX, q⟩
          · obtain ⟨σ6, H6, S6, q⟩ := z
            exact ⟨_, _, S6.unsuite okX, q⟩
          · obtain ⟨σ6, H6, S6, q⟩ := z
            exact ⟨_, _, S6.unsuite okX, q⟩
          · obtain ⟨v, σ6, H6, S6, r, q⟩ := z
            exact ⟨_, _, _, S6.unsuite okX, r, q⟩
      | @kept x n i c ts st more p1 p2 hds2 l2 nm slot loc suite rest ih =>
        rintro ⟨hit, h1, yes, no⟩
        refine wpAny_handleBy_cons (codeAny_handlers_test ?_) (by intro q; cases q)
        refine named nm ((PySem.W.exm_one (M := model X.prog X.w) J3.kIn typ h1).here ?_)
        cases hit with
        | false => exact ih (no rfl)
        | true =>
          apply codeAny_handlers_suite_as
          refine HandSPX.lands_againZ fl3 fun h4 fl4 up4 => ?_
          have J4 : Inv X pins σ1 H1 { s1 with heap := h4 } := J.landed clean fl4.1 ((up.trans up3).trans up4) os gens
          obtain ⟨oe4, vs4, at4, z4, d4⟩ := fl4.there
          refine store_ok (X := X.suite a ((a, oe4) :: (X.pn ++ pins))) (v := .ref a) (J4.suite at4 d4 free noL noF) uniq slot (Or.inl loc) rfl (fun s5 S5 => ?_) (Or.inr loc)
          refine wpAny_mono ((suite a oe4 cls d (X.pn ++ pins) z4 ⟨_, d4⟩).run [] s5 _ H1 _ S5 (yes rfl a free)) ?_ (fun _ _ z => z.elim)
          have off : ∀ {σ6 : L2.St} {H6 : Hp} {s6 : Shared} {Q : Shared → Prop}, Inv (X.suite a ((a, oe4) :: (X.pn ++ pins))) [] σ6 H6 s6 → (∀ s7, Inv X pins (σ6.set i none) H6 s7 → Q s7) →
              wpAny (model X.prog X.w) X.A (do bindName X.env n .none; unbindBehindTheSuite X.env n p2) (fun _ s7 => Q s7) X.xe s6 := by
            intro σ6 H6 s6 Q S6 q
            exact gone_ok (S6.unsuite okX) uniq slot loc q
          rintro (_ | _ | _ | u) s6 z
          · obtain ⟨σ6, H6, S6, q⟩ := z
            exact off S6 fun s7 J7 => ⟨_, _, J7, q⟩
          · obtain ⟨σ6, H6, S6, q⟩ := z
            exact off S6 fun s7 J7 => ⟨_, _, J7, q⟩
          · obtain ⟨σ6, H6, S6, q⟩ := z
            exact off S6 fun s7 J7 => ⟨_, _, J7, q⟩
          · obtain ⟨v, σ6, H6, S6, r, q⟩ := z
            exact off S6 fun s7 J7 => ⟨_, _, _, J7, r, q⟩
    exact go chain wish
end
end VK
namespace VK
open PySem PySem.Spec PyProof.Rows L2
/-! ### a tuple from its end: t[::-1] -/
theorem fm_congr {α β : Type} {f g : α → Option β} : ∀ {l : List α}, (∀ a ∈ l, f a = g a) → l.filterMap f = l.filterMap g
  | [], _ => rfl
  | a :: r, h => by
    rw [List.filterMap_cons, List.filterMap_cons, h a (by simp), fm_congr (l := r) fun b hb => h b (by simp [hb])]
theorem adjust_back (n : Nat) : Builtin.Slice.sliceAdjust none none (-1) (n : Int) = ((n : Int) - 1, -1) := by
  unfold Builtin.Slice.sliceAdjust
  simp
theorem places_back (n : Nat) : Builtin.Slice.slicePlaces ((n : Int) - 1) (-1) (-1) = n := by
  unfold Builtin.Slice.slicePlaces
  have no : ¬ ((-1 : Int) > 0) := by decide
  simp only [no, if_false]
  have e : (-(-1 : Int)) = 1 := by decide
  rw [e, Int.ediv_one]
  split <;> omega
theorem pick_back (xs : Array Value) : ((List.range xs.size).filterMap fun (k : Nat) => xs[(((xs.size : Nat) : Int) - 1 + (k : Int) * (-1)).toNat]?).toArray = xs.toList.reverse.toArray := by
  congr 1
  have e : (List.range xs.size).filterMap (fun (k : Nat) => xs[(((xs.size : Nat) : Int) - 1 + (k : Int) * (-1)).toNat]?) = (List.range xs.size).filterMap (fun (k : Nat) => xs.toList.reverse[k]?) := by
    refine fm_congr fun k hk => ?_
    have hk' := List.mem_range.mp hk
    rw [List.getElem?_reverse (by simpa using hk')]
    have : (((xs.size : Nat) : Int) - 1 + (k : Int) * (-1)).toNat = xs.toList.length - 1 - k := by
      rw [Array.length_toList]
      omega
    rw [this]
    simp
  rw [e]
  have all : ∀ l : List Value, (List.range l.length).filterMap (fun k => l[k]?) = l := by
    intro l
    induction l with
    | nil => rfl
    | cons a r ih =>
      rw [List.length_cons, List.range_succ_eq_map, List.filterMap_cons, List.filterMap_map]
      simp only [List.getElem?_cons_zero]
      have : ((fun k => (a :: r)[k]?) ∘ Nat.succ) = fun k => r[k]? := by
        funext k
        simp
      rw [this, ih]
  have := all xs.toList.reverse
  rw [List.length_reverse, Array.length_toList] at this
  exact this
section
variable {prog : Program} {w : World} {A : Around} {E : Value → Shared → Prop} {s : Shared}
theorem applied_back {sl : Addr} {vs : Value} {n : Nat} {Q : Int × Int × Nat → Shared → Prop} (hs : s.heap.IsSliceOf sl .none .none vs) (ps : IsPart vs (some (-1))) (h : Q ((n : Int) - 1, -1, n) s) :
    wpAny (model prog w) A (Builtin.Slice.sliceApplied (.ref sl) (pure (n : Int))) Q E s := by
  obtain ⟨os, hos, hcs, hds⟩ := id hs
  unfold Builtin.Slice.sliceApplied Builtin.Slice.sliceFields
  refine wpAny_bind (wpAny_bind (wpAny_field hos hds (x := .none) rfl (wpAny_bind (wpAny_field hos hds (x := .none) rfl (wpAny_bind (wpAny_field hos hds (x := vs) rfl (wpAny_pure ?_)))))))
  refine wpAny_bind (HT.slicePart_ ps ?_)
  show wpAny _ _ (if ((-1 : Int) == 0) = true then _ else _) _ _ s
  rw [if_neg (by decide)]
  refine wpAny_bind (HT.slicePart_ .none (wpAny_bind (HT.slicePart_ .none (wpAny_bind (wpAny_pure ?_)))))
  show wpAny _ _ (match Builtin.Slice.sliceAdjust none none (-1) (n : Int) with | (lo, hi) => pure (lo, (-1 : Int), Builtin.Slice.slicePlaces lo hi (-1))) _ _ s
  rw [adjust_back]
  show wpAny _ _ (pure ((n : Int) - 1, (-1 : Int), Builtin.Slice.slicePlaces ((n : Int) - 1) (-1) (-1))) _ _ s
  rw [places_back]
  exact wpAny_pure h
theorem getItem_back {t sl : Addr} {items : Array Value} {vs : Value} {Q : Value → Shared → Prop} (ht : IsTup s.heap t items) (hs : s.heap.IsSliceOf sl .none .none vs) (ps : IsPart vs (some (-1)))
    (h : Q (.ref s.heap.objs.size) { s with heap := s.heap.push { cls := .type "tuple", data := .seq items.toList.reverse.toArray } }) (hsz : items.size ≤ sizeLine) : wpAny (model prog w) A (getItem (.ref t) (.ref sl)) Q E s := by
  have fits : sizeOk (.seq items.toList.reverse.toArray) := by
    show items.toList.reverse.toArray.size ≤ sizeLine
    rw [List.size_toArray, List.length_reverse, Array.length_toList]
    exact hsz
  obtain ⟨os, hos, hcs, hds⟩ := id hs
  have isSl : s.TypeIs (.ref sl) "slice" := ⟨os, hos, hcs⟩
  unfold getItem
  try with_reducible refine wpAny_holding ?_
  first | refine wpAny_bind (wpAny_pure ?_) | skip
  refine wpAny_bind (wpAny_sequenceKey ht.typeIs (by decide) ?_)
  refine wpAny_bind (wpAny_callSpecial?_slot (name := Str.ofString "__getitem__") ht.typeIs PyProof.Rows.slot_tuple_getitem (wpAny_call_entry PyProof.Rows.slot_tuple_getitem ht.typeIs entry_tuple_getitem ?_ (args_tuple_getitem _ _)))
  show wpAny _ _ (Builtin.Tuple.tupleItemsOf (.ref t) >>= _) _ _ s
  refine wpAny_bind (tupleItemsOf_ ht ?_)
  refine wpAny_bind (wpAny_typeOf isSl ?_)
  rw [if_pos (by decide)]
  refine wpAny_bind (applied_back hs ps ?_)
  have no : ¬ ((((items.size : Nat) : Int) - 1 == 0 && (-1 : Int) == 1 && items.size == items.size) = true) := by
    intro q
    rw [Bool.and_eq_true, Bool.and_eq_true] at q
    exact absurd (eq_of_beq q.1.2) (by decide)
  show wpAny _ _ (if (((items.size : Nat) : Int) - 1 == 0 && (-1 : Int) == 1 && items.size == items.size) = true then _ else _) _ _ s
  rw [if_neg no, pick_back]
  first
    | exact wpAny_bind (m := Builtin.Tuple.tupleExact _) (wpAny_newObj_type (wpAny_pure ⟨_, rfl, wpAny_pure h⟩) fits)
    | exact wpAny_bind (m := Builtin.Tuple.tupleExact _) (wpAny_newObj_type (wpAny_bind (wpAny_pure (wpAny_pure ⟨_, rfl, wpAny_pure h⟩))) fits)
    | exact wpAny_bind (wpAny_bind (m := Builtin.Tuple.tupleExact _) (wpAny_newObj_type (wpAny_pure (wpAny_pure ⟨_, rfl, wpAny_pure h⟩)) fits))
    | exact wpAny_bind (wpAny_bind (m := Builtin.Tuple.tupleExact _) (wpAny_newObj_type (wpAny_pure ⟨_, rfl, wpAny_pure h⟩) fits))
end
def tRevT (K : PySem.W.Frag) (te : TE) : TE := fun σ H Q => te σ H fun x H1 => ∃ a xs, x = .ref a ∧ SqT K H1 a xs ∧ ∀ p, H1 p = none → Q (.ref p) (upd H1 p (.tup xs.reverse))
theorem pe_revT {X : Cx} {e : Expr} {te : TE} {k : Nat} {p1 p2 p3 pos : Pos} (he : PE X e te) : PE X (.Subscript e (.Slice none none (some (.UnaryOp .USub (.Constant (.int 1) k p1) p2)) p3) pos) (tRevT X.K te) := by
  refine ⟨fun pins s σ H Q I h => ?_⟩
  refine Subscript_ (thn (he.run pins s σ H _ I h) fun v s1 ⟨x, H1, I1, r1, q1⟩ => ?_)
  obtain ⟨a, xs, rfl, hx, q⟩ := q1
  cases r1
  have step : PO X (some (.UnaryOp .USub (.Constant (.int 1) k p1) p2)) (tPart (tUn (rU fun i => .int (-i)) (tC (.int 1)))) := po_some (pe_un un_neg pe_int)
  refine wpAny_Slice (thn (po_none.run pins s1 σ H1 (fun o H2 => o = none ∧ H2 = H1) I1 ⟨rfl, rfl⟩) fun vl s2 hl => ?_)
  obtain ⟨l, H2, I2, pl, el, e2⟩ := hl
  subst el e2
  refine thn (po_none.run pins s2 σ H2 (fun o H3 => o = none ∧ H3 = H2) I2 ⟨rfl, rfl⟩) fun vu s3 hu => ?_
  obtain ⟨u, H3, I3, pu, eu, e3⟩ := hu
  subst eu e3
  refine thn (step.run pins s3 σ H3 (fun o H4 => o = some (-1) ∧ H4 = H3) I3 ⟨1, rfl, -1, rfl, rfl, rfl⟩) fun vs s4 ho => ?_
  obtain ⟨o, H4, I4, ps, eo, e4⟩ := ho
  subst eo e4
  cases pl
  cases pu
  have I5 : Inv X pins σ H4 { s4 with heap := s4.heap.push { cls := .type "slice", data := .fields #[.none, .none, vs] } } := I4.kept (t' := s4.toks) fun b ob z => Heap.get?_push_of_some _ z
  obtain ⟨its, r, ht, hz⟩ := I5.tuple hx
  have len := r.length
  show wpAny (model X.prog X.w) X.A (subscriptTail e (.Slice none none (some (.UnaryOp .USub (.Constant (.int 1) k p1) p2)) p3) (.ref a) (.ref s4.heap.objs.size)) (EP X pins σ Q) X.xe
    { s4 with heap := s4.heap.push { cls := .type "slice", data := .fields #[.none, .none, vs] } }
  refine tail_any (ops := [.ref a, .ref s4.heap.objs.size]) ht.typeIs PyProof.Rows.slot_tuple_getitem.lookup ?_ (by with_unfolding_all rfl)
  refine getItem_back ht (Heap.IsSliceOf.new _ .none .none vs) ps ?_ (by rw [List.size_toArray]; omega)
  refine ⟨.ref _, _, I5.laid (t' := s4.toks) (o := .tup xs.reverse) (fun b ob z => Heap.get?_push_of_some _ z) (Nat.le_refl _) ?_, rfl, q _ (I5.hok.fresh (Nat.le_refl _))⟩
  exact ⟨by rw [List.length_reverse]; exact hz, _, r.reverse, IsTup.new _ _⟩
end VK
namespace VK
open PySem PySem.Spec PyProof.Rows L2
def rLenK (K : PySem.W.Frag) : List V → Hp → VK → Prop := fun xs H Q => ∃ (p : Addr) (ys : List V), xs = [V.ref p] ∧ (SqL K H p ys ∨ SqT K H p ys) ∧ Q (V.int (ys.length : Nat)) H
/-! ### xs != [], whatever stands in xs -/
def rNeE (K : PySem.W.Frag) : R2 := fun x y H Q => ∃ (a b : Addr) (xs : List V), x = .ref a ∧ y = .ref b ∧ SqL K H a xs ∧ SqL K H b [] ∧ Q (.bl (!xs.isEmpty)) H
theorem op_neE {X : Cx} (hu : X.A.units + 64 < cLine) : OpR X (compareOp .NotEq) (rNeE X.K) := by
  intro pins s σ H x y v u Q I rx ry h
  obtain ⟨a, b, xs, rfl, rfl, ha, hb, q⟩ := h
  cases xs with
  | nil => exact op_neD hu pins s σ H _ _ v u Q I rx ry ⟨.list [], .list [], .lst ha .nil, .lst hb .nil, rfl, rfl, q⟩
  | cons x r =>
    cases rx
    cases ry
    obtain ⟨its, rv, ha', _⟩ := I.list ha
    obtain ⟨its2, rv2, hb', _⟩ := I.list hb
    have l1 := rv.length
    have l2 := rv2.length
    refine SeqAt.RcNeAt.lists_lengths ha'.isList hb'.isList ?_ (by omega) X.prog X.w X.xe _ ⟨.bl true, H, I, rfl, q⟩
    rw [List.size_toArray, List.size_toArray, ← l1, ← l2]
    simp
end VK
namespace My
open PySem L2 VK
def top (i : Nat) : Stmt := PySem.Challenge.pw_turnweights_k11_levels_that_follow_memor.main.body.getD i (.Pass ⟨0, 0, 0, 0⟩)
abbrev sis_integer : Stmt := top 5
abbrev nis_integer : List Str := ["value"]
theorem scis_integer : FnScope nis_integer ["value"] (defScope sis_integer) := ⟨rfl, rfl, rfl, by decide +kernel, rfl, by decide +kernel, by decide +kernel⟩
abbrev smemory_of : Stmt := top 7
abbrev nmemory_of : List Str := ["top", "history"]
theorem scmemory_of : FnScope nmemory_of ["top", "history"] (defScope smemory_of) := ⟨rfl, rfl, rfl, by decide +kernel, rfl, by decide +kernel, by decide +kernel⟩
abbrev smemory_after : Stmt := top 8
abbrev nmemory_after : List Str := ["top", "memory", "levels"]
theorem scmemory_after : FnScope nmemory_after ["top", "memory", "levels"] (defScope smemory_after) := ⟨rfl, rfl, rfl, by decide +kernel, rfl, by decide +kernel, by decide +kernel⟩
abbrev sswitches_on : Stmt := top 9
abbrev nswitches_on : List Str := ["top", "memory", "heights", "switch"]
theorem scswitches_on : FnScope nswitches_on ["top", "memory"] (defScope sswitches_on) := ⟨rfl, rfl, rfl, by decide +kernel, rfl, by decide +kernel, by decide +kernel⟩
abbrev sswitches : Stmt := top 10
abbrev nswitches : List Str := ["top", "up", "down"]
theorem scswitches : FnScope nswitches ["top"] (defScope sswitches) := ⟨rfl, rfl, rfl, by decide +kernel, rfl, by decide +kernel, by decide +kernel⟩
abbrev sis_level : Stmt := top 11
abbrev nis_level : List Str := ["top", "value"]
theorem scis_level : FnScope nis_level ["top", "value"] (defScope sis_level) := ⟨rfl, rfl, rfl, by decide +kernel, rfl, by decide +kernel, by decide +kernel⟩
abbrev sis_memory : Stmt := top 12
abbrev nis_memory : List Str := ["top", "value", "entry"]
theorem scis_memory : FnScope nis_memory ["top", "value"] (defScope sis_memory) := ⟨rfl, rfl, rfl, by decide +kernel, rfl, by decide +kernel, by decide +kernel⟩
abbrev scheck_levels : Stmt := top 13
abbrev ncheck_levels : List Str := ["top", "levels", "index", "level"]
theorem sccheck_levels : FnScope ncheck_levels ["top", "levels"] (defScope scheck_levels) := ⟨rfl, rfl, rfl, by decide +kernel, rfl, by decide +kernel, by decide +kernel⟩
abbrev scheck_memory : Stmt := top 14
abbrev ncheck_memory : List Str := ["top", "memory"]
theorem sccheck_memory : FnScope ncheck_memory ["top", "memory"] (defScope scheck_memory) := ⟨rfl, rfl, rfl, by decide +kernel, rfl, by decide +kernel, by decide +kernel⟩
abbrev smoved : Stmt := top 15
abbrev nmoved : List Str := ["memory", "level", "place", "entry", "is_wiped"]
theorem scmoved : FnScope nmoved ["memory", "level"] (defScope smoved) := ⟨rfl, rfl, rfl, by decide +kernel, rfl, by decide +kernel, by decide +kernel⟩
abbrev s_followed : Stmt := top 16
abbrev n_followed : List Str := ["memory", "levels", "level"]
theorem sc_followed : FnScope n_followed ["memory", "levels"] (defScope s_followed) := ⟨rfl, rfl, rfl, by decide +kernel, rfl, by decide +kernel, by decide +kernel⟩
abbrev s_heights : Stmt := top 17
abbrev n_heights : List Str := ["top", "memory", "down"]
theorem sc_heights : FnScope n_heights ["top", "memory"] (defScope s_heights) := ⟨rfl, rfl, rfl, by decide +kernel, rfl, by decide +kernel, by decide +kernel⟩
abbrev s_height : Stmt := top 18
abbrev n_height : List Str := ["memory", "down", "height", "level"]
theorem sc_height : FnScope n_height ["memory", "down"] (defScope s_height) := ⟨rfl, rfl, rfl, by decide +kernel, rfl, by decide +kernel, by decide +kernel⟩
abbrev s_law_feed : Stmt := top 20
abbrev n_law_feed : List Str := ["script", "k", "seed", "digits"]
theorem sc_law_feed : FnScope n_law_feed ["script", "k"] (defScope s_law_feed) := ⟨rfl, rfl, rfl, by decide +kernel, rfl, by decide +kernel, by decide +kernel⟩
abbrev s_law_take : Stmt := top 21
abbrev n_law_take : List Str := ["feed", "size", "digit"]
theorem sc_law_take : FnScope n_law_take ["feed", "size"] (defScope s_law_take) := ⟨rfl, rfl, rfl, by decide +kernel, rfl, by decide +kernel, by decide +kernel⟩
abbrev s_law_pick : Stmt := top 22
abbrev n_law_pick : List Str := ["feed", "things"]
theorem sc_law_pick : FnScope n_law_pick ["feed", "things"] (defScope s_law_pick) := ⟨rfl, rfl, rfl, by decide +kernel, rfl, by decide +kernel, by decide +kernel⟩
abbrev s_law_history : Stmt := top 23
abbrev n_law_history : List Str := ["feed", "top", "most", "turn"]
theorem sc_law_history : FnScope n_law_history ["feed", "top", "most"] (defScope s_law_history) := ⟨rfl, rfl, rfl, by decide +kernel, rfl, by decide +kernel, by decide +kernel⟩
abbrev s_law_memories : Stmt := top 24
abbrev n_law_memories : List Str := ["top", "lots", "found", "level", "lot", "left", "entries", "many"]
theorem sc_law_memories : FnScope n_law_memories ["top"] (defScope s_law_memories) := ⟨rfl, rfl, rfl, by decide +kernel, rfl, by decide +kernel, by decide +kernel⟩
abbrev s_law_memory : Stmt := top 25
abbrev n_law_memory : List Str := ["levels", "found", "left", "is_high", "level", "entry"]
theorem sc_law_memory : FnScope n_law_memory ["levels"] (defScope s_law_memory) := ⟨rfl, rfl, rfl, by decide +kernel, rfl, by decide +kernel, by decide +kernel⟩
abbrev s_law_is_level : Stmt := top 26
abbrev n_law_is_level : List Str := ["top", "value"]
theorem sc_law_is_level : FnScope n_law_is_level ["top", "value"] (defScope s_law_is_level) := ⟨rfl, rfl, rfl, by decide +kernel, rfl, by decide +kernel, by decide +kernel⟩
abbrev s_law_bad_level : Stmt := top 27
abbrev n_law_bad_level : List Str := ["top", "value", "index", "level"]
theorem sc_law_bad_level : FnScope n_law_bad_level ["top", "value"] (defScope s_law_bad_level) := ⟨rfl, rfl, rfl, by decide +kernel, rfl, by decide +kernel, by decide +kernel⟩
abbrev s_law_is_memory : Stmt := top 28
abbrev n_law_is_memory : List Str := ["top", "value", "level"]
theorem sc_law_is_memory : FnScope n_law_is_memory ["top", "value"] (defScope s_law_is_memory) := ⟨rfl, rfl, rfl, by decide +kernel, rfl, by decide +kernel, by decide +kernel⟩
abbrev s_law_asked : Stmt := top 29
abbrev n_law_asked : List Str := ["way", "top", "memory", "levels", "found", "error"]
theorem sc_law_asked : FnScope n_law_asked ["way", "top", "memory", "levels"] (defScope s_law_asked) := ⟨rfl, rfl, rfl, by decide +kernel, rfl, by decide +kernel, by decide +kernel⟩
abbrev s_law_odd_memory : Stmt := top 30
abbrev n_law_odd_memory : List Str := ["feed", "top", "memory", "way", "odd"]
theorem sc_law_odd_memory : FnScope n_law_odd_memory ["feed", "top"] (defScope s_law_odd_memory) := ⟨rfl, rfl, rfl, by decide +kernel, rfl, by decide +kernel, by decide +kernel⟩
abbrev s_law_odd_levels : Stmt := top 31
abbrev n_law_odd_levels : List Str := ["feed", "top", "levels", "at", "odd"]
theorem sc_law_odd_levels : FnScope n_law_odd_levels ["feed", "top", "levels"] (defScope s_law_odd_levels) := ⟨rfl, rfl, rfl, by decide +kernel, rfl, by decide +kernel, by decide +kernel⟩
abbrev slaw : Stmt := top 32
abbrev nlaw : List Str := ["script", "deep", "turn", "k", "feed", "top", "memory", "levels", "shown", "dues", "bad", "way", "found"]
theorem sclaw : FnScope nlaw ["script"] (defScope slaw) := ⟨rfl, rfl, rfl, by decide +kernel, rfl, by decide +kernel, by decide +kernel⟩

/-- what the top has left -/
structure Txt (K : PySem.W.Frag) (mg : Str → Option Value) (C : Addr) : Prop where
  len_ : mg "len" = none
  int_ : mg "int" = none
  bool_ : mg "bool" = none
  tuple_ : mg "tuple" = none
  list_ : mg "list" = none
  abs_ : mg "abs" = none
  max_ : mg "max" = none
  min_ : mg "min" = none
  range_ : mg "range" = none
  zip_ : mg "zip" = none
  enumerate_ : mg "enumerate" = none
  isinstance_ : mg "isinstance" = none
  sorted_ : mg "sorted" = none
  all_ : mg "all" = none
  repr_ : mg "repr" = none
  gC : mg "BadMemory" = some (.ref C)
  xC : PySem.W.excIn K C [.type "ValueError", .type "Exception", .type "BaseException", .type "object"] "ValueError.__new__" = true
  kC : PySem.W.keepIn K (.ref C) = true
  bC : PySem.W.subIn K (.ref C) (.type "BaseException") = some true
  tC : PySem.W.typeIn K (.ref C) = some (.type "type")
  eC : PySem.W.exmOne K (.ref C) (.ref C) = some true
theorem Txt.BadMemory_pmk {X : Cx} {C : Addr} {p pos : Pos} (T : Txt X.K X.mg C) (hg : Gl X "BadMemory" := by rfl) : PMk X (.Call (.Name "BadMemory" p) [] [] pos) (fun _ H Q => Q (.ref C) none H) :=
  pmk_own0 PySem.F.excBase_ValueError T.xC T.gC T.kC (raises_own T.bC T.tC) hg
theorem Txt.BadMemory_names {X : Cx} {C : Addr} (T : Txt X.K X.mg C) (hg : Gl X "BadMemory" := by rfl) : Names X "BadMemory" (.ref C) := ⟨hg, by decide, .inl T.gC⟩
/-- .. of BadLevels -/
structure TxtL (K : PySem.W.Frag) (mg : Str → Option Value) (D : Addr) : Prop where
  gL : mg "BadLevels" = some (.ref D)
  eL : PySem.W.exmOne K (.ref D) (.ref D) = some true
  xBadLevels : XfC K D
  noBadLevels : PySem.W.findIn K (.ref D) "index" = some none
theorem TxtL.BadLevels_names {X : Cx} {D : Addr} (T : TxtL X.K X.mg D) (hg : Gl X "BadLevels" := by rfl) : Names X "BadLevels" (.ref D) := ⟨hg, by decide, .inl T.gL⟩
abbrev sinit : Stmt := inClass (top 2) 0
theorem scinit : FnScope ["self", "index"] ["self", "index"] (defScope sinit) := ⟨rfl, rfl, rfl, by decide +kernel, rfl, by decide +kernel, by decide +kernel⟩
theorem own_mk {P : Program} {w : World} {K : PySem.W.Frag} {mg : Str → Option Value} {base : Heap} {f D : Addr} {fd : FuncData} (F : Fun K "__init__" "BadLevels.__init__" sinit f fd) (b : Binds K fd ["self", "index"] []) (T : OexC K D) (no : PySem.W.findIn K (.ref D) "index" = some none)
    (iC : PySem.W.findIn K (.ref D) "__init__" = some (some (.ref f))) (tI : PySem.W.typeIn K (.ref f) = some (.type "function")) (gm : mg "BadLevels" = some (.ref D)) : OwnIx P w K mg base "BadLevels" D :=
  ⟨⟨f, fd, T, iC, tI, own_index F scinit ⟨_, _, _, _, rfl⟩ (by decide +kernel) (by decide +kernel) T no, b⟩, gm⟩
/-! ### readings answered step by step -/
local macro_rules | `(tactic| walk_at "hp") => `(tactic| first
  | assumption | exact upd_same | (refine upd_new (by assumption) ?_; walk_at "hp") | (refine upd_old (by assumption) ?_; walk_at "hp"))
local macro_rules | `(tactic| walk_at "sq") => `(tactic| first
  | assumption | (apply SqL.of; walk_at "hp") | (apply SqT.of; walk_at "hp"))
local macro_rules | `(tactic| walk_at "side") => `(tactic| first
  | omega | (show (0 : Int) < _; omega) | exact .inr ⟨by decide, by decide⟩ | exact .inl ⟨by decide, by decide⟩ | exact .inl ⟨by omega, by omega⟩ | exact .inr ⟨by omega, by omega⟩ | exact ⟨by decide, by decide⟩ | exact ⟨by omega, by omega⟩
  | (refine ⟨by decide, by decide, ?_⟩; decide))
local macro_rules | `(tactic| walk_at "size") => `(tactic| (refine small ?_; first | omega | decide | (simp only [List.length_cons, List.length_nil, List.length_append, List.length_map] at *; omega)))
local macro_rules | `(tactic| walk_at "v") => `(tactic| first
  | refine ⟨_, rfl, ?_⟩
  | (apply v_I; (walk_at "side"))
  | refine ⟨_, _, rfl, rfl, ?_⟩
  | (apply v_ixL; (walk_at "sq"); rfl)
  | (apply v_ixT; (walk_at "sq"); rfl)
  | (apply v_setL; (walk_at "hp"); rfl)
  | (apply v_lenL; (walk_at "sq"))
  | (apply v_lenT; (walk_at "sq"))
  | refine .inl ⟨_, rfl, ?_⟩
  | refine ⟨rfl, _, rfl, ?_⟩
  | refine ⟨_, _, rfl, ?_⟩)
local macro_rules | `(tactic| walk_at "vs") => `(tactic| repeat (walk_at "v"))

section
variable {P : Program} {w : World} {K : PySem.W.Frag} {mg : Str → Option Value} {base : Heap} {C : Addr}
/-! ### is_integer, is_level -/
def isI : V → Bool
  | .int _ => true
  | _ => false
theorem isI_lvl {x : V} (h : isI x = false) (top : Nat) : lvl top x = false := by
  cases x with
  | int i => cases h
  | _ => rfl
theorem isI_not {K : PySem.W.Frag} {H : Hp} {x : V} {n : String} (h : TyX K H x (.type n)) (hn : n ≠ "int") : isI x = false := by
  cases x with
  | int i =>
    have := int_ty h
    simp at this
    exact absurd this hn
  | _ => rfl
def spIsInteger (K : PySem.W.Frag) : Sp := fun vs H Q _ => ∃ (x : V) (n : String), vs = [x] ∧ OkT K H x n ∧ Q (.bl (isI x)) H
theorem ok_is_integer {f : Addr} {fd : FuncData} (F : Fun K "is_integer" "is_integer" sis_integer f fd) (T : Txt K mg C) : FnOk P w K mg base CX0 1 f fd ["value"] (spIsInteger K) := by
  have nd := scis_integer.nd
  refine F.ok scis_integer (fun vs H Q E h => ?_) (fun cdv A outer s H vs Q E hr h => ?_)
  · obtain ⟨x, n, rfl, _⟩ := h
    rfl
  · obtain ⟨x, n, rfl, ok, k⟩ := h
    refine ⟨_, (pss_one (ps_ret (pe_and (pe_callB call_isi (by rfl) T.isinstance_ (by decide +kernel) (pa_cons (pv 0) (pa_cons (pe_bltn (v := .ty "int") (by rfl) T.int_ (by decide +kernel) rfl) pa_nil))) (pe_one (pe_not (pe_callB call_isi (by rfl) T.isinstance_ (by decide +kernel) (pa_cons (pv 0) (pa_cons (pe_bltn (v := .ty "bool") (by rfl) T.bool_ (by decide +kernel) rfl) pa_nil)))))))), ?_⟩
    refine ⟨_, rfl, ?_⟩
    apply v_isi ok (kit_int ok.kd)
    refine ⟨_, rfl, ?_⟩
    refine v_ifb (fun e1 => ?_) (fun e1 => ?_)
    · refine ⟨_, rfl, ?_⟩
      apply v_isi ok (kit_bool ok.kd)
      refine ⟨_, rfl, ?_⟩
      by_cases hn : n = "int"
      · subst hn
        obtain ⟨i, rfl⟩ := int_of ok.ty
        exact k
      · have e2 : n = "bool" := by
          simp only [Bool.or_eq_true, beq_iff_eq] at e1
          rcases e1 with e1 | e1
          · exact absurd e1 hn
          · exact e1
        subst e2
        rw [isI_not ok.ty hn] at k
        exact k
    · have hn : n ≠ "int" := by
        rintro rfl
        simp at e1
      show Q (.bl false) H
      rw [← isI_not ok.ty hn]
      exact k
def spIsLevel (K : PySem.W.Frag) : Sp := fun vs H Q _ => ∃ (top : Nat) (x : V) (n : String), vs = [vn top, x] ∧ OkT K H x n ∧ Q (.bl (lvl top x)) H
theorem ok_is_level {f : Addr} {fd : FuncData} (F : Fun K "is_level" "is_level" sis_level f fd) (T : Txt K mg C) (Dis_integer : Def P w K mg base CX0 1 "is_integer" ["value"] (spIsInteger K)) : FnOk P w K mg base CX0 2 f fd ["top", "value"] (spIsLevel K) := by
  have nd := scis_level.nd
  refine F.ok scis_level (fun vs H Q E h => ?_) (fun cdv A outer s H vs Q E hr h => ?_)
  · obtain ⟨top, x, n, rfl, _⟩ := h
    rfl
  · obtain ⟨top, x, n, rfl, ok, k⟩ := h
    refine ⟨_, (pss_one (ps_ret (pe_and (pe_callD Dis_integer (hr.mono (by decide)) rfl pass0 (pa_cons (pv 1) pa_nil)) (pe_one (pe_chain op_le op_le pe_int (pv 1) (pv 0)))))), ?_⟩
    refine ⟨_, rfl, x, n, rfl, ok, _, rfl, ?_⟩
    refine v_ifb (fun e1 => ?_) (fun e1 => ?_)
    · obtain ⟨i, rfl⟩ : ∃ i, x = .int i := by
        cases x with
        | int i => exact ⟨i, rfl⟩
        | _ => cases e1
      refine ⟨_, rfl, _, _, rfl, rfl, _, rfl, ?_⟩
      refine v_ifd (fun hc => ?_) (fun hc => ?_)
      · refine ⟨_, rfl, _, _, rfl, rfl, ?_⟩
        have e : decide (i ≤ (top : Int)) = lvl top (.int i) := by
          unfold lvl
          rw [Bool.eq_iff_iff]
          simp only [decide_eq_true_eq]
          omega
        show Q (.bl (decide (i ≤ (top : Int)))) H
        rw [e]
        exact k
      · have e : false = lvl top (.int i) := by
          unfold lvl
          rw [Bool.eq_iff_iff]
          simp only [decide_eq_true_eq]
          constructor
          · intro z; cases z
          · intro z; exact absurd z.1 hc
        show Q (.bl false) H
        rw [e]
        exact k
    · show Q (.bl false) H
      rw [← isI_lvl e1 top]
      exact k
/-! ### moved -/
def spMoved (K : PySem.W.Frag) : Sp := fun vs H Q _ => ∃ (a : Addr) (m : List Nat) (l : Nat), vs = [.ref a, vn l] ∧ SqT K H a (vns m) ∧ m.length ≤ 50000 ∧
  ∀ p H', Same H H' → SqT K H' p (vns (VM.moved m l)) → Q (.ref p) H'
theorem truth_mod (i : Nat) : ((((i : Nat) : Int) % 2) != 0) = decide (i % 2 = 1) := by
  rw [Bool.eq_iff_iff]
  simp only [bne_iff_ne, ne_eq, decide_eq_true_eq]
  omega
theorem okmoved {f : Addr} {fd : FuncData} (F : Fun K "moved" "moved" smoved f fd) (T : Txt K mg C) : FnOk P w K mg base CX0 1 f fd ["memory", "level"] (spMoved K) := by
  have nd := scmoved.nd
  refine F.ok scmoved (fun vs H Q E h => ?_) (fun cdv A outer s H vs Q E hr h => ?_)
  · obtain ⟨a, m, l, rfl, _⟩ := h
    rfl
  · obtain ⟨a, m, l, rfl, ha, hm, k⟩ := h
    refine ⟨_, (pss_cons (ps_if (pt_cmpR op_eq (pv 1) pe_int (nomark _)) (pss_one (ps_ret (pe_tup pa_nil))) pss_nil) (pss_cons (ps_for PassesOwn.never rfl (pi_enumT (by rfl) T.enumerate_ (pa_cons (pv 0) pa_nil)) (pg_tup rfl (pgs_cons (pg_name (i := 2) nd rfl (Or.inl rfl)) (pgs_cons (pg_name (i := 3) nd rfl (Or.inl rfl)) pgs_nil))) (pss_cons (ps_set (i := 4) nd rfl (Or.inl rfl) (pe_ifExp (pt_truth (pe_op op_mod (pv 2) pe_int) (by intro _; rfl)) (pe_cmpR op_ge (pv 3) (pv 1) (nomark _)) (pe_cmpR op_le (pv 3) (pv 1) (nomark _)))) (pss_one (ps_if (pt_val (pv 4)) (pss_one (ps_ret (pe_op op_catA (pe_slice sl_tupA (pv 0) po_none (po_some (pv 2))) (pe_tup (pa_cons (pv 1) pa_nil))))) pss_nil)))) (pss_one (ps_ret (pe_op op_catA (pv 0) (pe_tup (pa_cons (pv 1) pa_nil))))))), ?_⟩
    refine ⟨_, rfl, rfl, _, rfl, ?_⟩
    refine v_ifd (fun hc => ?_) (fun hc => ?_)
    · refine ⟨by decide, fun p hp => ?_⟩
      refine k p _ (same_new hp) ?_
      have e : l = 0 := by
        have h0 : (vn l) = V.int 0 := hc
        unfold vn at h0
        injection h0 with h1
        omega
      subst e
      exact SqT.of upd_same
    · have hl : l ≠ 0 := by
        rintro rfl
        exact hc rfl
      refine ⟨_, rfl, a, vns m, rfl, ha, for_enumT (K := K) (a := a) (xs := vns m) (fun i σ H' => (∃ v2 v3 v4, σ = [some (.ref a), some (vn l), v2, v3, v4]) ∧ Same H H' ∧ ∀ j x, j < i → m[j]? = some x → VM.wiped (0 + j) x l = false)
        ⟨⟨_, _, _, rfl⟩, Same.refl _, fun j x hj => by omega⟩ (fun i σ H' ⟨_, e, _⟩ => sqT_same e ha) ?_ ?_⟩
      · rintro i x Tt σ H' hx ⟨⟨v2, v3, v4, rfl⟩, e, hn⟩ hT
        obtain ⟨y, hy, rfl⟩ : ∃ y, m[i]? = some y ∧ x = vn y := by
          rw [List.getElem?_map] at hx
          cases q : m[i]? with
          | none => rw [q] at hx; cases hx
          | some y => rw [q] at hx; exact ⟨y, rfl, (Option.some.inj hx).symm⟩
        refine ⟨Tt, _, rfl, SqT.of upd_same, rfl, _, _, rfl, _, _, rfl, rfl, ?_⟩
        have e1 : Same H (upd H' Tt (.tup [.int (i : Nat), vn y])) := e.trans (same_new hT)
        -- is_wiped
        refine ⟨_, rfl, _, _, rfl, rfl, (by show (0 : Int) < 2; decide), _, rfl, ?_⟩
        have hlen : i < m.length := (List.getElem?_eq_some_iff.mp hy).1
        have hcut : cutV (vns m) none (some ((i : Nat) : Int)) = vns (m.take i) := by
          unfold cutV
          rw [HT.sIx_none, HT.sIx_nat, List.length_map, Nat.min_eq_left (by omega)]
          simp [vns, List.map_take]
        have fin : ∀ (H2 : Hp) (Q' : VK), Same H H2 → SqT K H2 a (vns m) → VM.wiped (0 + i) y l = true → (∀ p H', Same H H' → SqT K H' p (vns (VM.moved m l)) → Q' (.ref p) H') →
            tOp (rCatA K) (tSl (rSlA K) (tVar 0) tNoPart (tPart (tVar 2))) (tTup (tCons (tVar 1) tNil)) [some (.ref a), some (vn l), some (.int (i : Nat)), some (vn y), some (.bl true)] H2 Q' := by
          intro H2 Q' s2 a2 hw k2
          have em : VM.moved m l = m.take i ++ [l] := by
            unfold VM.moved
            rw [if_neg hl]
            exact VM.cut_at m 0 i y l hn hy hw
          refine ⟨_, rfl, _, rfl, _, rfl, ?_⟩
          apply v_slT a2
          refine ⟨fun hh => ?_, fun _ p hp => ?_⟩
          · have := hh.2
            rw [HT.sIx_nat, List.length_map, Nat.min_eq_left (by omega)] at this
            omega
          rw [hcut]
          refine ⟨_, rfl, (show 1 ≤ sizeLine by decide), fun q hq => ?_⟩
          apply v_catT (SqT.of (upd_new hq upd_same)) (SqT.of upd_same)
          have s3 := (s2.trans (same_new (o' := .tup (vns (m.take i))) hp)).trans (same_new (o' := .tup [vn l]) hq)
          refine ⟨?_, fun e0 => k2 q _ s3 ?_, fun _ e0 => (by cases e0), fun _ _ r hr => k2 r _ (s3.trans (same_new hr)) ?_⟩
          · refine small ?_
            simp only [List.length_map, List.length_take, List.length_cons, List.length_nil]
            omega
          · have : m.take i = [] := by simpa [vns] using e0
            rw [em, this]
            exact SqT.of upd_same
          · rw [em]
            refine SqT.of (upd_same.trans ?_)
            simp [vns]
        have s1 : SqT K (upd H' Tt (.tup [.int (i : Nat), vn y])) a (vns m) := sqT_same e1 ha
        have step : VM.wiped (0 + i) y l = false → ∀ j x, j < i + 1 → m[j]? = some x → VM.wiped (0 + j) x l = false := by
          intro hw j x hj hjx
          by_cases c : j < i
          · exact hn j x c hjx
          · have : j = i := by omega
            subst this
            rw [hy] at hjx
            cases hjx
            exact hw
        refine v_ifb (fun ep => ?_) (fun ep => ?_)
        · have ep' : i % 2 = 1 := by
            rw [truth_mod] at ep
            simpa using ep
          refine ⟨_, rfl, _, rfl, _, _, rfl, rfl, _, rfl, _, rfl, ?_⟩
          refine v_ifd (fun hw => ?_) (fun hw => ?_)
          · have hw' : VM.wiped (0 + i) y l = true := by
              unfold VM.wiped
              rw [Nat.zero_add, if_pos ep']
              exact decide_eq_true (by omega)
            have q := fin _ Q e1 s1 hw' k
            show tOp (rCatA K) (tSl (rSlA K) (tVar 0) tNoPart (tPart (tVar 2))) (tTup (tCons (tVar 1) tNil)) [some (.ref a), some (vn l), some (.int (i : Nat)), some (vn y), some (.bl (decide ((l : Int) ≤ (y : Int))))] _ Q
            rw [decide_eq_true hw]
            exact q
          · have hw' : VM.wiped (0 + i) y l = false := by
              unfold VM.wiped
              rw [Nat.zero_add, if_pos ep']
              exact decide_eq_false (by omega)
            exact ⟨⟨_, _, _, rfl⟩, e1, step hw'⟩
        · have ep' : ¬ i % 2 = 1 := by
            rw [truth_mod] at ep
            simpa using ep
          refine ⟨_, rfl, _, rfl, _, _, rfl, rfl, _, rfl, _, rfl, ?_⟩
          refine v_ifd (fun hw => ?_) (fun hw => ?_)
          · have hw' : VM.wiped (0 + i) y l = true := by
              unfold VM.wiped
              rw [Nat.zero_add, if_neg ep']
              exact decide_eq_true (by omega)
            have q := fin _ Q e1 s1 hw' k
            show tOp (rCatA K) (tSl (rSlA K) (tVar 0) tNoPart (tPart (tVar 2))) (tTup (tCons (tVar 1) tNil)) [some (.ref a), some (vn l), some (.int (i : Nat)), some (vn y), some (.bl (decide ((y : Int) ≤ (l : Int))))] _ Q
            rw [decide_eq_true hw]
            exact q
          · have hw' : VM.wiped (0 + i) y l = false := by
              unfold VM.wiped
              rw [Nat.zero_add, if_neg ep']
              exact decide_eq_false (by omega)
            exact ⟨⟨_, _, _, rfl⟩, e1, step hw'⟩
      · rintro σ H' ⟨⟨v2, v3, v4, rfl⟩, e, hn⟩
        have em : VM.moved m l = m ++ [l] := by
          unfold VM.moved
          rw [if_neg hl]
          exact VM.cut_none m 0 l fun j x hx => hn j x (by rw [List.length_map]; exact (List.getElem?_eq_some_iff.mp hx).1) hx
        refine ⟨_, rfl, _, rfl, (show 1 ≤ sizeLine by decide), fun q hq => ?_⟩
        have s3 := e.trans (same_new (o' := .tup [vn l]) hq)
        apply v_catT (sqT_same s3 ha) (SqT.of upd_same)
        refine ⟨?_, fun e0 => k q _ s3 ?_, fun _ e0 => (by cases e0), fun _ _ r hr => k r _ (s3.trans (same_new hr)) ?_⟩
        · refine small ?_
          simp only [List.length_map, List.length_cons, List.length_nil]
          omega
        · have : m = [] := by simpa [vns] using e0
          rw [em, this]
          exact SqT.of upd_same
        · rw [em]
          refine SqT.of (upd_same.trans ?_)
          simp [vns]
end

section
variable {P : Program} {w : World} {K : PySem.W.Frag} {mg : Str → Option Value} {base : Heap} {C : Addr}
theorem vns_get {ns : List Nat} {i : Nat} {x : V} (h : (vns ns)[i]? = some x) : ∃ n, ns[i]? = some n ∧ x = vn n := by
  rw [List.getElem?_map] at h
  cases q : ns[i]? with
  | none => rw [q] at h; cases h
  | some n => rw [q] at h; exact ⟨n, rfl, (Option.some.inj h).symm⟩
/-! ### _followed -/
def spFollowed (K : PySem.W.Frag) : Sp := fun vs H Q _ => ∃ (a b : Addr) (m ls : List Nat), vs = [.ref a, .ref b] ∧ SqT K H a (vns m) ∧ (SqL K H b (vns ls) ∨ SqT K H b (vns ls)) ∧ m.length + ls.length ≤ 50000 ∧
  ∀ p H', Same H H' → SqT K H' p (vns (VM.followed m ls)) → Q (.ref p) H'
theorem ok_followed {f : Addr} {fd : FuncData} (F : Fun K "_followed" "_followed" s_followed f fd) (T : Txt K mg C) (Dmoved : Def P w K mg base CX0 1 "moved" ["memory", "level"] (spMoved K)) : FnOk P w K mg base CX0 2 f fd ["memory", "levels"] (spFollowed K) := by
  have nd := sc_followed.nd
  refine F.ok sc_followed (fun vs H Q E h => ?_) (fun cdv A outer s H vs Q E hr h => ?_)
  · obtain ⟨a, b, m, ls, rfl, _⟩ := h
    rfl
  · obtain ⟨a, b, m, ls, rfl, ha, hb, hm, k⟩ := h
    refine ⟨_, (pss_cons (ps_for PassesOwn.never rfl (pi_or (pi_list (pv 1)) (pi_tup (pv 1))) (pg_name (i := 2) nd rfl (Or.inl rfl)) (pss_one (ps_set (i := 0) nd rfl (Or.inl rfl) (pe_callD Dmoved (hr.mono (by decide)) rfl pass0 (pa_cons (pv 0) (pa_cons (pv 2) pa_nil)))))) (pss_one (ps_ret (pv 0)))), ?_⟩
    have turn : ∀ (i : Nat) (x : V) (σ : L2.St) (H' : Hp) (D : Ends), (vns ls)[i]? = some x → (∃ p v, σ = [some (.ref p), some (.ref b), v] ∧ SqT K H' p (vns (VM.followed m (ls.take i)))) ∧ Same H H' →
        (∀ σ H', (∃ p v, σ = [some (.ref p), some (.ref b), v] ∧ SqT K H' p (vns (VM.followed m (ls.take (i + 1))))) ∧ Same H H' → D.nx σ H') →
        tAsg (tCall (spMoved K) [] E0 (tCons (tVar 0) (tCons (tVar 2) tNil))) (gName 0) D (σ.set 2 (some x)) H' := by
      rintro i x σ H' D hx ⟨⟨p, v, rfl, hp⟩, e⟩ kk
      obtain ⟨l, hl, rfl⟩ := vns_get hx
      refine ⟨_, rfl, _, rfl, p, _, l, rfl, hp, ?_, fun q H2 e2 hq => ?_⟩
      · have h1 := VM.followed_len (ls.take i) m
        have h2 : (ls.take i).length ≤ ls.length := by
          rw [List.length_take]
          omega
        omega
      · refine kk _ _ ⟨⟨q, _, rfl, ?_⟩, e.trans e2⟩
        rw [VM.followed_take hl]
        exact hq
    rcases hb with hb | hb
    · refine .inl ⟨_, rfl, b, rfl, ⟨_, hb⟩, for_list (K := K) (a := b) (xs := vns ls) (fun i σ H' => (∃ p v, σ = [some (.ref p), some (.ref b), v] ∧ SqT K H' p (vns (VM.followed m (ls.take i)))) ∧ Same H H')
        ⟨⟨a, _, rfl, ha⟩, Same.refl _⟩ (fun i σ H' _ h => h.2.seq hb) (fun i x σ H' hx h => turn i x σ H' _ hx h fun _ _ q => q) ?_⟩
      rintro σ H' ⟨⟨p, v, rfl, hp⟩, e⟩
      rw [List.length_map, List.take_length] at hp
      exact ⟨_, rfl, k p _ e hp⟩
    · refine .inr ⟨_, rfl, b, rfl, ⟨_, hb⟩, for_tup (K := K) (a := b) (xs := vns ls) (fun i σ H' => (∃ p v, σ = [some (.ref p), some (.ref b), v] ∧ SqT K H' p (vns (VM.followed m (ls.take i)))) ∧ Same H H')
        ⟨⟨a, _, rfl, ha⟩, Same.refl _⟩ (fun i σ H' _ h => sqT_same h.2 hb) (fun i x σ H' hx h => turn i x σ H' _ hx h fun _ _ q => q) ?_⟩
      rintro σ H' ⟨⟨p, v, rfl, hp⟩, e⟩
      rw [List.length_map, List.take_length] at hp
      exact ⟨_, rfl, k p _ e hp⟩
/-! ### _height, _heights -/
def spHeight (K : PySem.W.Frag) : Sp := fun vs H Q _ => ∃ (a : Addr) (m : List Nat) (d : Nat), vs = [.ref a, vn d] ∧ SqT K H a (vns m) ∧ Q (vn (VM.height m d)) H
theorem ok_height {f : Addr} {fd : FuncData} (F : Fun K "_height" "_height" s_height f fd) (T : Txt K mg C) : FnOk P w K mg base CX0 1 f fd ["memory", "down"] (spHeight K) := by
  have nd := sc_height.nd
  refine F.ok sc_height (fun vs H Q E h => ?_) (fun cdv A outer s H vs Q E hr h => ?_)
  · obtain ⟨a, m, d, rfl, _⟩ := h
    rfl
  · obtain ⟨a, m, d, rfl, ha, k⟩ := h
    refine ⟨_, (pss_cons (ps_set (i := 2) nd rfl (Or.inl rfl) pe_int) (pss_cons (ps_for PassesOwn.never rfl (pi_tup (pv 0)) (pg_name (i := 3) nd rfl (Or.inl rfl)) (pss_one (ps_set (i := 2) nd rfl (Or.inl rfl) (pe_ifExp (pt_cmpR op_gt (pv 3) (pv 1) (nomark _)) (pe_callB (call_max2 rfl) (by rfl) T.max_ (by decide +kernel) (pa_cons (pv 2) (pa_cons (pv 3) pa_nil))) pe_int)))) (pss_one (ps_ret (pv 2))))), ?_⟩
    refine ⟨_, rfl, a, rfl, ⟨_, ha⟩, for_tup (K := K) (a := a) (xs := vns m) (fun i σ H' => (∃ v, σ = [some (.ref a), some (vn d), some (vn (VM.height (m.take i) d)), v]) ∧ H' = H)
        ⟨⟨_, rfl⟩, rfl⟩ (fun i σ H' _ h => by rw [h.2]; exact ha) ?_ ?_⟩
    · rintro i x σ H' hx ⟨⟨v, rfl⟩, rfl⟩
      obtain ⟨l, hl, rfl⟩ := vns_get hx
      refine ⟨_, rfl, _, rfl, _, _, rfl, rfl, _, rfl, ?_⟩
      have e := VM.height_take (d := d) hl
      refine v_ifd (fun hc => ?_) (fun hc => ?_)
      · refine ⟨_, rfl, _, rfl, _, _, rfl, ?_⟩
        refine ⟨⟨some (vn l), ?_⟩, rfl⟩
        rw [e]
        have : (if (l : Int) > (VM.height (m.take i) d : Int) then (l : Int) else (VM.height (m.take i) d : Int)) = ((VM.hstep d (VM.height (m.take i) d) l : Nat) : Int) := by
          unfold VM.hstep
          rw [if_pos (show d < l by omega)]
          split <;> split <;> omega
        rw [this]
        rfl
      · refine ⟨⟨some (vn l), ?_⟩, rfl⟩
        rw [e]
        have : VM.hstep d (VM.height (m.take i) d) l = 0 := by
          unfold VM.hstep
          rw [if_neg (show ¬ d < l by omega)]
        rw [this]
        rfl
    · rintro σ H' ⟨⟨v, rfl⟩, rfl⟩
      refine ⟨_, rfl, ?_⟩
      rw [List.length_map, List.take_length]
      exact k
def spHeights (K : PySem.W.Frag) : Sp := fun vs H Q _ => ∃ (a : Addr) (m : List Nat) (top : Nat), vs = [vn top, .ref a] ∧ SqT K H a (vns m) ∧ top ≤ 100 ∧
  ∀ p H', H p = none → Same H H' → H' p = some (.lst (vns (VM.heights top m))) → Q (.ref p) H'
theorem ok_heights {f : Addr} {fd : FuncData} (F : Fun K "_heights" "_heights" s_heights f fd) (T : Txt K mg C) (D_height : Def P w K mg base CX0 1 "_height" ["memory", "down"] (spHeight K)) : FnOk P w K mg base CX0 2 f fd ["top", "memory"] (spHeights K) := by
  have nd := sc_heights.nd
  refine F.ok sc_heights (fun vs H Q E h => ?_) (fun cdv A outer s H vs Q E hr h => ?_)
  · obtain ⟨a, m, top, rfl, _⟩ := h
    rfl
  · obtain ⟨a, m, top, rfl, ha, ht, k⟩ := h
    refine ⟨_, (pss_one (ps_ret (pe_lc (own := [("down", 2)]) (by rfl) nd (pi_range1 (by rfl) T.range_ (pa_cons (pv 0) pa_nil)) (blkOk_by (own := [("down", 2)]) (N := n_heights) (sc := defScope s_heights) (by decide +kernel)) (fun _ _ _ _ _ => (pg_name (i := 2) nd rfl (Or.inl rfl))) (fun _ _ _ _ _ => pts_nil) (fun _ _ _ _ _ => (pe_callD D_height (hr.mono (by decide)) rfl pass0 (pa_cons (pv 1) (pa_cons (pv 2) pa_nil))))))), ?_⟩
    refine ⟨_, rfl, _, rfl, by omega, by omega, fun D hD => lc_range (lo := 0) (n := ((top : Nat) : Int).toNat) (fun i H' => Same H H' ∧ H' D = some (.lst (vns ((List.range i).map (VM.height m)))))
      ⟨same_new hD, upd_same⟩ ?_ ?_⟩
    · rintro i H' hi ⟨e, hd⟩
      refine ⟨rfl, _, rfl, _, rfl, a, m, i, ?_, sqT_same e ha, _, hd, ?_, ?_, ?_⟩
      · simp [vn]
      · refine small' ?_
        simp only [List.length_map, List.length_range]
        simp at hi
        omega
      · intro b o hb
        exact upd_old (fun z => by rw [z, hD] at hb; cases hb) (e _ _ hb)
      · rw [upd_same]
        simp [List.range_succ, vns]
    · rintro H' ⟨e, hd⟩
      rw [Int.toNat_natCast] at hd
      exact k D H' hD e hd
end

section
variable {P : Program} {w : World} {K : PySem.W.Frag} {mg : Str → Option Value} {base : Heap} {C : Addr}
/-! ### is_memory, check_memory -/
/-- a value that a caller may hand in as a memory, and whether it is one -/
inductive MemV (K : PySem.W.Frag) (H : Hp) (top : Nat) : V → Bool → Prop
  | tup {a : Addr} {xs : List V} (h : SqT K H a xs) (ht : OkT K H (.ref a) "tuple") (hi : ∀ x ∈ xs, ∃ n, OkT K H x n) (hz : xs.length ≤ 1000) : MemV K H top (.ref a) (isMem top xs)
  | other {x : V} {n : String} (h : OkT K H x n) (hn : n ≠ "tuple") : MemV K H top x false
theorem MemV.same {H H' : Hp} {top : Nat} (e : Same H H') {x : V} {b : Bool} (h : MemV K H top x b) : MemV K H' top x b := by
  cases h with
  | tup h ht hi hz => exact .tup (sqT_same e h) (ht.same e) (fun x hx => let ⟨n, q⟩ := hi x hx; ⟨n, q.same e⟩) hz
  | other h hn => exact .other (h.same e) hn
def spIsMemory (K : PySem.W.Frag) : Sp := fun vs H Q _ => ∃ (top : Nat) (x : V) (b : Bool), vs = [vn top, x] ∧ MemV K H top x b ∧ ∀ H', Same H H' → Q (.bl b) H'
theorem ok_is_memory {f : Addr} {fd : FuncData} (F : Fun K "is_memory" "is_memory" sis_memory f fd) (T : Txt K mg C) (Dis_level : Def P w K mg base CX0 2 "is_level" ["top", "value"] (spIsLevel K))
    (D_followed : Def P w K mg base CX0 2 "_followed" ["memory", "levels"] (spFollowed K)) : FnOk P w K mg base CX0 3 f fd ["top", "value"] (spIsMemory K) := by
  have nd := scis_memory.nd
  refine F.ok scis_memory (fun vs H Q E h => ?_) (fun cdv A outer s H vs Q E hr h => ?_)
  · obtain ⟨top, x, b, rfl, _⟩ := h
    rfl
  · obtain ⟨top, x, b, rfl, hm, k⟩ := h
    refine ⟨_, (pss_cons (ps_if (PW.pt (pw_or (pt_not (pt_val (pe_callB call_isi (by rfl) T.isinstance_ (by decide +kernel) (pa_cons (pv 1) (pa_cons (pe_bltn (v := .ty "tuple") (by rfl) T.tuple_ (by decide +kernel) rfl) pa_nil))))) (pw_or1 (pt_not (pt_val (pe_callB (cr_all rfl) (by rfl) T.all_ (by decide +kernel) (pa_cons (pe_lc (own := [("entry", 2)]) (by rfl) nd (pi_tup (pv 1)) (blkOk_by (own := [("entry", 2)]) (N := nis_memory) (sc := defScope sis_memory) (by decide +kernel)) (fun _ _ _ _ _ => (pg_name (i := 2) nd rfl (Or.inl rfl))) (fun _ _ _ _ _ => pts_nil) (fun _ _ _ _ _ => (pe_callD Dis_level (hr.mono (by decide)) rfl pass0 (pa_cons (pv 0) (pa_cons (pv 2) pa_nil))))) pa_nil))))))) (pss_one (ps_ret pe_bl)) pss_nil) (pss_one (ps_ret (pe_cmpR (op_eqD hr.units) (pe_callD D_followed (hr.mono (by decide)) rfl pass0 (pa_cons (pe_tup pa_nil) (pa_cons (pv 1) pa_nil))) (pv 1) (nomark _))))), ?_⟩
    cases hm with
    | other ok hn =>
      refine ⟨_, rfl, ?_⟩
      apply v_isi ok (kit_tuple ok.kd)
      refine ⟨_, rfl, ?_⟩
      refine v_ift ?_ ?_
      · simp [hn]
      · exact k H (Same.refl _)
    | @tup a xs h ht hi hz =>
      refine ⟨_, rfl, ?_⟩
      apply v_isi ht (kit_tuple ht.kd)
      refine ⟨_, rfl, ?_⟩
      refine v_iff (by rfl) ?_
      refine ⟨_, rfl, a, rfl, ⟨_, h⟩, fun D hD => lc_tup (K := K) (a := a) (xs := xs) (fun i H' => Same H H' ∧ H' D = some (.lst (((xs.take i).map (lvl top)).map V.bl)))
        ⟨same_new hD, upd_same⟩ (fun i H' _ h' => sqT_same h'.1 h) ?_ ?_⟩
      · rintro i x H' hx ⟨e, hd⟩
        obtain ⟨n, ok⟩ := hi x (List.mem_of_getElem? hx)
        refine ⟨rfl, _, rfl, _, rfl, top, x, n, rfl, ok.same e, _, hd, ?_, ?_, ?_⟩
        · refine small' ?_
          simp only [List.length_map, List.length_take]
          omega
        · exact same_mut hD e
        · rw [upd_same, VM.take_succ hx]
          simp
      · rintro H' ⟨e, hd⟩
        rw [List.take_length] at hd
        refine ⟨D, xs.map (lvl top), rfl, SqL.of hd, _, rfl, ?_⟩
        have eall : (xs.map (lvl top)).all id = xs.all (lvl top) := by
          rw [List.all_map]
          rfl
        rw [eall]
        refine v_ifb (fun hb => ?_) (fun hb => ?_)
        · have hf : xs.all (lvl top) = false := by simpa using hb
          have q := k H' e
          unfold isMem at q
          rw [hf] at q
          exact q
        · have hf : xs.all (lvl top) = true := by simpa using hb
          obtain ⟨ex, hle⟩ := all_lvl hf
          have h' : SqT K H' a (vns (xs.map natV)) := by
            rw [← ex]
            exact sqT_same e h
          refine ⟨(by show 0 ≤ sizeLine; decide), fun t ht => ⟨_, rfl, t, a, [], xs.map natV, rfl, SqT.of upd_same, .inr (sqT_same (same_new ht) h'), ?_, fun p H2 e2 h2 => ?_⟩⟩
          · simp only [List.length_map, List.length_nil]
            omega
          · have e3 := (e.trans (same_new ht)).trans e2
            refine ⟨_, rfl, _, _, dp_tup h2, dp_tup (sqT_same ((same_new ht).trans e2) h'), shaped_tup _, shaped_tup _, ?_⟩
            rw [eqv_tup]
            have q := k H2 e3
            unfold isMem at q
            rw [hf] at q
            exact q
def spCheckMemory (K : PySem.W.Frag) (C : Addr) : Sp := fun vs H Q E => ∃ (top : Nat) (x : V) (b : Bool), vs = [vn top, x] ∧ MemV K H top x b ∧ (b = true → ∀ H', Same H H' → Q .non H') ∧ (b = false → ∀ H', Same H H' → E (.ref C) none H')
theorem ok_check_memory {f : Addr} {fd : FuncData} (F : Fun K "check_memory" "check_memory" scheck_memory f fd) (T : Txt K mg C) (Dis_memory : Def P w K mg base CX0 3 "is_memory" ["top", "value"] (spIsMemory K)) :
    FnOk P w K mg base (L2.CX P w) 4 f fd ["top", "memory"] (spCheckMemory K C) := by
  have nd := sccheck_memory.nd
  refine F.okX sccheck_memory (fun vs H Q E h => ?_) (fun cdv A outer s H vs Q E hr h => ?_)
  · obtain ⟨top, x, b, rfl, _⟩ := h
    rfl
  · obtain ⟨top, x, b, rfl, hm, k1, k2⟩ := h
    refine ⟨_, (pss_one (ps_if (pt_not (pt_val (pe_callD Dis_memory (hr.mono (by decide)) rfl pass0 (pa_cons (pv 0) (pa_cons (pv 1) pa_nil))))) (pss_one (ps_raise rfl (takes_of rfl rfl rfl rfl) T.BadMemory_pmk)) pss_nil)), ?_⟩
    refine ⟨_, rfl, _, rfl, top, x, b, rfl, hm, fun H' e => ⟨_, rfl, ?_⟩⟩
    cases b with
    | true => exact k1 rfl H' e
    | false => exact k2 rfl H' e
theorem isMem_nat {top : Nat} {xs : List V} (h : isMem top xs = true) : xs = vns (xs.map natV) := by
  unfold isMem at h
  simp only [Bool.and_eq_true] at h
  exact (all_lvl h.1).1
theorem MemV.true {H : Hp} {top : Nat} {x : V} {b : Bool} (h : MemV K H top x b) (hb : b = true) : ∃ p m, x = .ref p ∧ SqT K H p (vns m) := by
  cases h with
  | @tup a xs h ht hi hz => exact ⟨a, xs.map natV, rfl, by rw [← isMem_nat hb]; exact h⟩
  | other => cases hb
end

section
variable {P : Program} {w : World} {K : PySem.W.Frag} {mg : Str → Option Value} {base : Heap} {C : Addr}
/-! ### the draws -/
def spTake : Sp := fun vs H Q _ => ∃ (f : Addr) (a b n : Int), vs = [.ref f, .int n] ∧ H f = some (.lst [.int a, .int b]) ∧ 0 ≤ a ∧ 0 ≤ b ∧ 0 < n ∧ n < 1000000 ∧
  ∀ (r a' b' : Int), 0 ≤ r → r < n → 0 ≤ a' → 0 ≤ b' → Q (.int r) (upd H f (.lst [.int a', .int b']))
theorem ok_take {f : Addr} {fd : FuncData} (F : Fun K "_law_take" "_law_take" s_law_take f fd) (T : Txt K mg C) : FnOk P w K mg base CX0 1 f fd ["feed", "size"] spTake := by
  have nd := sc_law_take.nd
  refine F.ok sc_law_take (fun vs H Q E h => ?_) (fun cdv A outer s H vs Q E hr h => ?_)
  · obtain ⟨f, a, b, n, rfl, _⟩ := h
    rfl
  · obtain ⟨f, a, b, n, rfl, hf, ha, hb, h0, h1, k⟩ := h
    refine ⟨_, (pss_cons (ps_if (pt_cmpR op_gt (pe_ix ix_list (pv 0) pe_int (fun _ _ => rfl)) pe_int (nomark _)) (pss_cons (ps_set (i := 2) nd rfl (Or.inl rfl) (pe_op op_mod (pe_callTy call_int1 (by rfl) T.int_ (by decide +kernel) (pa_cons (pe_ix ix_list (pv 0) pe_int (fun _ _ => rfl)) pa_nil)) (pv 1))) (pss_cons (ps_asg (pe_op op_fdiv (pe_ix ix_list (pv 0) pe_int (fun _ _ => rfl)) (pv 1)) (pg_sub (pv 0) pe_int set_list)) (pss_one (ps_ret (pv 2))))) pss_nil) (pss_cons (ps_asg (pe_op op_mod (pe_callTy call_int1 (by rfl) T.int_ (by decide +kernel) (pa_cons (pe_op op_add (pe_op op_mul (pe_ix ix_list (pv 0) pe_int (fun _ _ => rfl)) pe_int) pe_int) pa_nil)) pe_int) (pg_sub (pv 0) pe_int set_list)) (pss_one (ps_ret (pe_op op_mod (pe_callTy call_int1 (by rfl) T.int_ (by decide +kernel) (pa_cons (pe_op op_fdiv (pe_ix ix_list (pv 0) pe_int (fun _ _ => rfl)) pe_int) pa_nil)) (pv 1)))))), ?_⟩
    walk_at "vs"
    refine v_ifd (fun hc => ?_) (fun hc => ?_)
    · walk_at "vs"
      exact k (a % n) (a / n) b (Int.emod_nonneg _ (by omega)) (Int.emod_lt_of_pos _ h0) (Int.ediv_nonneg ha (by omega)) hb
    · walk_at "vs"
      exact k _ a _ (Int.emod_nonneg _ (by omega)) (Int.emod_lt_of_pos _ h0) ha (Int.emod_nonneg _ (by omega))
def spPick (K : PySem.W.Frag) : Sp := fun vs H Q _ => ∃ (f t : Addr) (a b : Int) (xs : List V), vs = [.ref f, .ref t] ∧ H f = some (.lst [.int a, .int b]) ∧ 0 ≤ a ∧ 0 ≤ b ∧ SqL K H t xs ∧ t ≠ f ∧ 0 < xs.length ∧ xs.length < 100000 ∧
  ∀ (v : V) (a' b' : Int), v ∈ xs → 0 ≤ a' → 0 ≤ b' → Q v (upd H f (.lst [.int a', .int b']))
theorem ok_pick {f : Addr} {fd : FuncData} (F : Fun K "_law_pick" "_law_pick" s_law_pick f fd) (T : Txt K mg C) (D_law_take : Def P w K mg base CX0 1 "_law_take" ["feed", "size"] spTake) : FnOk P w K mg base CX0 2 f fd ["feed", "things"] (spPick K) := by
  have nd := sc_law_pick.nd
  refine F.ok sc_law_pick (fun vs H Q E h => ?_) (fun cdv A outer s H vs Q E hr h => ?_)
  · obtain ⟨f, t, a, b, xs, rfl, _⟩ := h
    rfl
  · obtain ⟨f, t, a, b, xs, rfl, hf, ha, hb, ht, hne, h0, h1, k⟩ := h
    refine ⟨_, (pss_one (ps_ret (pe_ix ix_list (pv 1) (pe_callD D_law_take (hr.mono (by decide)) rfl pass0 (pa_cons (pv 0) (pa_cons (pe_callB call_len_seq (by rfl) T.len_ PySem.boot_len (pa_cons (pv 1) pa_nil)) pa_nil))) (fun _ _ => rfl)))), ?_⟩
    refine ⟨_, rfl, _, rfl, _, rfl, ?_⟩
    apply v_lenL ht
    refine ⟨f, a, b, _, rfl, hf, ha, hb, by omega, by omega, fun r a' b' hr0 hr1 ha' hb' => ?_⟩
    have hlt : r.toNat < xs.length := by omega
    have ht' : SqL K (upd H f (.lst [.int a', .int b'])) t xs := sqL_but but_upd hne ht
    apply v_ixL ht' (at_of (j := r.toNat) (by omega) (List.getElem?_eq_getElem hlt))
    exact k _ a' b' (List.getElem_mem hlt) ha' hb'
def spFeed (K : PySem.W.Frag) : Sp := fun vs H Q _ => ∃ (a : Addr) (ns : List Int) (k : Nat), vs = [.ref a, vn k] ∧ SqL K H a (ns.map V.int) ∧ ns.length ≤ 63 ∧ k ≤ 10 ∧
  ∀ p H' x y, H p = none → Same H H' → H' p = some (.lst [.int x, .int y]) → 0 ≤ x → 0 ≤ y → Q (.ref p) H'
theorem cut_one {ns : List Int} {k : Nat} : ∃ ms : List Int, cutV (ns.map V.int) (some (k : Int)) (some ((k : Int) + 1)) = ms.map V.int ∧ ms.length ≤ 1 := by
  refine ⟨(ns.drop (HT.sIx ns.length 0 (some (k : Int)))).take (HT.sIx ns.length ns.length (some ((k + 1 : Nat) : Int)) - HT.sIx ns.length 0 (some (k : Int))), ?_, ?_⟩
  · unfold cutV
    rw [show ((k : Int) + 1) = ((k + 1 : Nat) : Int) by omega]
    simp [List.map_take, List.map_drop]
  · rw [HT.sIx_nat, HT.sIx_nat, List.length_take]
    omega
theorem ok_feed {f : Addr} {fd : FuncData} (F : Fun K "_law_feed" "_law_feed" s_law_feed f fd) (T : Txt K mg C) : FnOk P w K mg base CX0 1 f fd ["script", "k"] (spFeed K) := by
  have nd := sc_law_feed.nd
  refine F.ok sc_law_feed (fun vs H Q E h => ?_) (fun cdv A outer s H vs Q E hr h => ?_)
  · obtain ⟨a, ns, k, rfl, _⟩ := h
    rfl
  · obtain ⟨a, ns, k, rfl, ha, hz, hk, kk⟩ := h
    refine ⟨_, (pss_cons (ps_set (i := 2) nd rfl (Or.inl rfl) (pe_ix ix_list (pe_op op_cat (pe_callTy call_list_of (by rfl) T.list_ (by decide +kernel) (pa_cons (pe_slice sl_list (pv 0) (po_some (pv 1)) (po_some (pe_op op_add (pv 1) pe_int))) pa_nil)) (pe_lst (pa_cons (pe_op op_add (pe_op op_mul pe_int (pv 1)) pe_int) pa_nil))) pe_int (fun _ _ => rfl))) (pss_cons (ps_set (i := 3) nd rfl (Or.inl rfl) (pe_callB (call_max2 rfl) (by rfl) T.max_ (by decide +kernel) (pa_cons pe_int (pa_cons (pe_op op_sub (pe_callB call_abs (by rfl) T.abs_ (by decide +kernel) (pa_cons (pv 2) pa_nil)) (pe_op op_pow pe_int pe_int)) pa_nil)))) (pss_one (ps_ret (pe_lst (pa_cons (pv 3) (pa_cons (pe_op op_mod (pe_callTy call_int1 (by rfl) T.int_ (by decide +kernel) (pa_cons (pe_op op_add (pe_op op_add (pe_op op_mul (pe_op op_mod (pe_callTy call_int1 (by rfl) T.int_ (by decide +kernel) (pa_cons (pe_callB call_abs (by rfl) T.abs_ (by decide +kernel) (pa_cons (pv 2) pa_nil)) pa_nil)) pe_int) pe_int) (pe_op op_mul pe_int (pv 1))) pe_int) pa_nil)) pe_int) pa_nil))))))), ?_⟩
    refine ⟨_, rfl, _, rfl, _, rfl, _, rfl, _, _, rfl, rfl, _, rfl, ?_⟩
    apply v_slL ha
    intro p hp
    obtain ⟨ms, em, hm⟩ := cut_one (ns := ns) (k := k)
    have up : (upd H p (.lst (cutV (ns.map V.int) (some (k : Int)) (some ((k : Int) + 1))))) p = some (.lst (ms.map V.int)) := by
      rw [upd_same, em]
    refine ⟨p, _, rfl, .inl (SqL.of up), fun q hq => ?_⟩
    refine ⟨_, rfl, ?_⟩
    apply v_I
    · exact .inl ⟨by decide, by decide⟩
    refine ⟨_, _, rfl, rfl, (by show 1 ≤ sizeLine; decide), fun r hr' => ?_⟩
    apply v_cat (upd_new hr' upd_same) upd_same
    · refine small ?_
      simp only [List.length_map, List.length_cons, List.length_nil]
      omega
    intro t ht
    obtain ⟨c, rest, ec⟩ : ∃ (c : Int) (rest : List Int), ms.map V.int ++ [V.int (71 * (k : Int) + 23)] = V.int c :: rest.map V.int := by
      cases ms with
      | nil => exact ⟨_, [], rfl⟩
      | cons m r => exact ⟨m, r ++ [71 * (k : Int) + 23], by simp⟩
    apply v_ixL (SqL.of (upd_same.trans (by rw [show (List.map V.int ms ++ [V.int ((fun i j => i + j) ((fun i j => i * j) 71 (k : Int)) 23)]) = V.int c :: rest.map V.int from ec]))) (at_of (j := 0) rfl rfl)
    walk_at "vs"
    refine ⟨(by show 2 ≤ sizeLine; decide), fun u hu => ?_⟩
    refine kk u _ _ _ (((((same_new hp).trans (same_new hq)).trans (same_new hr')).trans (same_new ht)).free hu) (((((same_new hp).trans (same_new hq)).trans (same_new hr')).trans (same_new ht)).trans (same_new hu)) upd_same ?_ (Int.emod_nonneg _ (by decide))
    split <;> omega
/-! ### switches -/
def spSwitches (K : PySem.W.Frag) : Sp := fun vs H Q _ => ∃ (top : Nat), vs = [vn top] ∧ top ≤ 6 ∧ ∀ p H' xs, H p = none → Same H H' → H' p = some (.lst xs) → Tups K H' xs (VM.switches top) → Q (.ref p) H'
def swPart (u : Nat) : List (List Nat) := (List.range (u + 1)).map fun d => [u + 1, d]
theorem fl_succ {α : Type} (f : Nat → List α) (n : Nat) : ((List.range (n + 1)).map f).flatten = ((List.range n).map f).flatten ++ f n := by
  rw [List.range_succ, List.map_append, List.flatten_append]
  simp
theorem sw_succ (n : Nat) : VM.switches (n + 1) = VM.switches n ++ swPart n := fl_succ _ n
theorem sw_len (n : Nat) : (VM.switches n).length ≤ n * 7 ∨ 6 < n := by
  by_cases h : n ≤ 6
  · left
    rcases (show n = 0 ∨ n = 1 ∨ n = 2 ∨ n = 3 ∨ n = 4 ∨ n = 5 ∨ n = 6 by omega) with rfl | rfl | rfl | rfl | rfl | rfl | rfl <;> decide
  · right
    omega
end

/-! ### the law's memories: lists of lists, pairs of a length and a tuple -/
inductive Lsts (H : Hp) : List V → List (List Nat) → Prop
  | nil : Lsts H [] []
  | cons {a : Addr} {ns : List Nat} {xs : List V} {nss : List (List Nat)} : H a = some (.lst (vns ns)) → Lsts H xs nss → Lsts H (.ref a :: xs) (ns :: nss)
theorem Lsts.len {H : Hp} : ∀ {xs : List V} {nss : List (List Nat)}, Lsts H xs nss → xs.length = nss.length
  | _, _, .nil => rfl
  | _, _, .cons _ t => congrArg (· + 1) t.len
theorem Lsts.but {H H' : Hp} (f : ∀ a ns, H a = some (.lst (vns ns)) → H' a = some (.lst (vns ns))) : ∀ {xs : List V} {nss : List (List Nat)}, Lsts H xs nss → Lsts H' xs nss
  | _, _, .nil => .nil
  | _, _, .cons h t => .cons (f _ _ h) (t.but f)
theorem Lsts.same {H H' : Hp} (e : Same H H') {xs : List V} {nss : List (List Nat)} (t : Lsts H xs nss) : Lsts H' xs nss := t.but fun _ _ h => e _ _ h
theorem Lsts.get {H : Hp} : ∀ {xs : List V} {nss : List (List Nat)} {i : Nat} {x : V}, Lsts H xs nss → xs[i]? = some x → ∃ a ns, x = .ref a ∧ nss[i]? = some ns ∧ H a = some (.lst (vns ns))
  | _, _, i, _, .nil, h => by simp at h
  | _, _, 0, x, .cons h t, e => by
    have e' := Option.some.inj (show some _ = some x from e)
    subst e'
    exact ⟨_, _, rfl, rfl, h⟩
  | _, _, i + 1, x, .cons h t, e => by
    obtain ⟨a, ns, h1, h2, h3⟩ := t.get (i := i) (x := x) (by simpa using e)
    exact ⟨a, ns, h1, by simpa using h2, h3⟩
theorem Lsts.append {H : Hp} : ∀ {xs ys : List V} {nss mss : List (List Nat)}, Lsts H xs nss → Lsts H ys mss → Lsts H (xs ++ ys) (nss ++ mss)
  | _, _, _, _, .nil, u => u
  | _, _, _, _, .cons h t, u => .cons h (t.append u)
theorem ref_vns {a : Addr} {ns : List Nat} (h : V.ref a ∈ vns ns) : False := by
  obtain ⟨n, _, e⟩ := List.mem_map.mp h
  cases e
theorem Lsts.put {H : Hp} {D : Addr} {ys : List V} (hy : H D = some (.lst ys)) (o : HO) : ∀ {xs : List V} {nss : List (List Nat)}, Lsts H xs nss → (∀ x ∈ xs, x ∈ ys) → Lsts (upd H D o) xs nss
  | _, _, .nil, _ => .nil
  | _, _, .cons (a := a) (ns := ns) h t, f => by
    have ne : a ≠ D := fun z => by
      rw [z, hy] at h
      have e : ys = vns ns := by
        injection h with h1
        injection h1
      have := f (.ref a) (by simp)
      rw [e] at this
      exact ref_vns this
    exact .cons (upd_old ne h) (t.put hy o fun x hx => f x (by simp [hx]))
inductive Prs (K : PySem.W.Frag) (H : Hp) : List V → List (List Nat) → Prop
  | nil : Prs K H [] []
  | cons {t e : Addr} {ns : List Nat} {xs : List V} {nss : List (List Nat)} : SqT K H t [vn ns.length, .ref e] → SqT K H e (vns ns) → Prs K H xs nss → Prs K H (.ref t :: xs) (ns :: nss)
theorem Prs.len {K : PySem.W.Frag} {H : Hp} : ∀ {xs : List V} {nss : List (List Nat)}, Prs K H xs nss → xs.length = nss.length
  | _, _, .nil => rfl
  | _, _, .cons _ _ t => congrArg (· + 1) t.len
theorem Prs.but {K : PySem.W.Frag} {H H' : Hp} (f : ∀ a xs, SqT K H a xs → SqT K H' a xs) : ∀ {xs : List V} {nss : List (List Nat)}, Prs K H xs nss → Prs K H' xs nss
  | _, _, .nil => .nil
  | _, _, .cons h g t => .cons (f _ _ h) (f _ _ g) (t.but f)
theorem Prs.append {K : PySem.W.Frag} {H : Hp} : ∀ {xs ys : List V} {nss mss : List (List Nat)}, Prs K H xs nss → Prs K H ys mss → Prs K H (xs ++ ys) (nss ++ mss)
  | _, _, _, _, .nil, u => u
  | _, _, _, _, .cons h g t, u => .cons h g (t.append u)
theorem Prs.zip {K : PySem.W.Frag} {H : Hp} : ∀ {xs : List V} {nss : List (List Nat)}, Prs K H xs nss → ∀ x ns, (x, ns) ∈ xs.zip nss → ∃ t e, x = .ref t ∧ SqT K H t [vn ns.length, .ref e] ∧ SqT K H e (vns ns)
  | _, _, .nil, x, ns, h => by simp at h
  | _, _, .cons h g t, x, ns, hm => by
    simp only [List.zip_cons_cons, List.mem_cons, Prod.mk.injEq] at hm
    rcases hm with ⟨rfl, rfl⟩ | hm
    · exact ⟨_, _, rfl, h, g⟩
    · exact t.zip x ns hm
def penc (ns : List Nat) : PyData := .tuple [pint ns.length, ptup ns]
theorem Prs.dp {K : PySem.W.Frag} {H : Hp} : ∀ {xs : List V} {nss : List (List Nat)}, Prs K H xs nss → DpAll K H xs (nss.map penc)
  | _, _, .nil => .nil
  | _, _, .cons h g t => .cons (.tup h (.cons (.int _) (.cons (dp_tup g) .nil))) t.dp
theorem alike_pints : ∀ as bs : List Nat, PySem.W.alikeAll (as.map pint) (bs.map pint) = true
  | [], _ => by simp [PySem.W.alikeAll]
  | _ :: _, [] => by simp [PySem.W.alikeAll]
  | a :: as, b :: bs => by
    have := alike_pints as bs
    simp only [List.map_cons, PySem.W.alikeAll, this, Bool.and_true]
    rfl
theorem alike_penc (as bs : List Nat) : PySem.W.alike (penc as) (penc bs) = true := by
  unfold penc ptup
  simp only [PySem.W.alike, PySem.W.alikeAll, alike_pints, Bool.and_true]
  rfl
theorem srt_map (xs : List V) (nss : List (List Nat)) : ∃ M : List (V × List Nat), M.Perm (xs.zip nss) ∧ srt xs (nss.map penc) = M.map fun p => (p.1, penc p.2) := by
  refine ⟨(xs.zip nss).mergeSort fun p q => PySem.W.dataLe false Prod.snd (p.1, penc p.2) (q.1, penc q.2), List.mergeSort_perm _ _, ?_⟩
  unfold srt
  have e : xs.zip (nss.map penc) = (xs.zip nss).map fun p => (p.1, penc p.2) := by
    rw [List.zip_map_right]
    rfl
  rw [e]
  exact (List.map_mergeSort (f := fun p : V × List Nat => (p.1, penc p.2)) (r := fun p q => PySem.W.dataLe false Prod.snd (p.1, penc p.2) (q.1, penc q.2)) (s := PySem.W.dataLe false Prod.snd) (fun a _ b _ => rfl)).symm
theorem snd_zip2 : ∀ {xs : List V} {nss : List (List Nat)}, xs.length = nss.length → (xs.zip nss).map Prod.snd = nss
  | [], [], _ => rfl
  | x :: xs, n :: nss, h => by simp [snd_zip2 (xs := xs) (nss := nss) (by simpa using h)]
theorem lots_len : ∀ n, (VM.lots n).length = 2 ^ n
  | 0 => rfl
  | n + 1 => by
    show (VM.lots n ++ (VM.lots n).map (· ++ [n + 1])).length = _
    rw [List.length_append, List.length_map, lots_len n, Nat.pow_succ]
    omega
theorem lot_len : ∀ n, ∀ l ∈ VM.lots n, l.length ≤ n
  | 0, l, h => by
    have : l = [] := by simpa [VM.lots] using h
    subst this
    simp
  | n + 1, l, h => by
    have h' : l ∈ VM.lots n ++ (VM.lots n).map (· ++ [n + 1]) := h
    rcases List.mem_append.mp h' with h' | h'
    · have := lot_len n l h'
      omega
    · obtain ⟨m, hm, rfl⟩ := List.mem_map.mp h'
      have := lot_len n m hm
      simp
      omega
theorem two_pow {n : Nat} (h : n ≤ 6) : 2 ^ n ≤ 64 := Nat.pow_le_pow_right (by decide : 0 < 2) h
theorem at_last (n : Nat) : seqIndex? (-1) (n + 1) = some n := by
  unfold seqIndex?
  have e : ((-1 : Int) + ((n + 1 : Nat) : Int)) = (n : Int) := by omega
  simp only [e, show ((-1 : Int) < 0) from by decide, if_true]
  have h1 : (0 : Int) ≤ (n : Int) := by omega
  have h2 : (n : Int) < ((n + 1 : Nat) : Int) := by omega
  simp [h1]
  omega
theorem at_first (n : Nat) : seqIndex? 0 (n + 1) = some 0 := by
  unfold seqIndex?
  have h2 : (0 : Int) < ((n + 1 : Nat) : Int) := by omega
  simp
theorem erase_last : ∀ (l : List V) (v : V), (l ++ [v]).eraseIdx l.length = l
  | [], _ => rfl
  | a :: l, v => by simp [erase_last l v]
theorem entries_last (l : List Nat) (v i : Nat) (h : i % 2 = 0) : VM.entries (l ++ [v]).length i (l ++ [v]) = v :: VM.entries l.length (i + 1) l := by
  cases l with
  | nil => simp [VM.entries, h]
  | cons a r =>
    rw [show (a :: r ++ [v]).length = (a :: r).length + 1 by simp]
    show (if i % 2 = 0 then ((a :: (r ++ [v])).getLastD 0) :: VM.entries (a :: r).length (i + 1) ((a :: (r ++ [v])).dropLast) else a :: VM.entries (a :: r).length (i + 1) (r ++ [v])) = _
    rw [if_pos h]
    congr 1
    · exact List.getLastD_concat (a := 0) (b := v) (l := a :: r)
    · have : (a :: (r ++ [v])).dropLast = a :: r := by
        rw [show a :: (r ++ [v]) = (a :: r) ++ [v] from rfl, List.dropLast_concat]
      rw [this]
theorem entries_first (l : List Nat) (v i : Nat) (h : ¬ i % 2 = 0) : VM.entries (v :: l).length i (v :: l) = v :: VM.entries l.length (i + 1) l := by
  show (if i % 2 = 0 then _ else v :: VM.entries l.length (i + 1) l) = _
  rw [if_neg h]

section
variable {P : Program} {w : World} {K : PySem.W.Frag} {mg : Str → Option Value} {base : Heap} {C : Addr}
def spMemories (K : PySem.W.Frag) : Sp := fun vs H Q _ => ∃ (top : Nat), vs = [vn top] ∧ top ≤ 6 ∧ ∀ p H' ys nss, H p = none → Same H H' → H' p = some (.lst ys) → Tups K H' ys nss → nss.Perm (VM.msOf top) → Q (.ref p) H'
theorem ok_memories {f : Addr} {fd : FuncData} (F : Fun K "_law_memories" "_law_memories" s_law_memories f fd) (T : Txt K mg C) : FnOk P w K mg base CX0 1 f fd ["top"] (spMemories K) := by
  have nd := sc_law_memories.nd
  refine F.ok sc_law_memories (fun vs H Q E h => ?_) (fun cdv A outer s H vs Q E hr h => ?_)
  · obtain ⟨top, rfl, _⟩ := h
    rfl
  · obtain ⟨top, rfl, ht, k⟩ := h
    refine ⟨_, (pss_cons (ps_par (i := 1) (j := 2) (by rfl) nd rfl rfl (by decide) rfl rfl (pa_cons (pe_lst (pa_cons (pe_lst pa_nil) pa_nil)) (pa_cons (pe_lst pa_nil) pa_nil)) (by rfl)) (pss_cons (ps_for PassesOwn.never rfl (pi_range2 (by rfl) T.range_ (pa_cons pe_int (pa_cons (pe_op op_add (pv 0) pe_int) pa_nil))) (pg_name (i := 3) nd rfl (Or.inr rfl)) (pss_one (ps_set (i := 1) nd rfl (Or.inl rfl) (pe_op op_cat (pv 1) (pe_lc (own := [("lot", 4)]) (by rfl) nd (pi_list (pv 1)) (blkOk_by (own := [("lot", 4)]) (N := n_law_memories) (sc := defScope s_law_memories) (by decide +kernel)) (fun _ _ _ _ _ => (pg_name (i := 4) nd rfl (Or.inl rfl))) (fun _ _ _ _ _ => pts_nil) (fun _ _ _ _ _ => (pe_op op_cat (pv 4) (pe_lst (pa_cons (pv 3) pa_nil))))))))) (pss_cons (ps_for PassesOwn.never rfl (pi_list (pv 1)) (pg_name (i := 4) nd rfl (Or.inl rfl)) (pss_cons (ps_par (i := 5) (j := 6) (by rfl) nd rfl rfl (by decide) rfl rfl (pa_cons (pe_callTy call_list_of (by rfl) T.list_ (by decide +kernel) (pa_cons (pv 4) pa_nil)) (pa_cons (pe_lst pa_nil) pa_nil)) (by rfl)) (pss_cons (ps_while PassesOwn.never (pt_cmpR (op_neD hr.units) (pv 5) (pe_lst pa_nil) (nomark _)) (pss_one (ps_expr (pe_bm PySem.F.plainAttrs_list PySem.F.slot_list_append PySem.F.type_list_append mt_append (pv 6) (pa_cons (pe_ifExp (pt_cmpR op_eq (pe_op op_mod (pe_callTy call_int1 (by rfl) T.int_ (by decide +kernel) (pa_cons (pe_callB call_len_seq (by rfl) T.len_ PySem.boot_len (pa_cons (pv 6) pa_nil)) pa_nil)) pe_int) pe_int (nomark _)) (pe_bm PySem.F.plainAttrs_list PySem.F.slot_list_pop PySem.F.type_list_pop mt_popAt (pv 5) (pa_cons (pe_un un_neg pe_int) pa_nil)) (pe_bm PySem.F.plainAttrs_list PySem.F.slot_list_pop PySem.F.type_list_pop mt_popAt (pv 5) (pa_cons pe_int pa_nil))) pa_nil))))) (pss_one (ps_expr (pe_bm PySem.F.plainAttrs_list PySem.F.slot_list_append PySem.F.type_list_append mt_append (pv 2) (pa_cons (pe_tup (pa_cons (pe_callB call_len_seq (by rfl) T.len_ PySem.boot_len (pa_cons (pv 6) pa_nil)) (pa_cons (pe_callTy call_tuple_of (by rfl) T.tuple_ (by decide +kernel) (pa_cons (pv 6) pa_nil)) pa_nil))) pa_nil))))))) (pss_one (ps_ret (pe_lc (own := [("many", 7), ("entries", 6)]) (by rfl) nd (pi_list (pe_callB (cr_sortD hr.units) (by rfl) T.sorted_ (by decide +kernel) (pa_cons (pv 2) pa_nil))) (blkOk_by (own := [("many", 7), ("entries", 6)]) (N := n_law_memories) (sc := defScope s_law_memories) (by decide +kernel)) (fun _ _ _ _ _ => (pg_tupK K (pg_tup (n := 2) rfl (pgs_cons (pg_name (i := 7) nd rfl (Or.inl rfl)) (pgs_cons (pg_name (i := 6) nd rfl (Or.inl rfl)) pgs_nil))))) (fun _ _ _ _ _ => pts_nil) (fun _ _ _ _ _ => (pv 6)))))))), ?_⟩
    -- lots, found = [[]], []
    refine ⟨(by show 0 ≤ sizeLine; decide), fun p hp => ⟨(by show 1 ≤ sizeLine; decide), fun q hq => ⟨(by show 0 ≤ sizeLine; decide), fun fa hfa => ⟨_, _, rfl, ?_⟩⟩⟩⟩
    have e0 : Same H (upd (upd (upd H p (.lst [])) q (.lst [.ref p])) fa (.lst [])) := ((same_new hp).trans (same_new hq)).trans (same_new hfa)
    have nq : H q = none := (same_new hp).free hq
    have nfa : H fa = none := ((same_new hp).trans (same_new hq)).free hfa
    refine ⟨_, rfl, _, _, rfl, rfl, _, _, rfl, ⟨by decide, by decide, by omega, by omega⟩, for_range (lo := 1) (n := (((top : Nat) : Int) + 1 - 1).toNat)
      (fun i σ H' => ∃ q xs v3, σ = [some (vn top), some (.ref q), some (.ref fa), v3, none, none, none, none] ∧ H q = none ∧ Same H H' ∧ q ≠ fa ∧ H' fa = some (.lst []) ∧ H' q = some (.lst xs) ∧ Lsts H' xs (VM.lots i) ∧ (∀ x ∈ xs, x ≠ V.ref fa) ∧ i ≤ top) ?_ ?_ ?_⟩
    · refine ⟨q, [.ref p], _, rfl, nq, e0, ?_, upd_same, upd_new hfa upd_same, .cons (upd_new hfa (upd_new hq upd_same)) .nil, ?_, Nat.zero_le _⟩
      · rintro rfl
        rw [upd_same] at hfa
        cases hfa
      · intro x hx z
        have hx' : x = V.ref p := by simpa using hx
        rw [hx'] at z
        injection z with z
        have := upd_new (o' := .lst [.ref p]) hq (upd_same (H := H) (a := p) (o := .lst []))
        have h2 : upd (upd H p (.lst [])) q (.lst [.ref p]) p = none := by
          have h3 := hfa
          rw [← z] at h3
          exact h3
        rw [h2] at this
        cases this
    · rintro i σ H' hi ⟨q, xs, v3, rfl, hq, e, hne, hf, hl, hls, hxf, hi'⟩
      have hi2 : i < top := by omega
      have len1 := hls.len
      rw [lots_len] at len1
      have p64 := two_pow (show i ≤ 6 by omega)
      refine ⟨_, rfl, _, rfl, q, rfl, ⟨_, SqL.of hl⟩, fun D hD => lc_list (K := K) (a := q) (xs := xs) (fun j H2 => Same H' H2 ∧ ∃ ys, H2 D = some (.lst ys) ∧ Lsts H2 ys (((VM.lots i).take j).map (· ++ [i + 1])) ∧ ∀ y ∈ ys, y ≠ V.ref fa)
        ⟨same_new hD, [], upd_same, .nil, by simp⟩ (fun j H2 _ h => SqL.of (h.1 _ _ hl)) ?_ ?_⟩
      · rintro j x H2 hx ⟨e2, ys, hy, hly, hyf⟩
        obtain ⟨a, ns, rfl, hns, ha⟩ := hls.get hx
        have ln := lot_len i ns (List.mem_of_getElem? hns)
        refine ⟨rfl, _, rfl, _, rfl, (by show 1 ≤ sizeLine; decide), fun t ht => ?_⟩
        apply v_cat (upd_new ht (e2 _ _ ha)) upd_same
        · refine small ?_
          simp only [List.length_map, List.length_cons, List.length_nil]
          omega
        intro r hr
        have hy2 := upd_new (o' := .lst (vns ns ++ [.int (1 + (i : Int))])) hr (upd_new (o' := .lst [.int (1 + (i : Int))]) ht hy)
        have e3 := (e2.trans (same_new (o' := .lst [.int (1 + (i : Int))]) ht)).trans (same_new (o' := .lst (vns ns ++ [.int (1 + (i : Int))])) hr)
        have l2 := (hly.same (same_new (o' := .lst [.int (1 + (i : Int))]) ht)).same (same_new (o' := .lst (vns ns ++ [.int (1 + (i : Int))])) hr)
        have lj : ys.length = j := by
          rw [hly.len, List.length_map, List.length_take]
          have := (List.getElem?_eq_some_iff.mp hns).1
          omega
        have rD : r ≠ D := fun z => by rw [z, upd_new ht hy] at hr; cases hr
        refine ⟨ys, hy2, ?_, same_mut hD e3, _, upd_same, ?_, ?_⟩
        · have := (List.getElem?_eq_some_iff.mp hns).1
          rw [lots_len] at this
          refine small' ?_
          omega
        · rw [VM.take_succ hns, List.map_append]
          -- the new list at D: the old ones stand, the new one behind them
          have keep : Lsts (upd (upd (upd H2 t (.lst [.int (1 + (i : Int))])) r (.lst (vns ns ++ [.int (1 + (i : Int))]))) D (.lst (ys ++ [V.ref r]))) ys (((VM.lots i).take j).map (· ++ [i + 1])) := l2.put hy2 _ fun x hx => hx
          refine Lsts.append keep (.cons ?_ .nil)
          rw [upd_ne rD, upd_same]
          rw [show ((1 : Int) + (i : Int)) = ((i + 1 : Nat) : Int) by omega]
          simp [vns, vn]
        · intro y hy3 z
          rcases List.mem_append.mp hy3 with h | h
          · exact hyf y h z
          · have h' : y = V.ref r := by simpa using h
            rw [h'] at z
            injection z with z
            rw [z, upd_new ht (e2 _ _ hf)] at hr
            cases hr
      · rintro H2 ⟨e2, ys, hy, hly, hyf⟩
        rw [len1, ← lots_len i, List.take_length] at hly
        have len2 := hly.len
        rw [List.length_map, lots_len] at len2
        apply v_cat (e2 _ _ hl) hy
        · refine small ?_
          omega
        intro r hr
        refine ⟨r, xs ++ ys, _, rfl, (e.trans e2).free hr, (e.trans e2).trans (same_new hr), ?_, upd_new hr (e2 _ _ hf), upd_same, Lsts.append ((hls.same e2).same (same_new hr)) (hly.same (same_new hr)), ?_, hi2⟩
        · intro z
          rw [z, e2 _ _ hf] at hr
          cases hr
        · intro x hx
          rcases List.mem_append.mp hx with h | h
          · exact hxf x h
          · exact hyf x h
    · rintro σ H' ⟨q, xs, v3, rfl, hq, e, hne, hf, hl, hls, hxf, hi'⟩
      rw [show (((top : Nat) : Int) + 1 - 1).toNat = top by omega] at hls
      have lenL := hls.len
      rw [lots_len] at lenL
      have p64 := two_pow ht
      -- the entries of each lot
      refine ⟨_, rfl, q, rfl, ⟨_, SqL.of hl⟩, for_list (K := K) (a := q) (xs := xs) (fun j σ H2 => ∃ v3 v4 v5 v6 fs, σ = [some (vn top), some (.ref q), some (.ref fa), v3, v4, v5, v6, none] ∧ But fa H' H2 ∧ H2 fa = some (.lst fs) ∧ Prs K H2 fs (((VM.lots top).take j).map VM.ent))
        ⟨_, _, _, _, [], rfl, fun _ _ h _ => h, hf, .nil⟩ (fun j σ H2 _ ⟨_, _, _, _, _, _, b, _, _⟩ => SqL.of (b _ _ hl hne)) ?_ ?_⟩
      · rintro j x σ H2 hx ⟨v3, v4, v5, v6, fs, rfl, hb, hfs, hprs⟩
        obtain ⟨a, lot, rfl, hlot, ha⟩ := hls.get hx
        have naf : a ≠ fa := fun z => hxf _ (List.mem_of_getElem? hx) (by rw [z])
        have hlen := lot_len top lot (List.mem_of_getElem? hlot)
        have hfl : fs.length = j := by
          have := (List.getElem?_eq_some_iff.mp hlot).1
          rw [hprs.len, List.length_map, List.length_take]
          omega
        have ha2 := hb _ _ ha naf
        -- left, entries = list(lot), []
        refine ⟨_, rfl, a, _, rfl, .inl (SqL.of ha2), fun la hla => ⟨(by show 0 ≤ sizeLine; decide), fun ea hea => ⟨_, _, rfl, ?_⟩⟩⟩
        have b2 : Same H2 (upd (upd H2 la (.lst (vns lot))) ea (.lst [])) := (same_new hla).trans (same_new hea)
        have nla := hla
        have nea := (same_new hla).free hea
        have lae : la ≠ ea := fun z => by rw [← z, upd_same] at hea; cases hea
        refine while_by (fun σ H3 => ∃ l e, σ = [some (vn top), some (.ref q), some (.ref fa), v3, some (.ref a), some (.ref la), some (.ref ea), none] ∧ Same H2 H3 ∧ H3 la = some (.lst (vns l)) ∧ H3 ea = some (.lst (vns e)) ∧
            l.length + e.length ≤ 6 ∧ VM.ent lot = e ++ VM.entries l.length e.length l) (fun σ H3 => match H3 la with | some (.lst xs) => xs.length | _ => 0) ?_ ?_ ?_
        · exact ⟨lot, [], rfl, b2, upd_new hea upd_same, upd_same, by simp; omega, rfl⟩
        · rintro σ H3 ⟨l, e, rfl, s3, hl3, he3, hle, hent⟩
          refine ⟨_, rfl, (by show 0 ≤ sizeLine; decide), fun t ht => ⟨_, _, .lst (SqL.of (upd_new ht hl3)) (dp_vns l), .lst (SqL.of upd_same) (dp_vns []), shaped_ilist l, shaped_ilist [], ?_⟩⟩
          rw [eqv_ilist]
          refine ⟨_, rfl, ?_⟩
          refine v_ifn (fun hc => ?_) (fun hc => ?_)
          · have hl4 : upd H3 t (.lst []) la = some (.lst (vns l)) := upd_new ht hl3
            have he4 : upd H3 t (.lst []) ea = some (.lst (vns e)) := upd_new ht he3
            have s4 : Same H2 (upd H3 t (.lst [])) := s3.trans (same_new ht)
            have mu3 : (match H3 la with | some (.lst xs) => xs.length | _ => 0) = l.length := by
              rw [hl3]
              simp [vns]
            have fin : ∀ (v : Nat) (l' : List Nat), l'.length + 1 = l.length → VM.entries l.length e.length l = v :: VM.entries l'.length (e.length + 1) l' →
                (∃ l'' e', ([some (vn top), some (.ref q), some (.ref fa), v3, some (.ref a), some (.ref la), some (.ref ea), none] : List (Option V)) = [some (vn top), some (.ref q), some (.ref fa), v3, some (.ref a), some (.ref la), some (.ref ea), none] ∧
                  Same H2 (upd (upd (upd H3 t (.lst [])) la (.lst (vns l'))) ea (.lst (vns e ++ [vn v]))) ∧ (upd (upd (upd H3 t (.lst [])) la (.lst (vns l'))) ea (.lst (vns e ++ [vn v]))) la = some (.lst (vns l'')) ∧
                  (upd (upd (upd H3 t (.lst [])) la (.lst (vns l'))) ea (.lst (vns e ++ [vn v]))) ea = some (.lst (vns e')) ∧ l''.length + e'.length ≤ 6 ∧ VM.ent lot = e' ++ VM.entries l''.length e'.length l'') ∧
                (match (upd (upd (upd H3 t (.lst [])) la (.lst (vns l'))) ea (.lst (vns e ++ [vn v]))) la with | some (.lst xs) => xs.length | _ => 0) < (match H3 la with | some (.lst xs) => xs.length | _ => 0) := by
              intro v l' h1 h2
              have g1 : (upd (upd (upd H3 t (.lst [])) la (.lst (vns l'))) ea (.lst (vns e ++ [vn v]))) la = some (.lst (vns l')) := upd_old lae upd_same
              refine ⟨⟨l', e ++ [v], rfl, same_mut nea (same_mut nla s4), g1, ?_, ?_, ?_⟩, ?_⟩
              · rw [upd_same]
                simp [vns]
              · simp
                omega
              · rw [hent, h2]
                simp
              · rw [g1, mu3]
                simp [vns]
                omega
            refine ⟨_, rfl, .inl ⟨rfl, _, SqL.of he4⟩, _, rfl, ?_⟩
            apply v_lenL (SqL.of he4)
            refine .inl ⟨_, rfl, _, _, rfl, rfl, (by show (0 : Int) < 2; decide), rfl, _, rfl, ?_⟩
            have el : ((vns e).length : Int) = (e.length : Int) := by simp [vns]
            refine v_ifd (fun hp => ?_) (fun hp => ?_)
            · have hp' : e.length % 2 = 0 := by
                have h0 : V.int (((vns e).length : Int) % 2) = V.int 0 := hp
                injection h0 with h1
                rw [el] at h1
                omega
              obtain ⟨l', v, rfl⟩ : ∃ l' v, l = l' ++ [v] := by
                rcases List.eq_nil_or_concat l with h | ⟨l', v, h⟩
                · exact absurd h hc
                · exact ⟨l', v, by rw [h, List.concat_eq_append]⟩
              have hvl : vns (l' ++ [v]) = vns l' ++ [vn v] := by simp [vns]
              refine ⟨_, rfl, .inl ⟨rfl, _, SqL.of hl4⟩, _, rfl, la, _, -1, l'.length, vn v, rfl, rfl, hl4, by decide, by decide, ?_, ?_, ?_⟩
              · rw [hvl, List.length_append, List.length_map]
                exact at_last l'.length
              · rw [hvl]
                simp [vns]
              · have hee : (vns (l' ++ [v])).eraseIdx l'.length = vns l' := by
                  rw [hvl, ← List.length_map (f := vn) (as := l')]
                  exact erase_last _ _
                rw [hee]
                apply v_app (upd_old (Ne.symm lae) he4)
                · refine small' ?_
                  simp only [List.length_map]
                  omega
                · exact fin v l' (by simp) (entries_last l' v e.length hp')
            · have hp' : ¬ e.length % 2 = 0 := by
                intro h
                apply hp
                show V.int (((vns e).length : Int) % 2) = V.int 0
                rw [el]
                congr 1
                omega
              obtain ⟨v, l', rfl⟩ : ∃ v l', l = v :: l' := by
                cases l with
                | nil => exact absurd rfl hc
                | cons v l' => exact ⟨v, l', rfl⟩
              refine ⟨_, rfl, .inl ⟨rfl, _, SqL.of hl4⟩, la, _, 0, 0, vn v, rfl, rfl, hl4, by decide, by decide, ?_, rfl, ?_⟩
              · rw [List.length_map]
                exact at_first l'.length
              · apply v_app (upd_old (Ne.symm lae) he4)
                · refine small' ?_
                  simp only [List.length_map]
                  omega
                · exact fin v l' (by simp) (entries_first l' v e.length hp')
          · -- found.append((len(entries), tuple(entries)))
            subst hc
            have he4 : upd H3 t (.lst []) ea = some (.lst (vns e)) := upd_new ht he3
            have s4 : Same H2 (upd H3 t (.lst [])) := s3.trans (same_new ht)
            have hent' : VM.ent lot = e := by
              rw [hent]
              simp [VM.entries]
            have hf4 := s4 _ _ hfs
            refine ⟨_, rfl, .inl ⟨rfl, _, SqL.of hf4⟩, _, rfl, ?_⟩
            apply v_lenL (SqL.of he4)
            refine ⟨_, rfl, ea, _, rfl, .inl ⟨SqL.of he4, fun u hu => ⟨(by show 2 ≤ sizeLine; decide), fun r hr => ?_⟩⟩⟩
            have s6 := (s4.trans (same_new (o' := .tup (vns e)) hu)).trans (same_new (o' := .tup [.int (vns e).length, .ref u]) hr)
            have hf6 := s6 _ _ hfs
            apply v_app hf6
            · refine small' ?_
              have := (List.getElem?_eq_some_iff.mp hlot).1
              rw [lots_len] at this
              omega
            · refine ⟨_, _, _, _, _, rfl, but_trans hb (but_trans (but_same s6) but_upd), upd_same, ?_⟩
              rw [VM.take_succ hlot, List.map_append]
              have kp : ∀ a xs, SqT K H2 a xs → SqT K (upd (upd (upd (upd H3 t (.lst [])) u (.tup (vns e))) r (.tup [.int (vns e).length, .ref u])) fa (.lst (fs ++ [.ref r]))) a xs := fun a xs h =>
                sqT_but but_upd hf6 (sqT_same s6 h)
              have nr : r ≠ fa := fun z => by rw [z, upd_new hu hf4] at hr; cases hr
              have nu : u ≠ fa := fun z => by rw [z, hf4] at hu; cases hu
              refine Prs.append (hprs.but kp) (.cons (e := u) (SqT.of ?_) (SqT.of ?_) .nil)
              · rw [upd_ne nr, upd_same, hent']
                simp [vns, vn]
              · rw [upd_ne nu, hent']
                exact upd_new hr upd_same
        · rintro σ H Q1 Q2 f ⟨v, h1, h2, h3⟩
          exact ⟨v, h1, h2, fun p hp => let ⟨d, e, a, b, c, dd, k, hk, q⟩ := h3 p hp; ⟨d, e, a, b, c, dd, k, hk, f _ _ q⟩⟩
      · rintro σ H2 ⟨v3, v4, v5, v6, fs, rfl, hb, hfs, hprs⟩
        rw [lenL, ← lots_len top, List.take_length] at hprs
        have hms : (VM.lots top).map VM.ent = VM.msOf top := rfl
        rw [hms] at hprs
        have hfl := hprs.len
        obtain ⟨M, hM, eM⟩ := srt_map fs (VM.msOf top)
        refine ⟨_, rfl, fa, fs, (VM.msOf top).map penc, rfl, SqL.of hfs, hprs.dp, ?_, ?_, ?_, fun p hp => ?_⟩
        · intro d hd d' hd'
          obtain ⟨a, _, rfl⟩ := List.mem_map.mp hd
          obtain ⟨b, _, rfl⟩ := List.mem_map.mp hd'
          exact alike_penc a b
        · refine .inl fun d hd => ?_
          obtain ⟨a, _, rfl⟩ := List.mem_map.mp hd
          exact ⟨_, _, rfl⟩
        · intro d hd
          obtain ⟨a, _, rfl⟩ := List.mem_map.mp hd
          show max 0 (max (PyData.depthAll (a.map pint) + 1) 0) + 1 ≤ 60
          rw [dep_ints]
          decide
        · have eF : (srt fs ((VM.msOf top).map penc)).map Prod.fst = M.map Prod.fst := by
            rw [eM, List.map_map]
            rfl
          rw [eF]
          refine ⟨p, rfl, ⟨_, SqL.of upd_same⟩, fun D hD => lc_list (K := K) (a := p) (xs := M.map Prod.fst) (fun j H3 => Same (upd H2 p (.lst (M.map Prod.fst))) H3 ∧ ∃ ys, H3 D = some (.lst ys) ∧ Tups K H3 ys ((M.take j).map Prod.snd))
            ⟨same_new hD, [], upd_same, .nil⟩ (fun j H3 _ h => h.1.seq (SqL.of upd_same)) ?_ ?_⟩
          · rintro j x H3 hx ⟨e3, ys, hy, hty⟩
            rw [List.getElem?_map] at hx
            cases em : M[j]? with
            | none => rw [em] at hx; cases hx
            | some m =>
              rw [em] at hx
              obtain rfl : m.1 = x := Option.some.inj hx
              obtain ⟨x, ns⟩ := m
              have hmem : (x, ns) ∈ fs.zip (VM.msOf top) := hM.mem_iff.mp (List.mem_of_getElem? em)
              obtain ⟨t, u, rfl, ht1, hu1⟩ := hprs.zip x ns hmem
              have e23 : Same H2 H3 := (same_new hp).trans e3
              refine ⟨t, _, rfl, sqT_same e23 ht1, rfl, _, _, rfl, _, _, rfl, rfl, ?_⟩
              refine ⟨rfl, _, rfl, ys, hy, ?_, same_mut hD e3, _, upd_same, ?_⟩
              · have h1 := hty.len
                have h2 : (M.take j).length ≤ j := by
                  rw [List.length_take]
                  omega
                have h3 : j < M.length := (List.getElem?_eq_some_iff.mp em).1
                have h4 : M.length = (fs.zip (VM.msOf top)).length := hM.length_eq
                rw [List.length_zip, hfl, ← hms, List.length_map, lots_len] at h4
                rw [List.length_map] at h1
                refine small' ?_
                omega
              · rw [VM.take_succ em, List.map_append]
                refine Tups.append (hty.but fun a ns h => sqT_but but_upd hy h) (Tups.one ?_)
                exact sqT_but but_upd hy (sqT_same e23 hu1)
          · rintro H3 ⟨e3, ys, hy, hty⟩
            have h4 : M.length = (M.map Prod.fst).length := by simp
            rw [← h4, List.take_length] at hty
            have hperm : (M.map Prod.snd).Perm (VM.msOf top) := by
              have := hM.map Prod.snd
              rw [snd_zip2 hfl] at this
              exact this
            have e23 : Same H2 H3 := (same_new hp).trans e3
            have eHH : Same H H3 := fun b o hbo => e23 _ _ (hb b o (e b o hbo) fun z => by rw [z, nfa] at hbo; cases hbo)
            refine k D H3 ys _ ?_ eHH hy hty hperm
            cases hn : H D with
            | none => rfl
            | some o =>
              have h5 := hb D o (e D o hn) fun z => by rw [z, nfa] at hn; cases hn
              have h6 := upd_new (o' := .lst (M.map Prod.fst)) hp h5
              rw [hD] at h6
              cases h6
end

theorem tyX_put {K : PySem.W.Frag} {H : Hp} {f : Addr} {u u' : List V} (hf : H f = some (.lst u)) {x : V} {t : Value} (h : TyX K H x t) : TyX K (upd H f (.lst u')) x t := by
  have ne : ∀ {a : Addr} {o : HO}, H a = some o → (∀ z, o ≠ .lst z) → a ≠ f := fun {a o} ha hn e => by
    rw [e, hf] at ha
    exact hn u (Option.some.inj ha).symm
  cases h with
  | base b =>
    refine .base ?_
    cases b with
    | non => exact .non
    | bl => exact .bl _
    | int => exact .int _
    | str => exact .str _
    | flt => exact .flt _
    | @lst a xs h =>
      by_cases e : a = f
      · rw [e]
        exact .lst upd_same
      · exact .lst (upd_old e h)
    | frz h => exact .frz (upd_old (ne h (by intro z e; cases e)) h)
    | tup h => exact .tup (upd_old (ne h (by intro z e; cases e)) h)
    | dK h => exact .dK (upd_old (ne h (by intro z e; cases e)) h)
    | dT h => exact .dT (upd_old (ne h (by intro z e; cases e)) h)
    | ins h a b c d g => exact .ins (upd_old (ne h (by intro z e; cases e)) h) a b c d g
  | byt => exact .byt _
  | set h => exact .set (upd_old (ne h (by intro z e; cases e)) h)
  | kList h c => exact .kList h c
  | kTuple h c => exact .kTuple h c
  | kDict h c => exact .kDict h c
  | fTuple h => exact .fTuple (upd_old (ne h (by intro z e; cases e)) h)
  | fDict h => exact .fDict (upd_old (ne h (by intro z e; cases e)) h)
theorem OkT.put {K : PySem.W.Frag} {H : Hp} {f : Addr} {u u' : List V} (hf : H f = some (.lst u)) {x : V} {n : String} (h : OkT K H x n) : OkT K (upd H f (.lst u')) x n := ⟨tyX_put hf h.ty, h.kd⟩
theorem MemV.put {K : PySem.W.Frag} {H : Hp} {f : Addr} {u u' : List V} (hf : H f = some (.lst u)) {top : Nat} {x : V} {b : Bool} (h : MemV K H top x b) : MemV K (upd H f (.lst u')) top x b := by
  cases h with
  | tup h ht hi hz => exact .tup (sqT_but but_upd hf h) (OkT.put hf ht) (fun x hx => let ⟨n, q⟩ := hi x hx; ⟨n, OkT.put hf q⟩) hz
  | other h hn => exact .other (OkT.put hf h) hn
theorem sqL_keep {K : PySem.W.Frag} {H H' : Hp} {f a : Addr} {xs : List V} (h : SqL K H a xs) (hf : H f = none) (e : But f H H') : SqL K H' a xs := by
  rcases h with (h | ⟨o, h⟩) | h
  · exact .inl (.inl (e _ _ h (ne_of_none h hf)))
  · exact .inl (.inr ⟨o, e _ _ h (ne_of_none h hf)⟩)
  · exact .inr h
theorem ok_tup {K : PySem.W.Frag} {H : Hp} {a : Addr} {xs : List V} (h : H a = some (.tup xs)) : OkT K H (.ref a) "tuple" := ⟨.base (.tup h), by decide⟩
theorem ok_tupS {K : PySem.W.Frag} {H : Hp} {a : Addr} {xs : List V} (h : SqT K H a xs) : OkT K H (.ref a) "tuple" := by
  rcases h with (h | ⟨o, h⟩) | ⟨o, its, n, hk, hc, _⟩
  · exact ⟨.base (.tup h), by decide⟩
  · exact ⟨.fTuple h, by decide⟩
  · exact ⟨.kTuple hk hc, by decide⟩
theorem ok_lst {K : PySem.W.Frag} {H : Hp} {a : Addr} {xs : List V} (h : H a = some (.lst xs)) : OkT K H (.ref a) "list" := ⟨.base (.lst h), by decide⟩
theorem ok_int {K : PySem.W.Frag} {H : Hp} {i : Int} : OkT K H (.int i) "int" := ⟨.base (.int _), by decide⟩
/-- a memory of the law's list as a value that is handed in -/
theorem good_mem {K : PySem.W.Frag} {H : Hp} {top : Nat} {a : Addr} {ns : List Nat} (g : VM.Good top ns) (h1 : top ≤ 6) (h : SqT K H a (vns ns)) (hz : ns.length ≤ 1000) : MemV K H top (.ref a) true := by
  have e : isMem top (vns ns) = true := by
    unfold isMem
    rw [nat_vns, lvl_vns g.lev, g.self]
    simp
  rw [← e]
  refine .tup h (ok_tupS h) (fun x hx => ?_) (by simpa [vns] using hz)
  obtain ⟨n, _, rfl⟩ := List.mem_map.mp hx
  exact ⟨_, ok_int⟩
theorem ms_len {top : Nat} (h6 : top ≤ 6) {a : List Nat} (h : a ∈ VM.msOf top) : a.length ≤ 6 := by
  rcases (show top = 0 ∨ top = 1 ∨ top = 2 ∨ top = 3 ∨ top = 4 ∨ top = 5 ∨ top = 6 by omega) with rfl | rfl | rfl | rfl | rfl | rfl | rfl
  · exact (show ∀ a ∈ VM.msOf 0, a.length ≤ 6 by decide +kernel) a h
  · exact (show ∀ a ∈ VM.msOf 1, a.length ≤ 6 by decide +kernel) a h
  · exact (show ∀ a ∈ VM.msOf 2, a.length ≤ 6 by decide +kernel) a h
  · exact (show ∀ a ∈ VM.msOf 3, a.length ≤ 6 by decide +kernel) a h
  · exact (show ∀ a ∈ VM.msOf 4, a.length ≤ 6 by decide +kernel) a h
  · exact (show ∀ a ∈ VM.msOf 5, a.length ≤ 6 by decide +kernel) a h
  · exact (show ∀ a ∈ VM.msOf 6, a.length ≤ 6 by decide +kernel) a h

section
variable {P : Program} {w : World} {K : PySem.W.Frag} {mg : Str → Option Value} {base : Heap} {C D : Addr}
theorem sw_small {n : Nat} (h : n ≤ 6) : (VM.switches n).length ≤ 42 := by
  rcases sw_len n with h' | h'
  · omega
  · omega
theorem filter_take {α : Type} {l : List α} {i : Nat} {x : α} (p : α → Bool) (h : l[i]? = some x) : (l.take (i + 1)).filter p = (l.take i).filter p ++ (if p x then [x] else []) := by
  rw [VM.take_succ h, List.filter_append]
  congr 1
  by_cases c : p x
  · simp [c]
  · simp [c]
/-! ### switches -/
theorem ok_psw {f : Addr} {fd : FuncData} (F : Fun K "switches" "switches" sswitches f fd) (T : Txt K mg C) : FnOk P w K mg base CX0 1 f fd ["top"] (spSwitches K) := by
  have nd := scswitches.nd
  refine F.ok scswitches (fun vs H Q E h => ?_) (fun cdv A outer s H vs Q E hr h => ?_)
  · obtain ⟨top, rfl, _⟩ := h
    rfl
  · obtain ⟨top, rfl, ht, k⟩ := h
    refine ⟨_, (pss_one (ps_ret (pe_lc2 (own := [("up", 1), ("down", 2)]) (vs1 := [2]) (by rfl) nd (pi_range2 (by rfl) T.range_ (pa_cons pe_int (pa_cons (pe_op op_add (pv 0) pe_int) pa_nil))) (blkOk_by (own := [("up", 1), ("down", 2)]) (N := nswitches) (sc := defScope sswitches) (by decide +kernel)) (by decide) (fun _ _ _ _ _ => (pg_name (i := 1) nd rfl (Or.inl rfl))) (fun _ _ _ _ _ => pts_nil) (fun _ _ _ _ _ => (pi_range1 (by rfl) T.range_ (pa_cons (pv 1) pa_nil))) (fun _ _ _ _ _ => (pg_name (i := 2) nd rfl (Or.inl rfl))) (fun _ _ _ _ _ => pts_nil) (fun _ _ _ _ _ => (pe_tup (pa_cons (pv 1) (pa_cons (pv 2) pa_nil))))))), ?_⟩
    refine ⟨_, rfl, _, _, rfl, rfl, _, _, rfl, ⟨by decide, by decide, by omega, by omega⟩, fun D hD => it_range (lo := 1) (n := (((top : Nat) : Int) + 1 - 1).toNat)
      (fun i H' => Same H H' ∧ i ≤ top ∧ ∃ xs, H' D = some (.lst xs) ∧ Tups K H' xs (VM.switches i)) ?_ ?_ ?_⟩
    · exact ⟨same_new hD, Nat.zero_le _, [], upd_same, .nil⟩
    · rintro i H' hi ⟨e, hi', xs, hx, hty⟩
      have hi2 : i < top := by omega
      refine ⟨rfl, ?_⟩
      refine ⟨_, rfl, _, rfl, by omega, by omega, it_range (lo := 0) (n := ((1 : Int) + (i : Int)).toNat)
        (fun j H2 => Same H H2 ∧ ∃ ys, H2 D = some (.lst ys) ∧ Tups K H2 ys (VM.switches i ++ (List.range j).map fun d => [i + 1, d])) ?_ ?_ ?_⟩
      · exact ⟨e, xs, hx, by simpa using hty⟩
      · rintro j H2 hj ⟨e2, ys, hy, hty2⟩
        refine ⟨rfl, _, rfl, _, rfl, (by show 2 ≤ sizeLine; decide), fun t ht' => ⟨_, upd_new ht' hy, ?_, ?_⟩⟩
        · have h1 := hty2.len
          have h2 := sw_small (n := i) (by omega)
          refine small' ?_
          rw [h1, List.length_append, List.length_map, List.length_range]
          omega
        · have hy2 : (upd H2 t (.tup [.int (1 + (i : Int)), .int (0 + (j : Int))])) D = some (.lst ys) := upd_new ht' hy
          refine ⟨same_mut hD (e2.trans (same_new ht')), _, upd_same, ?_⟩
          rw [List.range_succ, List.map_append, ← List.append_assoc]
          refine Tups.append ((hty2.same (same_new ht')).but fun a ns h => sqT_but (f := D) but_upd hy2 h) (Tups.one (SqT.of ?_))
          have tD : t ≠ D := fun z => by rw [z, hy] at ht'; cases ht'
          rw [upd_ne tD, upd_same]
          have a1 : (1 : Int) + (i : Int) = ((i + 1 : Nat) : Int) := by omega
          have a2 : (0 : Int) + (j : Int) = ((j : Nat) : Int) := by omega
          rw [a1, a2]
          rfl
      · rintro H2 ⟨e2, ys, hy, hty2⟩
        refine ⟨e2, hi2, ys, hy, ?_⟩
        rw [sw_succ]
        rw [show ((1 : Int) + (i : Int)).toNat = i + 1 by omega] at hty2
        exact hty2
    · rintro H' ⟨e, hi, xs, hx, hty⟩
      rw [show (((top : Nat) : Int) + 1 - 1).toNat = top by omega] at hty
      exact k D H' xs hD e hx hty
/-! ### check_levels -/
/-- where the first thing stands that is no level -/
def badIx (top : Nat) (xs : List V) : Option Nat := xs.findIdx? fun x => !lvl top x
/-- a value that is handed in as levels, and the index that is told of it -/
inductive LevV (K : PySem.W.Frag) (H : Hp) (top : Nat) : V → Option Nat → Prop
  | lst {a : Addr} {xs : List V} (h : SqL K H a xs) (ht : OkT K H (.ref a) "list") (hi : ∀ x ∈ xs, ∃ n, OkT K H x n) (hz : xs.length ≤ 1000) : LevV K H top (.ref a) (badIx top xs)
  | other {x : V} {n : String} (h : OkT K H x n) (hn : n ≠ "list") : LevV K H top x (some 0)
theorem sqL_same {H H' : Hp} {a : Addr} {xs : List V} (e : Same H H') (h : SqL K H a xs) : SqL K H' a xs := e.seq h
theorem LevV.same {H H' : Hp} {top : Nat} (e : Same H H') {x : V} {b : Option Nat} (h : LevV K H top x b) : LevV K H' top x b := by
  cases h with
  | lst h ht hi hz => exact .lst (e.seq h) (ht.same e) (fun x hx => let ⟨n, q⟩ := hi x hx; ⟨n, q.same e⟩) hz
  | other h hn => exact .other (h.same e) hn
theorem badIx_none {top : Nat} {xs : List V} (h : badIx top xs = none) : xs = vns (xs.map natV) ∧ ∀ n ∈ xs.map natV, n ≤ top := by
  refine all_lvl (List.all_eq_true.mpr fun x hx => ?_)
  have := List.findIdx?_eq_none_iff.mp h x hx
  simpa using this
def spCheckLevels (K : PySem.W.Frag) (D : Addr) : Sp := fun vs H Q E => ∃ (top : Nat) (x : V) (b : Option Nat), vs = [vn top, x] ∧ LevV K H top x b ∧ (b = none → ∀ H', Same H H' → Q .non H') ∧
  (∀ i, b = some i → ∀ d H', Same H H' → H' d = some (.xd [("index", vn i)]) → E (.ref D) (some d) H')
theorem ok_check_levels {f : Addr} {fd : FuncData} (F : Fun K "check_levels" "check_levels" scheck_levels f fd) (T : Txt K mg C) (Dis_level : Def P w K mg base CX0 2 "is_level" ["top", "value"] (spIsLevel K)) (DBadLevels : OwnIx P w K mg base "BadLevels" D) :
    FnOk P w K mg base (L2.CX P w) 3 f fd ["top", "levels"] (spCheckLevels K D) := by
  have nd := sccheck_levels.nd
  refine F.okX sccheck_levels (fun vs H Q E h => ?_) (fun cdv A outer s H vs Q E hr h => ?_)
  · obtain ⟨top, x, b, rfl, _⟩ := h
    rfl
  · obtain ⟨top, x, b, rfl, hm, k1, k2⟩ := h
    refine ⟨_, (pss_cons (ps_if (pt_not (pt_val (pe_callB call_isi (by rfl) T.isinstance_ (by decide +kernel) (pa_cons (pv 1) (pa_cons (pe_bltn (v := .ty "list") (by rfl) T.list_ (by decide +kernel) rfl) pa_nil))))) (pss_one (ps_raise rfl (takes_of rfl rfl rfl rfl) (DBadLevels.pmk (hr.mono (by decide)) rfl (pa_cons pe_int pa_nil)))) pss_nil) (pss_one (ps_for (passes_of rfl) rfl (pi_enum (by rfl) T.enumerate_ (pa_cons (pv 1) pa_nil)) (pg_tup rfl (pgs_cons (pg_name (i := 2) nd rfl (Or.inl rfl)) (pgs_cons (pg_name (i := 3) nd rfl (Or.inl rfl)) pgs_nil))) (pss_one (ps_if (pt_not (pt_val (pe_callD Dis_level (hr.mono (by decide)) rfl pass0 (pa_cons (pv 0) (pa_cons (pv 3) pa_nil))))) (pss_one (ps_raise rfl (takes_of rfl rfl rfl rfl) (DBadLevels.pmk (hr.mono (by decide)) rfl (pa_cons (pv 2) pa_nil)))) pss_nil))))), ?_⟩
    cases hm with
    | other ok hn =>
      refine ⟨_, rfl, ?_⟩
      apply v_isi ok (kit_list ok.kd)
      refine ⟨_, rfl, ?_⟩
      refine v_ift ?_ ?_
      · simp [hn]
      · exact mk_index fun d H' e hd => k2 0 rfl d H' e hd
    | @lst a xs h ht hi hz =>
      refine ⟨_, rfl, ?_⟩
      apply v_isi ht (kit_list ht.kd)
      refine ⟨_, rfl, ?_⟩
      refine v_iff (by rfl) ?_
      refine ⟨_, rfl, a, _, rfl, h, for_enumL (K := K) (a := a) (xs := xs) (fun i σ H' => (∃ v1 v2, σ = [some (vn top), some (.ref a), v1, v2]) ∧ Same H H' ∧ ∀ x ∈ xs.take i, lvl top x = true)
        ⟨⟨_, _, rfl⟩, Same.refl _, by simp⟩ (fun i σ H' h' => h'.2.1.seq h) ?_ ?_⟩
      · rintro i x Tt σ H' hx ⟨⟨v1, v2, rfl⟩, e, hl⟩ hT
        have e1 : Same H (upd H' Tt (.tup [.int (i : Nat), x])) := e.trans (same_new hT)
        obtain ⟨n, ok⟩ := hi x (List.mem_of_getElem? hx)
        refine ⟨Tt, _, rfl, SqT.of upd_same, rfl, _, _, rfl, _, _, rfl, rfl, ?_⟩
        refine ⟨_, rfl, _, rfl, top, x, n, rfl, ok.same e1, ?_⟩
        refine ⟨_, rfl, ?_⟩
        refine v_ifb (fun hb => ?_) (fun hb => ?_)
        · have hb' : lvl top x = false := by simpa using hb
          refine ⟨_, rfl, ?_⟩
          refine mk_index fun d H2 e2 hd => k2 i ?_ d H2 (e1.trans e2) hd
          have hi' := (List.getElem?_eq_some_iff.mp hx)
          refine List.findIdx?_eq_some_iff_getElem.mpr ⟨hi'.1, ?_, fun j hj => ?_⟩
          · rw [hi'.2, hb']
            rfl
          · have : xs[j]'(Nat.lt_trans hj hi'.1) ∈ xs.take i := by
              refine List.mem_take_iff_getElem.mpr ⟨j, ?_, rfl⟩
              have := hi'.1
              omega
            rw [hl _ this]
            decide
        · have hb' : lvl top x = true := by simpa using hb
          refine ⟨⟨_, _, rfl⟩, e1, fun y hy => ?_⟩
          rw [VM.take_succ hx, List.mem_append] at hy
          rcases hy with hy | hy
          · exact hl y hy
          · rw [List.mem_singleton.mp hy]
            exact hb'
      · rintro σ H' ⟨⟨v1, v2, rfl⟩, e, hl⟩
        rw [List.take_length] at hl
        refine k1 ?_ H' e
        exact List.findIdx?_eq_none_iff.mpr fun x hx => by rw [hl x hx]; rfl
/-! ### memory_after, memory_of -/
theorem memV_true {H : Hp} {top : Nat} {x : V} {b : Bool} (h : MemV K H top x b) (hb : b = Bool.true) : ∃ p m, x = .ref p ∧ SqT K H p (vns m) ∧ m.length ≤ 1000 := by
  cases h with
  | @tup a xs h ht hi hz =>
    refine ⟨a, xs.map natV, rfl, ?_, by simpa using hz⟩
    rw [← isMem_nat hb]
    exact h
  | other h hn => cases hb
theorem levV_none {H : Hp} {top : Nat} {x : V} {b : Option Nat} (h : LevV K H top x b) (hb : b = Option.none) : ∃ p ls, x = .ref p ∧ SqL K H p (vns ls) ∧ ls.length ≤ 1000 ∧ ∀ l ∈ ls, l ≤ top := by
  cases h with
  | @lst a xs h ht hi hz =>
    obtain ⟨e1, e2⟩ := badIx_none hb
    refine ⟨a, xs.map natV, rfl, ?_, by simpa using hz, e2⟩
    rw [← e1]
    exact h
  | other h hn => cases hb
def spAfter (K : PySem.W.Frag) (C D : Addr) : Sp := fun vs H Q E => ∃ (top : Nat) (x y : V) (b : Bool) (c : Option Nat), vs = [vn top, x, y] ∧ MemV K H top x b ∧ LevV K H top y c ∧
  (b = false → ∀ H', Same H H' → E (.ref C) none H') ∧ (b = true → ∀ i, c = some i → ∀ d H', Same H H' → H' d = some (.xd [("index", vn i)]) → E (.ref D) (some d) H') ∧
  (b = true → c = none → ∃ p q m ls, x = .ref p ∧ y = .ref q ∧ SqT K H p (vns m) ∧ SqL K H q (vns ls) ∧ m.length ≤ 1000 ∧ ls.length ≤ 1000 ∧ ∀ r H', Same H H' → SqT K H' r (vns (VM.followed m ls)) → Q (.ref r) H')
theorem ok_after {f : Addr} {fd : FuncData} (F : Fun K "memory_after" "memory_after" smemory_after f fd) (T : Txt K mg C) (Dcheck_memory : Def P w K mg base (L2.CX P w) 4 "check_memory" ["top", "memory"] (spCheckMemory K C))
    (Dcheck_levels : Def P w K mg base (L2.CX P w) 3 "check_levels" ["top", "levels"] (spCheckLevels K D)) (D_followed : Def P w K mg base CX0 2 "_followed" ["memory", "levels"] (spFollowed K)) :
    FnOk P w K mg base (L2.CX P w) 5 f fd ["top", "memory", "levels"] (spAfter K C D) := by
  have nd := scmemory_after.nd
  refine F.okX scmemory_after (fun vs H Q E h => ?_) (fun cdv A outer s H vs Q E hr h => ?_)
  · obtain ⟨top, x, y, b, c, rfl, _⟩ := h
    rfl
  · obtain ⟨top, x, y, b, c, rfl, hx, hy, k1, k2, k3⟩ := h
    refine ⟨_, (pss_cons (ps_expr (pe_callD Dcheck_memory (hr.mono (by decide)) rfl (passes_call (takes_of rfl rfl rfl rfl) (fun _ _ _ _ h => h)) (pa_cons (pv 0) (pa_cons (pv 1) pa_nil)))) (pss_cons (ps_expr (pe_callD Dcheck_levels (hr.mono (by decide)) rfl (passes_call (takes_of rfl rfl rfl rfl) (fun _ _ _ _ h => h)) (pa_cons (pv 0) (pa_cons (pv 2) pa_nil)))) (pss_one (ps_ret (pe_callD D_followed (hr.mono (by decide)) rfl pass0 (pa_cons (pv 1) (pa_cons (pv 2) pa_nil))))))), ?_⟩
    refine ⟨_, rfl, _, rfl, top, x, b, rfl, hx, fun hb H1 e1 => ?_, fun hb H1 e1 => k1 hb H1 e1⟩
    refine ⟨_, rfl, _, rfl, top, y, c, rfl, hy.same e1, fun hc H2 e2 => ?_, fun i hc d H2 e2 hd => k2 hb i hc d H2 (e1.trans e2) hd⟩
    obtain ⟨p, q, m, ls, rfl, rfl, hp, hq, hz1, hz2, kk⟩ := k3 hb hc
    have e12 := e1.trans e2
    exact ⟨_, rfl, _, rfl, p, q, m, ls, rfl, sqT_same e12 hp, .inl (e12.seq hq), by omega, fun r H3 e3 h3 => kk r H3 (e12.trans e3) h3⟩
def spOf (K : PySem.W.Frag) (D : Addr) : Sp := fun vs H Q E => ∃ (top : Nat) (y : V) (c : Option Nat), vs = [vn top, y] ∧ LevV K H top y c ∧ (∀ i, c = some i → ∀ d H', Same H H' → H' d = some (.xd [("index", vn i)]) → E (.ref D) (some d) H') ∧
  (c = none → ∃ q ls, y = .ref q ∧ SqL K H q (vns ls) ∧ ls.length ≤ 1000 ∧ ∀ r H', Same H H' → SqT K H' r (vns (VM.followed [] ls)) → Q (.ref r) H')
theorem ok_of {f : Addr} {fd : FuncData} (F : Fun K "memory_of" "memory_of" smemory_of f fd) (T : Txt K mg C) (Dmemory_after : Def P w K mg base (L2.CX P w) 5 "memory_after" ["top", "memory", "levels"] (spAfter K C D)) :
    FnOk P w K mg base (L2.CX P w) 6 f fd ["top", "history"] (spOf K D) := by
  have nd := scmemory_of.nd
  refine F.okX scmemory_of (fun vs H Q E h => ?_) (fun cdv A outer s H vs Q E hr h => ?_)
  · obtain ⟨top, y, c, rfl, _⟩ := h
    rfl
  · obtain ⟨top, y, c, rfl, hy, k1, k2⟩ := h
    refine ⟨_, (pss_one (ps_ret (pe_callD Dmemory_after (hr.mono (by decide)) rfl (passes_call (takes_of rfl rfl rfl rfl) (fun _ _ _ _ h => h)) (pa_cons (pv 0) (pa_cons (pe_tup pa_nil) (pa_cons (pv 1) pa_nil)))))), ?_⟩
    refine ⟨_, rfl, (by show 0 ≤ sizeLine; decide), fun t ht => ⟨_, rfl, ?_⟩⟩
    have e0 : isMem top ([] : List V) = true := by simp [isMem, VM.followed]
    have hm : MemV K (upd H t (.tup [])) top (.ref t) true := by
      rw [← e0]
      exact .tup (SqT.of upd_same) (ok_tup upd_same) (by simp) (by simp)
    refine ⟨top, .ref t, y, true, c, rfl, hm, hy.same (same_new ht), fun z => Bool.noConfusion z, fun _ i hc d H' e hd => k1 i hc d H' ((same_new ht).trans e) hd, fun _ hc => ?_⟩
    obtain ⟨q, ls, rfl, hq, hz, kk⟩ := k2 hc
    exact ⟨t, q, [], ls, rfl, rfl, SqT.of upd_same, (same_new ht).seq hq, by simp, hz, fun r H' e h => kk r H' ((same_new ht).trans e) h⟩
/-! ### switches_on -/
def spOnP (K : PySem.W.Frag) (C : Addr) : Sp := fun vs H Q E => ∃ (top : Nat) (x : V) (b : Bool), vs = [vn top, x] ∧ top ≤ 6 ∧ MemV K H top x b ∧ (b = false → ∀ H', Same H H' → E (.ref C) none H') ∧
  (b = true → ∃ p m, x = .ref p ∧ SqT K H p (vns m) ∧ ∀ r H' ys, H r = none → Same H H' → H' r = some (.lst ys) → Tups K H' ys (VM.on top m) → Q (.ref r) H')
theorem ok_pon {f : Addr} {fd : FuncData} (F : Fun K "switches_on" "switches_on" sswitches_on f fd) (T : Txt K mg C) (Dcheck_memory : Def P w K mg base (L2.CX P w) 4 "check_memory" ["top", "memory"] (spCheckMemory K C))
    (D_heights : Def P w K mg base CX0 2 "_heights" ["top", "memory"] (spHeights K)) (Dswitches : Def P w K mg base CX0 1 "switches" ["top"] (spSwitches K)) :
    FnOk P w K mg base (L2.CX P w) 5 f fd ["top", "memory"] (spOnP K C) := by
  have nd := scswitches_on.nd
  refine F.okX scswitches_on (fun vs H Q E h => ?_) (fun cdv A outer s H vs Q E hr h => ?_)
  · obtain ⟨top, x, b, rfl, _⟩ := h
    rfl
  · obtain ⟨top, x, b, rfl, ht, hx, k1, k2⟩ := h
    refine ⟨_, (pss_cons (ps_expr (pe_callD Dcheck_memory (hr.mono (by decide)) rfl (passes_call (takes_of rfl rfl rfl rfl) (fun _ _ _ _ h => h)) (pa_cons (pv 0) (pa_cons (pv 1) pa_nil)))) (pss_cons (ps_set (i := 2) nd rfl (Or.inr rfl) (pe_callD D_heights (hr.mono (by decide)) rfl pass0 (pa_cons (pv 0) (pa_cons (pv 1) pa_nil)))) (pss_one (ps_ret (pe_lc (own := [("switch", 3)]) (by rfl) nd (pi_list (pe_callD Dswitches (hr.mono (by decide)) rfl pass0 (pa_cons (pv 0) pa_nil))) (blkOk_by (own := [("switch", 3)]) (N := nswitches_on) (sc := defScope sswitches_on) (by decide +kernel)) (fun _ _ _ _ _ => (pg_name (i := 3) nd rfl (Or.inl rfl))) (fun _ _ _ _ _ => (pts_one (pt_cmpR op_le (pe_ix (kIx rIxT K ix_tup) (pv 3) pe_int (fun _ _ => rfl)) (pe_ix (kIx rIxL K ix_list) (pv 2) (pe_ix (kIx rIxT K ix_tup) (pv 3) pe_int (fun _ _ => rfl)) (fun _ _ => rfl)) (nomark _)))) (fun _ _ _ _ _ => (pv 3))))))), ?_⟩
    refine ⟨_, rfl, _, rfl, top, x, b, rfl, hx, fun hb H1 e1 => ?_, fun hb H1 e1 => k1 hb H1 e1⟩
    obtain ⟨p, m, rfl, hp, kk⟩ := k2 hb
    refine ⟨_, rfl, _, rfl, p, m, top, rfl, sqT_same e1 hp, by omega, fun l H2 n1 e2 h2 => ?_⟩
    have e12 := e1.trans e2
    refine ⟨_, rfl, top, rfl, ht, fun q H3 xs n3 e3 h3 hty => ?_⟩
    have e13 := e12.trans e3
    have hl : H3 l = some (.lst (vns (VM.heights top m))) := e3 _ _ h2
    refine ⟨q, rfl, ⟨_, SqL.of h3⟩, fun r hD => lc_list (K := K) (a := q) (xs := xs) (fun j H4 => Same H3 H4 ∧ ∃ ys, H4 r = some (.lst ys) ∧ Tups K H4 ys (((VM.switches top).take j).filter fun s => decide (s.getD 0 0 ≤ (VM.heights top m).getD (s.getD 1 0) 0)))
      ⟨same_new hD, [], upd_same, .nil⟩ (fun j H4 _ h => SqL.of (h.1 _ _ h3)) ?_ ?_⟩
    · rintro j x H4 hx ⟨e4, ys, hy, hty2⟩
      obtain ⟨t, ns, rfl, hns, hs⟩ := hty.get hx
      obtain ⟨u, d, rfl, hdu, hut⟩ := VM.mem_switches.mp (List.mem_of_getElem? hns)
      have hf := filter_take (fun s => decide (s.getD 0 0 ≤ (VM.heights top m).getD (s.getD 1 0) 0)) hns
      have hs4 := sqT_same e4 hs
      have hh : (VM.heights top m)[d]? = some (VM.height m d) := VM.heights_get m (by omega)
      have hg : (VM.heights top m).getD d 0 = VM.height m d := by
        rw [List.getD_eq_getElem?_getD, hh]
        rfl
      refine ⟨rfl, _, rfl, ?_⟩
      apply v_ixT hs4 rfl
      refine ⟨_, rfl, _, rfl, ?_⟩
      apply v_ixT hs4 rfl
      apply v_ixL (v := vn (VM.height m d)) (SqL.of (e4 _ _ hl)) (at_of (j := d) rfl ?_)
      · refine ⟨_, _, rfl, rfl, _, rfl, ?_⟩
        refine v_ifd (fun hb => ?_) (fun hb => ?_)
        · refine ⟨_, rfl, ys, hy, ?_, same_mut hD e4, _, upd_same, ?_⟩
          · have h2 := hty2.len
            have h3 := List.length_filter_le (fun s => decide (s.getD 0 0 ≤ (VM.heights top m).getD (s.getD 1 0) 0)) ((VM.switches top).take j)
            have h4 := sw_small ht
            rw [List.length_take] at h3
            refine small' ?_
            omega
          · have hb' : decide ([u, d].getD 0 0 ≤ (VM.heights top m).getD ([u, d].getD 1 0) 0) = true := by
              refine decide_eq_true ?_
              show u ≤ (VM.heights top m).getD d 0
              rw [hg]
              omega
            rw [hf, if_pos hb']
            exact Tups.append (hty2.but fun a ns h => sqT_but but_upd hy h) (Tups.one (sqT_but but_upd hy hs4))
        · refine ⟨e4, ys, hy, ?_⟩
          have hb' : ¬ decide ([u, d].getD 0 0 ≤ (VM.heights top m).getD ([u, d].getD 1 0) 0) = true := by
            intro z
            have z' := of_decide_eq_true z
            have z2 : u ≤ (VM.heights top m).getD d 0 := z'
            rw [hg] at z2
            omega
          rw [hf, if_neg hb', List.append_nil]
          exact hty2
      · simp [hh, vns]
    · rintro H4 ⟨e4, ys, hy, hty2⟩
      rw [hty.len, List.take_length] at hty2
      have n5 : H r = none := e13.free hD
      refine kk r H4 ys n5 (e13.trans e4) hy ?_
      · rw [← VM.on_heights]
        exact hty2
end

section
variable {P : Program} {w : World} {K : PySem.W.Frag} {mg : Str → Option Value} {base : Heap} {C D : Addr}
/-! ### the feed, told by what stays -/
def Fd (H : Hp) (f : Addr) : Prop := ∃ a b : Int, H f = some (.lst [.int a, .int b]) ∧ 0 ≤ a ∧ 0 ≤ b
structure Now (f : Addr) (H H' : Hp) : Prop where
  but : But f H H'
  fd : Fd H' f
theorem Now.trans {f : Addr} {H H1 H2 : Hp} (a : Now f H H1) (b : Now f H1 H2) : Now f H H2 := ⟨but_trans a.but b.but, b.fd⟩
theorem Fd.same {f : Addr} {H H' : Hp} (h : Fd H f) (e : Same H H') : Fd H' f := let ⟨a, b, q, x, y⟩ := h; ⟨a, b, e _ _ q, x, y⟩
theorem Now.same {f : Addr} {H H1 H2 : Hp} (a : Now f H H1) (e : Same H1 H2) : Now f H H2 := ⟨but_trans a.but (but_same e), a.fd.same e⟩
theorem Now.of {f : Addr} {H H1 : Hp} (h : Fd H f) (e : Same H H1) : Now f H H1 := ⟨but_same e, h.same e⟩
theorem Now.free {f : Addr} {H H1 : Hp} (h : Fd H f) (a : Now f H H1) {p : Addr} (hp : H1 p = none) : H p = none := by
  cases q : H p with
  | none => rfl
  | some o =>
    by_cases e : p = f
    · obtain ⟨x, y, z, _⟩ := a.fd
      rw [← e, hp] at z
      cases z
    · rw [a.but _ _ q e] at hp
      cases hp
theorem ne_fd {f p : Addr} {H : Hp} (h : Fd H f) (hp : H p = none) : p ≠ f := fun e => by
  obtain ⟨a, b, q, _⟩ := h
  rw [← e, hp] at q
  cases q
def spTakeN : Sp := fun vs H Q _ => ∃ (f : Addr) (n : Int), vs = [.ref f, .int n] ∧ Fd H f ∧ 0 < n ∧ n < 1000000 ∧ ∀ (r : Nat) (H' : Hp), (r : Int) < n → Now f H H' → Q (vn r) H'
theorem def_imp {CX : CXT} {k : Nat} {x : Str} {ps : List Str} {sp sp' : Sp} (D : Def P w K mg base CX k x ps sp) (h : ∀ vs H Q E, sp' vs H Q E → sp vs H Q E) : Def P w K mg base CX k x ps sp' := by
  obtain ⟨f, fd, h1, h2, h3, h4⟩ := D.ex
  exact ⟨f, fd, h1, h2, h3, h4.imp h⟩
theorem take_n (D : Def P w K mg base CX0 1 "_law_take" ["feed", "size"] spTake) : Def P w K mg base CX0 1 "_law_take" ["feed", "size"] spTakeN := def_imp D fun vs H Q E h => by
  obtain ⟨f, n, rfl, ⟨a, b, hf, ha, hb⟩, h0, h1, k⟩ := h
  refine ⟨f, a, b, n, rfl, hf, ha, hb, h0, h1, fun r a' b' r0 r1 ha' hb' => ?_⟩
  have q := k r.toNat (upd H f (.lst [.int a', .int b'])) (by omega) ⟨but_upd, a', b', upd_same, ha', hb'⟩
  unfold vn at q
  rw [Int.toNat_of_nonneg r0] at q
  exact q
def spPickN (K : PySem.W.Frag) : Sp := fun vs H Q _ => ∃ (f t : Addr) (xs : List V), vs = [.ref f, .ref t] ∧ Fd H f ∧ SqL K H t xs ∧ t ≠ f ∧ 0 < xs.length ∧ xs.length < 100000 ∧ ∀ (v : V) (H' : Hp), v ∈ xs → Now f H H' → Q v H'
theorem pick_n (D : Def P w K mg base CX0 2 "_law_pick" ["feed", "things"] (spPick K)) : Def P w K mg base CX0 2 "_law_pick" ["feed", "things"] (spPickN K) := def_imp D fun vs H Q E h => by
  obtain ⟨f, t, xs, rfl, ⟨a, b, hf, ha, hb⟩, ht, hne, h0, h1, k⟩ := h
  exact ⟨f, t, a, b, xs, rfl, hf, ha, hb, ht, hne, h0, h1, fun v a' b' hv ha' hb' => k v _ hv ⟨but_upd, a', b', upd_same, ha', hb'⟩⟩
/-! ### histories -/
/-- at p: a list of up to n levels -/
def Lv (H : Hp) (p : Addr) (top n : Nat) : Prop := ∃ ls, H p = some (.lst (vns ls)) ∧ ls.length ≤ n ∧ ∀ l ∈ ls, l ≤ top
theorem Lv.same {H H' : Hp} {p : Addr} {top n : Nat} (e : Same H H') (h : Lv H p top n) : Lv H' p top n := let ⟨ls, a, b, c⟩ := h; ⟨ls, e _ _ a, b, c⟩
theorem Lv.now {f : Addr} {H H' : Hp} {p : Addr} {top n : Nat} (e : Now f H H') (hp : p ≠ f) (h : Lv H p top n) : Lv H' p top n := let ⟨ls, a, b, c⟩ := h; ⟨ls, e.but _ _ a hp, b, c⟩
theorem Lv.mono {H : Hp} {p : Addr} {top n m : Nat} (h : Lv H p top n) (e : n ≤ m) : Lv H p top m := let ⟨ls, a, b, c⟩ := h; ⟨ls, a, Nat.le_trans b e, c⟩
theorem cut_vns (ls : List Nat) (lo hi : Option Int) : ∃ ms, cutV (vns ls) lo hi = vns ms ∧ ms.length ≤ ls.length ∧ ∀ x ∈ ms, x ∈ ls := by
  refine ⟨(ls.drop (HT.sIx ls.length 0 lo)).take (HT.sIx ls.length ls.length hi - HT.sIx ls.length 0 lo), ?_, ?_, fun x hx => List.mem_of_mem_drop (List.mem_of_mem_take hx)⟩
  · unfold cutV
    simp [List.map_take, List.map_drop, vns]
  · rw [List.length_take, List.length_drop]
    omega
theorem v_cut {H : Hp} {p : Addr} {top n : Nat} {lo hi : Option Int} {Q : VK} (h : Lv H p top n) (r : ∀ q H', H q = none → Same H H' → Lv H' q top n → Q (.ref q) H') : rSlL K (.ref p) lo hi H Q := by
  obtain ⟨ls, a, b, c⟩ := h
  obtain ⟨ms, e, g, i⟩ := cut_vns ls lo hi
  refine ⟨p, _, rfl, SqL.of a, fun q hq => r q _ hq (same_new hq) ⟨ms, ?_, Nat.le_trans g b, fun x hx => c x (i x hx)⟩⟩
  rw [upd_same, e]
theorem v_cutN {H : Hp} {p : Addr} {top n : Nat} {lo : Option Int} {σ : L2.St} {Q : VK} (h : Lv H p top n) (r : ∀ q H', H q = none → Same H H' → Lv H' q top n → Q (.ref q) H') : tNoPart σ H (fun u H3 => rSlL K (.ref p) lo u H3 Q) := v_cut h r
theorem v_catLv {H : Hp} {p q : Addr} {top n m : Nat} {Q : VK} (h1 : Lv H p top n) (h2 : Lv H q top m) (hz : n + m ≤ 100000) (r : ∀ t H', H t = none → Same H H' → Lv H' t top (n + m) → Q (.ref t) H') : rCat (.ref p) (.ref q) H Q := by
  obtain ⟨ls, a, b, c⟩ := h1
  obtain ⟨ms, a2, b2, c2⟩ := h2
  refine ⟨p, q, _, _, rfl, rfl, a, a2, small (by simp only [List.length_map]; omega), fun t ht => r t _ ht (same_new ht) ⟨ls ++ ms, ?_, ?_, fun x hx => ?_⟩⟩
  · rw [upd_same]
    simp [vns]
  · rw [List.length_append]
    omega
  · rw [List.mem_append] at hx
    exact hx.elim (c x) (c2 x)
theorem one_lv {H : Hp} {p : Addr} {top l : Nat} {v : V} (hp : H p = none) (hv : v = vn l) (hl : l ≤ top) : Lv (upd H p (.lst [v])) p top 1 := ⟨[l], by rw [upd_same, hv]; rfl, by simp, by simpa using hl⟩
def spHist : Sp := fun vs H Q _ => ∃ (f : Addr) (top most : Nat), vs = [.ref f, vn top, vn most] ∧ Fd H f ∧ top ≤ 6 ∧ most ≤ 30 ∧ ∀ p H', H p = none → Now f H H' → Lv H' p top most → Q (.ref p) H'
theorem ok_hist {f : Addr} {fd : FuncData} (F : Fun K "_law_history" "_law_history" s_law_history f fd) (T : Txt K mg C) (D_law_take : Def P w K mg base CX0 1 "_law_take" ["feed", "size"] spTakeN) :
    FnOk P w K mg base CX0 2 f fd ["feed", "top", "most"] spHist := by
  have nd := sc_law_history.nd
  refine F.ok sc_law_history (fun vs H Q E h => ?_) (fun cdv A outer s H vs Q E hr h => ?_)
  · obtain ⟨f, top, most, rfl, _⟩ := h
    rfl
  · obtain ⟨f, top, most, rfl, hf, ht, hm, k⟩ := h
    refine ⟨_, (pss_one (ps_ret (pe_lc (own := [("turn", 3)]) (by rfl) nd (pi_range1 (by rfl) T.range_ (pa_cons (pe_callD D_law_take (hr.mono (by decide)) rfl pass0 (pa_cons (pv 0) (pa_cons (pe_op op_add (pv 2) pe_int) pa_nil))) pa_nil)) (blkOk_by (own := [("turn", 3)]) (N := n_law_history) (sc := defScope s_law_history) (by decide +kernel)) (fun _ _ _ _ _ => (pg_name (i := 3) nd rfl (Or.inl rfl))) (fun _ _ _ _ _ => pts_nil) (fun _ _ _ _ _ => (pe_callD D_law_take (hr.mono (by decide)) rfl pass0 (pa_cons (pv 0) (pa_cons (pe_op op_add (pv 1) pe_int) pa_nil))))))), ?_⟩
    refine ⟨_, rfl, _, rfl, _, _, rfl, rfl, f, _, rfl, hf, by omega, by omega, fun r H1 hr1 n1 => ?_⟩
    refine ⟨_, rfl, by omega, by omega, fun D hD => lc_range (lo := 0) (n := ((r : Nat) : Int).toNat) (fun i H' => Now f H1 H' ∧ Lv H' D top i) ?_ ?_ ?_⟩
    · exact ⟨Now.of n1.fd (same_new hD), [], upd_same, by simp, by simp⟩
    · rintro i H' hi ⟨n2, ls, h1, h2, h3⟩
      have hi' : i < r := by simpa using hi
      refine ⟨rfl, _, rfl, _, rfl, _, _, rfl, rfl, f, _, rfl, n2.fd, by omega, by omega, fun l H2 hl n3 => ?_⟩
      have nD : D ≠ f := ne_fd n1.fd hD
      refine ⟨_, n3.but _ _ h1 nD, ?_, ?_, ls ++ [l], ?_, ?_, ?_⟩
      · refine small' ?_
        simp only [List.length_map]
        omega
      · have n4 := n2.trans n3
        obtain ⟨a, b, q, x, y⟩ := n4.fd
        refine ⟨fun u o hu hne => ?_, a, b, upd_old (Ne.symm nD) q, x, y⟩
        exact upd_old (ne_of_none hu hD) (n4.but u o hu hne)
      · rw [upd_same]
        simp [vns]
      · simp
        omega
      · intro x hx
        rcases List.mem_append.mp hx with hx | hx
        · exact h3 x hx
        · rw [List.mem_singleton.mp hx]
          omega
    · rintro H' ⟨n2, lv⟩
      refine k D H' (n1.free hf hD) (n1.trans n2) (lv.mono ?_)
      simp
      omega
theorem tyX_now {H H' : Hp} {f : Addr} (hf : Fd H f) (n : Now f H H') {x : V} {t : Value} (h : TyX K H x t) : TyX K H' x t := by
  obtain ⟨a0, b0, hf, _, _⟩ := hf
  obtain ⟨a1, b1, hf1, _, _⟩ := n.fd
  have at_ : ∀ {a : Addr} {o : HO}, H a = some o → (∀ z, o ≠ .lst z) → H' a = some o := fun {a o} ha hn => n.but a o ha fun e => by
    rw [e, hf] at ha
    exact hn _ (Option.some.inj ha).symm
  cases h with
  | base b =>
    refine .base ?_
    cases b with
    | non => exact .non
    | bl => exact .bl _
    | int => exact .int _
    | str => exact .str _
    | flt => exact .flt _
    | @lst a xs h =>
      by_cases e : a = f
      · rw [e]
        exact .lst hf1
      · exact .lst (n.but _ _ h e)
    | frz h => exact .frz (at_ h (by intro z e; cases e))
    | tup h => exact .tup (at_ h (by intro z e; cases e))
    | dK h => exact .dK (at_ h (by intro z e; cases e))
    | dT h => exact .dT (at_ h (by intro z e; cases e))
    | ins h a b c d g => exact .ins (at_ h (by intro z e; cases e)) a b c d g
  | byt => exact .byt _
  | set h => exact .set (at_ h (by intro z e; cases e))
  | kList h c => exact .kList h c
  | kTuple h c => exact .kTuple h c
  | kDict h c => exact .kDict h c
  | fTuple h => exact .fTuple (at_ h (by intro z e; cases e))
  | fDict h => exact .fDict (at_ h (by intro z e; cases e))
theorem OkT.now {H H' : Hp} {f : Addr} (hf : Fd H f) (n : Now f H H') {x : V} {k : String} (h : OkT K H x k) : OkT K H' x k := ⟨tyX_now hf n h.ty, h.kd⟩
theorem sqT_now {H H' : Hp} {f a : Addr} {xs : List V} (hf : Fd H f) (n : Now f H H') (h : SqT K H a xs) : SqT K H' a xs := by
  obtain ⟨a0, b0, hf, _, _⟩ := hf
  exact sqT_but n.but hf h
theorem tups_now {H H' : Hp} {f : Addr} (hf : Fd H f) (n : Now f H H') {xs : List V} {nss : List (List Nat)} (h : Tups K H xs nss) : Tups K H' xs nss := h.but fun _ _ q => sqT_now hf n q
/-- levels as a value that is handed in -/
theorem lev_good {H : Hp} {top : Nat} {a : Addr} {ls : List Nat} (h : H a = some (.lst (vns ls))) (hz : ls.length ≤ 1000) (hl : ∀ l ∈ ls, l ≤ top) : LevV K H top (.ref a) none := by
  have e : badIx top (vns ls) = none := by
    refine List.findIdx?_eq_none_iff.mpr fun x hx => ?_
    have := List.all_eq_true.mp (lvl_vns hl) x hx
    rw [this]
    rfl
  rw [← e]
  refine .lst (SqL.of h) (ok_lst h) (fun x hx => ?_) (by simpa using hz)
  obtain ⟨n, _, rfl⟩ := List.mem_map.mp hx
  exact ⟨_, ok_int⟩
theorem lev_bad {H : Hp} {top : Nat} {a : Addr} {ls : List Nat} {v : V} {r : List V} (h : H a = some (.lst (vns ls ++ v :: r))) (hz : ls.length + 1 + r.length ≤ 1000) (hl : ∀ l ∈ ls, l ≤ top) (hv : lvl top v = false) (ok : ∀ x ∈ v :: r, ∃ n, OkT K H x n) :
    LevV K H top (.ref a) (some ls.length) := by
  have e : badIx top (vns ls ++ v :: r) = some ls.length := by
    refine List.findIdx?_eq_some_iff_getElem.mpr ⟨by simp, ?_, fun j hj => ?_⟩
    · simp [hv]
    · have hj' : j < ls.length := hj
      have := List.all_eq_true.mp (lvl_vns hl) ((vns ls)[j]'(by simpa using hj')) (List.getElem_mem _)
      rw [List.getElem_append_left (by simpa using hj'), this]
      decide
  rw [← e]
  refine .lst (SqL.of h) (ok_lst h) (fun x hx => ?_) ?_
  · rcases List.mem_append.mp hx with hx | hx
    · obtain ⟨n, _, rfl⟩ := List.mem_map.mp hx
      exact ⟨_, ok_int⟩
    · exact ok x hx
  · simp only [List.length_append, List.length_map, List.length_cons]
    omega
theorem cut_ahead (ls : List Nat) (i : Nat) : cutV (vns ls) none (some (i : Int)) = vns (ls.take i) := by
  unfold cutV
  rw [HT.sIx_nat]
  simp [HT.sIx, vns, List.map_take]
theorem eqv_told (i : Nat) : PyData.eqv (.list [.str "levels", pint i]) (.list [.str "levels", pint i]) = true := by
  have a : PyData.eqv (.str "levels") (.str "levels") = true := by decide +kernel
  have b : PyData.eqv (pint i) (pint i) = true := by
    have := eqv_ints [i] [i]
    simpa [PyData.eqvAll] using this
  show (PyData.eqv (.str "levels") (.str "levels") && (PyData.eqv (pint i) (pint i) && true)) = true
  rw [a, b]
  rfl
end

section
variable {P : Program} {w : World} {K : PySem.W.Frag} {mg : Str → Option Value} {base : Heap} {C D : Addr}
/-! ### the law's own looks -/
theorem ok_lis_level {f : Addr} {fd : FuncData} (F : Fun K "_law_is_level" "_law_is_level" s_law_is_level f fd) (T : Txt K mg C) : FnOk P w K mg base CX0 1 f fd ["top", "value"] (spIsLevel K) := by
  have nd := sc_law_is_level.nd
  refine F.ok sc_law_is_level (fun vs H Q E h => ?_) (fun cdv A outer s H vs Q E hr h => ?_)
  · obtain ⟨top, x, n, rfl, _⟩ := h
    rfl
  · obtain ⟨top, x, n, rfl, ok, k⟩ := h
    refine ⟨_, (pss_one (ps_ret (pe_and (pe_callB call_isi (by rfl) T.isinstance_ (by decide +kernel) (pa_cons (pv 1) (pa_cons (pe_bltn (v := .ty "int") (by rfl) T.int_ (by decide +kernel) rfl) pa_nil))) (pe_and (pe_not (pe_callB call_isi (by rfl) T.isinstance_ (by decide +kernel) (pa_cons (pv 1) (pa_cons (pe_bltn (v := .ty "bool") (by rfl) T.bool_ (by decide +kernel) rfl) pa_nil)))) (pe_one (pe_chain op_le op_le pe_int (pv 1) (pv 0))))))), ?_⟩
    refine ⟨_, rfl, ?_⟩
    apply v_isi ok (kit_int ok.kd)
    refine ⟨_, rfl, ?_⟩
    refine v_ifb (fun e1 => ?_) (fun e1 => ?_)
    · refine ⟨_, rfl, ?_⟩
      apply v_isi ok (kit_bool ok.kd)
      refine ⟨_, rfl, _, rfl, ?_⟩
      refine v_ifb (fun e2 => ?_) (fun e2 => ?_)
      · have hn : n = "int" := by
          simp only [Bool.or_eq_true, beq_iff_eq, Bool.not_eq_true', beq_eq_false_iff_ne, ne_eq] at e1 e2
          rcases e1 with e1 | e1
          · exact e1
          · exact absurd e1 e2
        subst hn
        obtain ⟨i, rfl⟩ := int_of ok.ty
        refine ⟨_, rfl, _, _, rfl, rfl, _, rfl, ?_⟩
        refine v_ifd (fun hc => ?_) (fun hc => ?_)
        · refine ⟨_, rfl, _, _, rfl, rfl, ?_⟩
          have e : decide (i ≤ (top : Int)) = lvl top (.int i) := by
            unfold lvl
            rw [Bool.eq_iff_iff]
            simp only [decide_eq_true_eq]
            omega
          show Q (.bl (decide (i ≤ (top : Int)))) H
          rw [e]
          exact k
        · have e : false = lvl top (.int i) := by
            unfold lvl
            rw [Bool.eq_iff_iff]
            simp only [decide_eq_true_eq]
            constructor
            · intro z; cases z
            · intro z; exact absurd z.1 hc
          show Q (.bl false) H
          rw [e]
          exact k
      · have hn : n ≠ "int" := by
          rintro rfl
          simp at e2
        show Q (.bl false) H
        rw [← lvl_not ok.ty hn top]
        exact k
    · have hn : n ≠ "int" := by
        rintro rfl
        simp at e1
      show Q (.bl false) H
      rw [← lvl_not ok.ty hn top]
      exact k
def spBad (K : PySem.W.Frag) : Sp := fun vs H Q _ => ∃ (top : Nat) (x : V) (b : Option Nat), vs = [vn top, x] ∧ LevV K H top x b ∧ ∀ H', Same H H' → Q (match b with | none => .non | some i => vn i) H'
theorem ok_bad {f : Addr} {fd : FuncData} (F : Fun K "_law_bad_level" "_law_bad_level" s_law_bad_level f fd) (T : Txt K mg C) (D_law_is_level : Def P w K mg base CX0 1 "_law_is_level" ["top", "value"] (spIsLevel K)) :
    FnOk P w K mg base CX0 2 f fd ["top", "value"] (spBad K) := by
  have nd := sc_law_bad_level.nd
  refine F.ok sc_law_bad_level (fun vs H Q E h => ?_) (fun cdv A outer s H vs Q E hr h => ?_)
  · obtain ⟨top, x, b, rfl, _⟩ := h
    rfl
  · obtain ⟨top, x, b, rfl, hm, k⟩ := h
    refine ⟨_, (pss_cons (ps_if (pt_not (pt_val (pe_callB call_isi (by rfl) T.isinstance_ (by decide +kernel) (pa_cons (pv 1) (pa_cons (pe_bltn (v := .ty "list") (by rfl) T.list_ (by decide +kernel) rfl) pa_nil))))) (pss_one (ps_ret pe_int)) pss_nil) (pss_cons (ps_for PassesOwn.never rfl (pi_enum (by rfl) T.enumerate_ (pa_cons (pv 1) pa_nil)) (pg_tup rfl (pgs_cons (pg_name (i := 2) nd rfl (Or.inl rfl)) (pgs_cons (pg_name (i := 3) nd rfl (Or.inl rfl)) pgs_nil))) (pss_one (ps_if (pt_not (pt_val (pe_callD D_law_is_level (hr.mono (by decide)) rfl pass0 (pa_cons (pv 0) (pa_cons (pv 3) pa_nil))))) (pss_one (ps_ret (pv 2))) pss_nil))) (pss_one (ps_ret pe_non)))), ?_⟩
    cases hm with
    | other ok hn =>
      refine ⟨_, rfl, ?_⟩
      apply v_isi ok (kit_list ok.kd)
      refine ⟨_, rfl, ?_⟩
      refine v_ift ?_ ?_
      · simp [hn]
      · exact k H (Same.refl _)
    | @lst a xs h ht hi hz =>
      refine ⟨_, rfl, ?_⟩
      apply v_isi ht (kit_list ht.kd)
      refine ⟨_, rfl, ?_⟩
      refine v_iff (by rfl) ?_
      refine ⟨_, rfl, a, _, rfl, h, for_enumL (K := K) (a := a) (xs := xs) (fun i σ H' => (∃ v1 v2, σ = [some (vn top), some (.ref a), v1, v2]) ∧ Same H H' ∧ ∀ x ∈ xs.take i, lvl top x = true)
        ⟨⟨_, _, rfl⟩, Same.refl _, by simp⟩ (fun i σ H' h' => h'.2.1.seq h) ?_ ?_⟩
      · rintro i x Tt σ H' hx ⟨⟨v1, v2, rfl⟩, e, hl⟩ hT
        have e1 : Same H (upd H' Tt (.tup [.int (i : Nat), x])) := e.trans (same_new hT)
        obtain ⟨n, ok⟩ := hi x (List.mem_of_getElem? hx)
        refine ⟨Tt, _, rfl, SqT.of upd_same, rfl, _, _, rfl, _, _, rfl, rfl, ?_⟩
        refine ⟨_, rfl, _, rfl, top, x, n, rfl, ok.same e1, ?_⟩
        refine ⟨_, rfl, ?_⟩
        refine v_ifb (fun hb => ?_) (fun hb => ?_)
        · have hb' : lvl top x = false := by simpa using hb
          refine ⟨_, rfl, ?_⟩
          have hi' := (List.getElem?_eq_some_iff.mp hx)
          have eb : badIx top xs = some i := by
            refine List.findIdx?_eq_some_iff_getElem.mpr ⟨hi'.1, ?_, fun j hj => ?_⟩
            · rw [hi'.2, hb']
              rfl
            · have : xs[j]'(Nat.lt_trans hj hi'.1) ∈ xs.take i := by
                refine List.mem_take_iff_getElem.mpr ⟨j, ?_, rfl⟩
                have := hi'.1
                omega
              rw [hl _ this]
              decide
          have q := k _ e1
          rw [eb] at q
          exact q
        · have hb' : lvl top x = true := by simpa using hb
          refine ⟨⟨_, _, rfl⟩, e1, fun y hy => ?_⟩
          rw [VM.take_succ hx, List.mem_append] at hy
          rcases hy with hy | hy
          · exact hl y hy
          · rw [List.mem_singleton.mp hy]
            exact hb'
      · rintro σ H' ⟨⟨v1, v2, rfl⟩, e, hl⟩
        rw [List.take_length] at hl
        have eb : badIx top xs = none := List.findIdx?_eq_none_iff.mpr fun x hx => by rw [hl x hx]; rfl
        have q := k _ e
        rw [eb] at q
        exact q
/-! ### the memory by highs and lows -/
def spLawMem (K : PySem.W.Frag) : Sp := fun vs H Q _ => ∃ (a : Addr) (ls : List Nat), vs = [.ref a] ∧ SqL K H a (vns ls) ∧ ls.length ≤ 1000 ∧ ∀ p H', Same H H' → SqT K H' p (vns (VM.followed [] ls)) → Q (.ref p) H'
theorem eqv_pint (a b : Nat) : PyData.eqv (pint a) (pint b) = decide (a = b) := by
  have q := eqv_ints [a] [b]
  have e : PyData.eqvAll ([a].map pint) ([b].map pint) = (PyData.eqv (pint a) (pint b) && true) := rfl
  rw [e, Bool.and_true] at q
  rw [q]
  simp
theorem cut_from (ls : List Nat) (i : Nat) (h : i ≤ ls.length) : cutV (vns ls) (some (i : Int)) none = vns (ls.drop i) := by
  unfold cutV
  rw [HT.sIx_nat]
  have e : HT.sIx (vns ls).length (vns ls).length none = (vns ls).length := rfl
  rw [e, List.length_map, Nat.min_eq_left h]
  rw [List.take_of_length_le (by rw [List.length_drop, List.length_map]; exact Nat.le_refl _)]
  simp [vns]
theorem left_len (ls : List Nat) : ∀ i, (VM.left (ls.take i)).length ≤ i := by
  intro i
  induction i with
  | zero => simp [VM.left]
  | succ i ih =>
    cases e : ls[i]? with
    | none =>
      have : ls.length ≤ i := List.getElem?_eq_none_iff.mp e
      rw [List.take_of_length_le (by omega)]
      rw [List.take_of_length_le this] at ih
      omega
    | some l =>
      rw [VM.take_succ e, VM.left_snoc]
      split
      · simp
      · simp
        omega
def mu2 (σ : L2.St) (H : Hp) : Nat := match (σ[2]? : Option (Option V)) with | some (some (V.ref a)) => (match H a with | some (HO.lst xs) => xs.length | _ => 0) | _ => 0
theorem ok_lmem {f : Addr} {fd : FuncData} (F : Fun K "_law_memory" "_law_memory" s_law_memory f fd) (T : Txt K mg C) : FnOk P w K mg base CX0 1 f fd ["levels"] (spLawMem K) := by
  have nd := sc_law_memory.nd
  refine F.ok sc_law_memory (fun vs H Q E h => ?_) (fun cdv A outer s H vs Q E hr h => ?_)
  · obtain ⟨a, ls, rfl, _⟩ := h
    rfl
  · obtain ⟨a, ls, rfl, ha, hz, k⟩ := h
    refine ⟨_, (pss_cons (ps_par3 (i := 1) (j := 2) (l := 3) (by rfl) nd rfl rfl rfl (by decide) (by decide) (by decide) rfl rfl rfl (pa_cons (pe_lst pa_nil) (pa_cons (pe_lst pa_nil) (pa_cons pe_bl pa_nil))) (by rfl)) (pss_cons (ps_for PassesOwn.never rfl (pi_list (pv 0)) (pg_name (i := 4) nd rfl (Or.inl rfl)) (pss_one (ps_set (i := 2) nd rfl (Or.inl rfl) (pe_ifExp (pt_cmpR op_eq (pv 4) pe_int (nomark _)) (pe_lst pa_nil) (pe_op op_cat (pv 2) (pe_lst (pa_cons (pv 4) pa_nil))))))) (pss_cons (ps_while PassesOwn.never (pt_cmpR (op_neD hr.units) (pv 2) (pe_lst pa_nil) (nomark _)) (pss_cons (ps_set (i := 5) nd rfl (Or.inl rfl) (pe_ifExp (pt_val (pv 3)) (pe_callB (cr_max rfl) (by rfl) T.max_ (by decide +kernel) (pa_cons (pv 2) pa_nil)) (pe_callB (cr_min rfl) (by rfl) T.min_ (by decide +kernel) (pa_cons (pv 2) pa_nil)))) (pss_cons (ps_expr (pe_bm PySem.F.plainAttrs_list PySem.F.slot_list_append PySem.F.type_list_append mt_append (pv 1) (pa_cons (pv 5) pa_nil))) (pss_cons (ps_set (i := 2) nd rfl (Or.inl rfl) (pe_slice sl_list (pv 2) (po_some (pe_op op_sub (pe_callB call_len_seq (by rfl) T.len_ PySem.boot_len (pa_cons (pv 2) pa_nil)) (pe_bm PySem.F.plainAttrs_list PySem.F.slot_list_index PySem.F.type_list_index (mt_indexD (u65 hr)) (pe_revL (pv 2)) (pa_cons (pv 5) pa_nil)))) po_none)) (pss_one (ps_set (i := 3) nd rfl (Or.inl rfl) (pe_not (pv 3)))))))) (pss_one (ps_ret (pe_callTy call_tuple_of (by rfl) T.tuple_ (by decide +kernel) (pa_cons (pv 1) pa_nil))))))), ?_⟩
    refine ⟨(by show 0 ≤ sizeLine; decide), fun fo hfo => ⟨(by show 0 ≤ sizeLine; decide), fun l0 hl0 => ⟨_, _, _, rfl, ?_⟩⟩⟩
    have s0 : Same H (upd (upd H fo (.lst [])) l0 (.lst [])) := (same_new hfo).trans (same_new hl0)
    refine ⟨_, rfl, a, rfl, ⟨_, s0.seq ha⟩, for_list (K := K) (a := a) (xs := vns ls) (fun i σ H' => ∃ le v4 v5, σ = [some (.ref a), some (.ref fo), some (.ref le), some (.bl true), v4, v5] ∧ Same H H' ∧ H' fo = some (.lst []) ∧ H' le = some (.lst (vns (VM.left (ls.take i)))) ∧ le ≠ fo)
      ⟨l0, _, _, rfl, s0, upd_new hl0 upd_same, upd_same, fun z => by rw [z, upd_same] at hl0; cases hl0⟩ (fun i σ H' _ h => by obtain ⟨_, _, _, _, e, _⟩ := h; exact e.seq ha) ?_ ?_⟩
    · rintro i x σ H' hx ⟨le, v4, v5, rfl, e, hf, hle, hne⟩
      obtain ⟨l, hl, rfl⟩ := vns_get hx
      have el := VM.left_snoc (ls.take i) l
      rw [← VM.take_succ hl] at el
      refine ⟨_, rfl, rfl, _, rfl, ?_⟩
      refine v_ifd (fun hc => ?_) (fun hc => ?_)
      · refine ⟨(by show 0 ≤ sizeLine; decide), fun q hq => ?_⟩
        have hc' : l = 0 := by
          have : V.int (l : Int) = V.int 0 := hc
          injection this with h
          omega
        refine ⟨q, _, _, rfl, e.trans (same_new hq), upd_new hq hf, ?_, fun z => by rw [← z, hq] at hf; cases hf⟩
        rw [upd_same, el, if_pos hc']
        rfl
      · refine ⟨_, rfl, _, rfl, (by show 1 ≤ sizeLine; decide), fun q hq => ?_⟩
        have hc' : ¬ l = 0 := by
          intro z
          subst z
          exact hc rfl
        have hlen := left_len ls i
        refine ⟨le, q, _, _, rfl, rfl, upd_new hq hle, upd_same, small ?_, fun t ht => ?_⟩
        · have hi := (List.getElem?_eq_some_iff.mp hl).1
          simp only [List.length_map, List.length_cons, List.length_nil]
          omega
        · refine ⟨t, _, _, rfl, e.trans ((same_new hq).trans (same_new ht)), upd_new ht (upd_new hq hf), ?_, fun z => by rw [z, upd_new hq hf] at ht; cases ht⟩
          rw [upd_same, el, if_neg hc']
          simp [vns]
    · rintro σ H1 ⟨le, v4, v5, rfl, e1, hf1, hle1, hne⟩
      rw [List.length_map, List.take_length] at hle1
      have hlen : (VM.left ls).length ≤ 1000 := by
        have := left_len ls ls.length
        rw [List.take_length] at this
        omega
      refine while_by (fun σ H' => ∃ le b v4 v5 fs rest, σ = [some (.ref a), some (.ref fo), some (.ref le), some (.bl b), v4, v5] ∧ Same H H' ∧ H' fo = some (.lst (vns fs)) ∧ H' le = some (.lst (vns rest)) ∧ le ≠ fo ∧ fs.length + rest.length ≤ 1000 ∧
          fs ++ VM.ends rest.length b rest = VM.followed [] ls) mu2 ?_ ?_ ?_
      · exact ⟨le, true, v4, v5, [], _, rfl, e1, hf1, hle1, hne, by simpa using hlen, VM.byEnds_followed ls⟩
      · rintro σ H2 ⟨le, b, v4, v5, fs, rest, rfl, e2, hf2, hle2, hne2, hz2, hends⟩
        refine ⟨_, rfl, (by show 0 ≤ sizeLine; decide), fun t ht => ⟨_, _, .lst (SqL.of (upd_new ht hle2)) (dp_vns rest), .lst (SqL.of upd_same) (dp_vns []), shaped_ilist rest, shaped_ilist [], ?_⟩⟩
        rw [eqv_ilist]
        refine ⟨_, rfl, ?_⟩
        have s3 := same_new (o' := .lst []) ht
        have hf3 := s3 _ _ hf2
        have hle3 := s3 _ _ hle2
        have mu2' : mu2 [some (.ref a), some (.ref fo), some (.ref le), some (.bl b), v4, v5] H2 = rest.length := by
          show (match H2 le with | some (HO.lst xs) => xs.length | _ => 0) = rest.length
          rw [hle2]
          simp
        refine v_ifn (fun hc => ?_) (fun hc => ?_)
        · have hpos : 0 < rest.length := by
            cases rest with
            | nil => exact absurd rfl hc
            | cons _ _ => simp
          have hInts : (rest.map fun (n : Nat) => (n : Int)).map V.int = vns rest := by
            rw [List.map_map]
            rfl
          have hle3' : (upd H2 t (.lst [])) le = some (.lst ((rest.map fun (n : Nat) => (n : Int)).map V.int)) := by
            rw [hInts]
            exact hle3
          have top : ∀ (m : Int), m ∈ (rest.map fun (n : Nat) => (n : Int)) → ((b = true → ∀ y ∈ (rest.map fun (n : Nat) => (n : Int)), y ≤ m) ∧ (b = false → ∀ y ∈ (rest.map fun (n : Nat) => (n : Int)), m ≤ y)) → m = ((VM.peak b rest : Nat) : Int) := by
            intro m hm hb
            obtain ⟨n, hn, rfl⟩ := List.mem_map.mp hm
            cases b with
            | true => exact congrArg _ (VM.peak_high hn fun y hy => by have := hb.1 rfl (y : Int) (List.mem_map.mpr ⟨y, hy, rfl⟩); omega)
            | false => exact congrArg _ (VM.peak_low hn fun y hy => by have := hb.2 rfl (y : Int) (List.mem_map.mpr ⟨y, hy, rfl⟩); omega)
          have pm := VM.peak_mem (high := b) (show rest ≠ [] from hc)
          obtain ⟨j, j1, j2, j3, j4⟩ := VM.after_idx (VM.peak b rest) _ rest rfl pm
          have short := VM.after_len _ rest pm
          have turn := VM.ends_turn (h := b) (show rest ≠ [] from hc)
          rw [turn] at hends
          revert s3 hf3 hle3 hle3'
          generalize (upd H2 t (.lst [])) = H3
          intro s3 hf3 hle3 hle3'
          have e3 := e2.trans s3
          refine ⟨_, rfl, _, rfl, ?_⟩
          cases b with
          | true =>
            refine v_ift rfl ?_
            refine ⟨_, rfl, le, _, rfl, SqL.of hle3', by simpa using hpos, fun m hm hge => ?_⟩
            obtain rfl := top m hm ⟨fun _ => hge, fun z => by cases z⟩
            refine ⟨_, rfl, .inl ⟨rfl, _, SqL.of hf3⟩, _, rfl, ?_⟩
            apply v_app hf3 (small' (by simp only [List.length_map]; omega))
            have hf4 : (upd H3 fo (.lst (vns fs ++ [V.int ((VM.peak true rest : Nat) : Int)]))) fo = some (.lst (vns (fs ++ [VM.peak true rest]))) := by
              rw [upd_same]
              simp [vns, vn]
            have hle4 : (upd H3 fo (.lst (vns fs ++ [V.int ((VM.peak true rest : Nat) : Int)]))) le = some (.lst (vns rest)) := upd_old hne2 hle3
            have e4 : Same H (upd H3 fo (.lst (vns fs ++ [V.int ((VM.peak true rest : Nat) : Int)]))) := same_mut hfo e3
            revert hf4 hle4 e4
            generalize (upd H3 fo (.lst (vns fs ++ [V.int ((VM.peak true rest : Nat) : Int)]))) = H4
            intro hf4 hle4 e4
            refine ⟨_, rfl, _, rfl, ?_⟩
            apply v_lenL (SqL.of hle4)
            refine ⟨_, rfl, le, _, rfl, SqL.of hle4, fun rv hrv => ⟨.inl ⟨rfl, _, SqL.of upd_same⟩, _, rfl, ?_⟩⟩
            have dl : Dp K (upd H4 rv (.lst (vns rest).reverse)) (.ref rv) (.list (rest.reverse.map pint)) := by
              refine .lst (SqL.of (upd_same.trans ?_)) (dp_vns rest.reverse)
              simp [vns]
            refine ⟨rv, _, _, _, j, pint (VM.peak true rest), rfl, rfl, dl, .int _, shaped_ilist _, by rfl, ?_, ?_, ?_, ?_⟩
            · rw [List.getElem?_map, j1]
              rfl
            · show PyData.eqv (pint _) (pint _) = true
              rw [eqv_pint]
              simp
            · intro i z' hi hz'
              rw [List.getElem?_map] at hz'
              obtain ⟨x, hx, rfl⟩ := Option.map_eq_some_iff.mp hz'
              show PyData.eqv (pint x) (pint _) = false
              rw [eqv_pint]
              exact decide_eq_false (j2 i x hi hx)
            · refine ⟨_, _, rfl, rfl, _, rfl, ?_⟩
              show tNoPart _ _ _
              have s5 := same_new (o' := .lst (vns rest).reverse) hrv
              have hle5 := s5 _ _ hle4
              refine ⟨le, _, rfl, SqL.of hle5, fun q hq => ?_⟩
              have ei : ((vns rest).length : Int) - (j : Int) = ((rest.length - j : Nat) : Int) := by
                rw [List.length_map]
                omega
              rw [ei, cut_from rest _ (by omega), j3]
              have s6 := s5.trans (same_new (o' := .lst (vns (VM.after (VM.peak true rest) rest))) hq)
              refine ⟨_, rfl, _, rfl, ?_⟩
              refine ⟨⟨q, _, _, _, _, _, rfl, e4.trans s6, s6 _ _ hf4, upd_same, (fun z => by rw [z, s5 _ _ hf4] at hq; cases hq), ?_, ?_⟩, ?_⟩
              · simp only [List.length_append, List.length_cons, List.length_nil]
                omega
              · rw [← hends]
                simp
              · rw [mu2']
                show (match (upd (upd H4 rv _) q (.lst (vns (VM.after (VM.peak true rest) rest)))) q with | some (HO.lst xs) => xs.length | _ => 0) < rest.length
                rw [upd_same]
                simpa using short
          | false =>
            refine v_iff rfl ?_
            refine ⟨_, rfl, le, _, rfl, SqL.of hle3', by simpa using hpos, fun m hm hge => ?_⟩
            obtain rfl := top m hm ⟨fun z => (by cases z), fun _ => hge⟩
            refine ⟨_, rfl, .inl ⟨rfl, _, SqL.of hf3⟩, _, rfl, ?_⟩
            apply v_app hf3 (small' (by simp only [List.length_map]; omega))
            have hf4 : (upd H3 fo (.lst (vns fs ++ [V.int ((VM.peak false rest : Nat) : Int)]))) fo = some (.lst (vns (fs ++ [VM.peak false rest]))) := by
              rw [upd_same]
              simp [vns, vn]
            have hle4 : (upd H3 fo (.lst (vns fs ++ [V.int ((VM.peak false rest : Nat) : Int)]))) le = some (.lst (vns rest)) := upd_old hne2 hle3
            have e4 : Same H (upd H3 fo (.lst (vns fs ++ [V.int ((VM.peak false rest : Nat) : Int)]))) := same_mut hfo e3
            revert hf4 hle4 e4
            generalize (upd H3 fo (.lst (vns fs ++ [V.int ((VM.peak false rest : Nat) : Int)]))) = H4
            intro hf4 hle4 e4
            refine ⟨_, rfl, _, rfl, ?_⟩
            apply v_lenL (SqL.of hle4)
            refine ⟨_, rfl, le, _, rfl, SqL.of hle4, fun rv hrv => ⟨.inl ⟨rfl, _, SqL.of upd_same⟩, _, rfl, ?_⟩⟩
            have dl : Dp K (upd H4 rv (.lst (vns rest).reverse)) (.ref rv) (.list (rest.reverse.map pint)) := by
              refine .lst (SqL.of (upd_same.trans ?_)) (dp_vns rest.reverse)
              simp [vns]
            refine ⟨rv, _, _, _, j, pint (VM.peak false rest), rfl, rfl, dl, .int _, shaped_ilist _, by rfl, ?_, ?_, ?_, ?_⟩
            · rw [List.getElem?_map, j1]
              rfl
            · show PyData.eqv (pint _) (pint _) = true
              rw [eqv_pint]
              simp
            · intro i z' hi hz'
              rw [List.getElem?_map] at hz'
              obtain ⟨x, hx, rfl⟩ := Option.map_eq_some_iff.mp hz'
              show PyData.eqv (pint x) (pint _) = false
              rw [eqv_pint]
              exact decide_eq_false (j2 i x hi hx)
            · refine ⟨_, _, rfl, rfl, _, rfl, ?_⟩
              show tNoPart _ _ _
              have s5 := same_new (o' := .lst (vns rest).reverse) hrv
              have hle5 := s5 _ _ hle4
              refine ⟨le, _, rfl, SqL.of hle5, fun q hq => ?_⟩
              have ei : ((vns rest).length : Int) - (j : Int) = ((rest.length - j : Nat) : Int) := by
                rw [List.length_map]
                omega
              rw [ei, cut_from rest _ (by omega), j3]
              have s6 := s5.trans (same_new (o' := .lst (vns (VM.after (VM.peak false rest) rest))) hq)
              refine ⟨_, rfl, _, rfl, ?_⟩
              refine ⟨⟨q, _, _, _, _, _, rfl, e4.trans s6, s6 _ _ hf4, upd_same, (fun z => by rw [z, s5 _ _ hf4] at hq; cases hq), ?_, ?_⟩, ?_⟩
              · simp only [List.length_append, List.length_cons, List.length_nil]
                omega
              · rw [← hends]
                simp
              · rw [mu2']
                show (match (upd (upd H4 rv _) q (.lst (vns (VM.after (VM.peak false rest) rest)))) q with | some (HO.lst xs) => xs.length | _ => 0) < rest.length
                rw [upd_same]
                simpa using short
        · have hr : rest = [] := hc
          subst hr
          refine ⟨_, rfl, fo, _, rfl, .inl ⟨SqL.of hf3, fun u hu => ?_⟩⟩
          have q := k u (upd (upd H2 t (.lst [])) u (.tup (vns fs))) ((e2.trans s3).trans (same_new hu)) (SqT.of ?_)
          · exact q
          · rw [upd_same, ← hends]
            simp [VM.ends]
      · rintro σ H Q1 Q2 f ⟨v, h1, h2, h3⟩
        exact ⟨v, h1, h2, fun p hp => let ⟨d, e, a, b, c, dd, k, hk, q⟩ := h3 p hp; ⟨d, e, a, b, c, dd, k, hk, f _ _ q⟩⟩
end

section
variable {P : Program} {w : World} {K : PySem.W.Frag} {mg : Str → Option Value} {base : Heap} {C D : Addr}
theorem ms_count {top : Nat} : (VM.msOf top).length = 2 ^ top := by
  unfold VM.msOf
  rw [List.length_map, lots_len]
def spIsMem (K : PySem.W.Frag) : Sp := fun vs H Q _ => ∃ (top : Nat) (x : V) (b : Bool), vs = [vn top, x] ∧ 1 ≤ top ∧ top ≤ 6 ∧ MemV K H top x b ∧ ∀ H', Same H H' → Q (.bl b) H'
theorem ok_ismem {f : Addr} {fd : FuncData} (F : Fun K "_law_is_memory" "_law_is_memory" s_law_is_memory f fd) (T : Txt K mg C) (D_law_is_level : Def P w K mg base CX0 1 "_law_is_level" ["top", "value"] (spIsLevel K))
    (D_law_memories : Def P w K mg base CX0 1 "_law_memories" ["top"] (spMemories K)) : FnOk P w K mg base CX0 2 f fd ["top", "value"] (spIsMem K) := by
  have nd := sc_law_is_memory.nd
  refine F.ok sc_law_is_memory (fun vs H Q E h => ?_) (fun cdv A outer s H vs Q E hr h => ?_)
  · obtain ⟨top, x, b, rfl, _⟩ := h
    rfl
  · obtain ⟨top, x, b, rfl, h1, h6, hm, k⟩ := h
    refine ⟨_, (pss_cons (ps_if (PW.pt (pw_or (pt_not (pt_val (pe_callB call_isi (by rfl) T.isinstance_ (by decide +kernel) (pa_cons (pv 1) (pa_cons (pe_bltn (v := .ty "tuple") (by rfl) T.tuple_ (by decide +kernel) rfl) pa_nil))))) (pw_or1 (pt_cmpR (op_neE hr.units) (pe_lc (own := [("level", 2)]) (by rfl) nd (pi_tup (pv 1)) (blkOk_by (own := [("level", 2)]) (N := n_law_is_memory) (sc := defScope s_law_is_memory) (by decide +kernel)) (fun _ _ _ _ _ => (pg_name (i := 2) nd rfl (Or.inl rfl))) (fun _ _ _ _ _ => (pts_one (pt_not (pt_val (pe_callD D_law_is_level (hr.mono (by decide)) rfl pass0 (pa_cons (pv 0) (pa_cons (pv 2) pa_nil))))))) (fun _ _ _ _ _ => (pv 2))) (pe_lst pa_nil) (nomark _))))) (pss_one (ps_ret pe_bl)) pss_nil) (pss_one (ps_ret (pe_cmpR (op_inD (u65 hr)) (pv 1) (pe_callD D_law_memories (hr.mono (by decide)) rfl pass0 (pa_cons (pv 0) pa_nil)) rfl)))), ?_⟩
    cases hm with
    | other ok hn =>
      refine ⟨_, rfl, ?_⟩
      apply v_isi ok (kit_tuple ok.kd)
      refine ⟨_, rfl, ?_⟩
      refine v_ift ?_ ?_
      · simp [hn]
      · refine v_ift rfl ?_
        exact k H (Same.refl _)
    | @tup a xs h ht hi hz =>
      refine ⟨_, rfl, ?_⟩
      apply v_isi ht (kit_tuple ht.kd)
      refine ⟨_, rfl, ?_⟩
      refine v_iff (by rfl) ?_
      refine ⟨_, rfl, a, rfl, ⟨_, h⟩, fun D hD => lc_tup (K := K) (a := a) (xs := xs) (fun i H' => Same H H' ∧ H' D = some (.lst ((xs.take i).filter fun x => !lvl top x)))
        ⟨same_new hD, upd_same⟩ (fun i H' _ h' => sqT_same h'.1 h) ?_ ?_⟩
      · rintro i x H' hx ⟨e, hd⟩
        obtain ⟨n, ok⟩ := hi x (List.mem_of_getElem? hx)
        have hf : (xs.take (i + 1)).filter (fun x => !lvl top x) = (xs.take i).filter (fun x => !lvl top x) ++ (if (!lvl top x) = true then [x] else []) := filter_take (fun x => !lvl top x) hx
        refine ⟨rfl, _, rfl, _, rfl, top, x, n, rfl, ok.same e, ?_⟩
        refine ⟨_, rfl, ?_⟩
        refine v_ifb (fun hb => ?_) (fun hb => ?_)
        · refine ⟨_, rfl, _, hd, ?_, same_mut hD e, ?_⟩
          · have := List.length_filter_le (fun x => !lvl top x) (xs.take i)
            rw [List.length_take] at this
            refine small' ?_
            omega
          · rw [upd_same, hf, if_pos hb]
        · refine ⟨e, ?_⟩
          rw [hf, if_neg (by rw [hb]; decide), List.append_nil]
          exact hd
      · rintro H' ⟨e, hd⟩
        rw [List.take_length] at hd
        refine ⟨(by show 0 ≤ sizeLine; decide), fun t htt => ⟨D, t, _, rfl, rfl, SqL.of (upd_new htt hd), SqL.of upd_same, _, rfl, ?_⟩⟩
        have e2 := e.trans (same_new (o' := .lst []) htt)
        refine v_ifb (fun hb => ?_) (fun hb => ?_)
        · have eb : isMem top xs = false := by
            have ne : xs.all (lvl top) = false := by
              cases q : xs.all (lvl top) with
              | false => rfl
              | true =>
                have z : xs.filter (fun x => !lvl top x) = [] := by
                  refine List.filter_eq_nil_iff.mpr fun x hx => ?_
                  rw [List.all_eq_true.mp q x hx]
                  decide
                rw [z] at hb
                cases hb
            unfold isMem
            rw [ne]
            rfl
          have q := k _ e2
          rw [eb] at q
          exact q
        · have al : xs.all (lvl top) = true := by
            refine List.all_eq_true.mpr fun x hx => ?_
            cases q : lvl top x with
            | true => rfl
            | false =>
              have : x ∈ xs.filter (fun x => !lvl top x) := List.mem_filter.mpr ⟨hx, by rw [q]; rfl⟩
              cases z : xs.filter (fun x => !lvl top x) with
              | nil =>
                rw [z] at this
                cases this
              | cons _ _ =>
                rw [z] at hb
                cases hb
          obtain ⟨en, le⟩ := all_lvl al
          refine ⟨_, rfl, _, rfl, top, rfl, h6, fun p H3 ys nss np e3 hp tys perm => ?_⟩
          have a3 : SqT K H3 a (vns (xs.map natV)) := by
            rw [← en]
            exact sqT_same (e2.trans e3) h
          refine ⟨_, _, dp_tup a3, dp_list (SqL.of hp) tys, shaped_tup _, shaped_list _, ?_⟩
          rw [any_tups]
          have eb : nss.contains (xs.map natV) = isMem top xs := by
            unfold isMem
            rw [al, Bool.true_and]
            rw [Bool.eq_iff_iff, List.contains_iff_mem, perm.mem_iff, decide_eq_true_iff]
            constructor
            · intro hm
              exact (VM.good_of h1 h6 hm).self
            · intro hs
              rw [← hs]
              exact (VM.fol_mem h1 h6 le).1
          rw [eb]
          exact k H3 (e2.trans e3)
/-! ### what is asked -/
inductive Due | mem | lev (i : Nat) | free
def lvOf : Option Nat → Due
  | some i => .lev i
  | none => .free
def dueOf (way : Nat) (b : Bool) (c : Option Nat) : Due :=
  if way = 0 then (if b = false then .mem else lvOf c)
  else if way = 1 then lvOf c
  else if b = false then .mem else .free
def Told (K : PySem.W.Frag) (H : Hp) : Due → V → Prop
  | .mem, v => v = .str "memory"
  | .lev i, v => ∃ p, v = .ref p ∧ H p = some (.lst [.str "levels", vn i])
  | .free, v => (∃ p ns, v = .ref p ∧ SqT K H p (vns ns)) ∨ ∃ n, v = vn n
def spAsked (K : PySem.W.Frag) : Sp := fun vs H Q _ => ∃ (way top : Nat) (x y : V) (b : Bool) (c : Option Nat), vs = [vn way, vn top, x, y] ∧ top ≤ 6 ∧ MemV K H top x b ∧ LevV K H top y c ∧ ∀ H' v, Same H H' → Told K H' (dueOf way b c) v → Q v H'
theorem ok_asked {f : Addr} {fd : FuncData} (F : Fun K "_law_asked" "_law_asked" s_law_asked f fd) (T : Txt K mg C) (L : TxtL K mg D) (two : PySem.W.exmOne K (.ref D) (.ref C) = some false) (Dmemory_after : Def P w K mg base (L2.CX P w) 5 "memory_after" ["top", "memory", "levels"] (spAfter K C D))
    (Dmemory_of : Def P w K mg base (L2.CX P w) 6 "memory_of" ["top", "history"] (spOf K D)) (Dswitches_on : Def P w K mg base (L2.CX P w) 5 "switches_on" ["top", "memory"] (spOnP K C)) :
    FnOk P w K mg base CX0 7 f fd ["way", "top", "memory", "levels"] (spAsked K) := by
  have nd := sc_law_asked.nd
  refine F.ok sc_law_asked (fun vs H Q E h => ?_) (fun cdv A outer s H vs Q E hr h => ?_)
  · obtain ⟨way, top, x, y, b, c, rfl, _⟩ := h
    rfl
  · obtain ⟨way, top, x, y, b, c, rfl, h6, hx, hy, k⟩ := h
    refine ⟨_, (pss_cons (ps_set (i := 4) nd rfl (Or.inl rfl) pe_non) (pss_cons (ps_try_arms rfl rfl nd takes0 (fun W pn xe tk _ => (pss_one (ps_if (pt_cmpR op_eq (pv 0) pe_int (nomark _)) (pss_one (ps_set (i := 4) nd rfl (Or.inl rfl) (pe_callDS Dmemory_after (hr.mono (by decide)) rfl (fun σ => passAt tk σ) (pa_cons (pv 1) (pa_cons (pv 2) (pa_cons (pv 3) pa_nil)))))) (pss_one (ps_if (pt_cmpR op_eq (pv 0) pe_int (nomark _)) (pss_one (ps_set (i := 4) nd rfl (Or.inl rfl) (pe_callDS Dmemory_of (hr.mono (by decide)) rfl (fun σ => passAt tk σ) (pa_cons (pv 1) (pa_cons (pv 3) pa_nil))))) (pss_one (ps_set (i := 4) nd rfl (Or.inl rfl) (pe_callB (kCall rLenK K call_len_seq) (by rfl) T.len_ PySem.boot_len (pa_cons (pe_callDS Dswitches_on (hr.mono (by decide)) rfl (fun σ => passAt tk σ) (pa_cons (pv 1) (pa_cons (pv 2) pa_nil))) pa_nil))))))))) (Arms.bare T.BadMemory_names (fun a oe cls d pn _ _ => (pss_one (ps_set (i := 4) nd rfl (Or.inl rfl) pe_str))) (Arms.kept (i := 5) L.BadLevels_names rfl rfl (fun a oe cls d pn hz hf => (pss_one (ps_set (i := 4) nd rfl (Or.inl rfl) (pe_lst (pa_cons pe_str (pa_cons (pe_xf L.xBadLevels L.noBadLevels hz hf (pv 5)) pa_nil)))))) Arms.done))) (pss_one (ps_ret (pv 4))))), ?_⟩
    have due0 : way = 0 → dueOf way b c = (if b = false then .mem else lvOf c) := fun h => by unfold dueOf; rw [if_pos h]
    have due1 : way = 1 → dueOf way b c = lvOf c := fun h => by unfold dueOf; rw [if_neg (by omega), if_pos h]
    have due2 : way ≠ 0 → way ≠ 1 → dueOf way b c = (if b = false then .mem else .free) := fun h h' => by unfold dueOf; rw [if_neg h, if_neg h']
    have toldM : dueOf way b c = .mem → ∀ H', Same H H' → Q (.str "memory") H' := fun hd H' e => k H' _ e (by rw [hd]; rfl)
    have toldL : ∀ i, dueOf way b c = .lev i → ∀ (d : Addr) (H' : Hp), Same H H' → H' d = some (.xd [("index", vn i)]) → ∀ p, H' p = none → Q (.ref p) (upd H' p (.lst [.str "levels", vn i])) :=
      fun i hi d H' e hd p hp => k _ _ (e.trans (same_new hp)) (by rw [hi]; exact ⟨p, rfl, upd_same⟩)
    refine ⟨_, rfl, rfl, _, rfl, ?_⟩
    refine v_ifd (fun hw => ?_) (fun hw => ?_)
    · have hw' : way = 0 := by
        have z : V.int (way : Int) = V.int 0 := hw
        injection z with z
        omega
      refine ⟨_, rfl, _, rfl, _, rfl, top, x, y, b, c, rfl, hx, hy, fun hb H' e => ?_, fun hb i hc d H' e hd => ?_, fun hb hc => ?_⟩
      · refine ⟨true, T.eC, fun _ a0 _ => ?_, fun q => Bool.noConfusion q⟩
        exact ⟨_, rfl, toldM (by rw [due0 hw', if_pos hb]) H' e⟩
      · refine ⟨false, two, fun q => Bool.noConfusion q, fun _ => ⟨true, L.eL, fun _ a0 _ => ?_, fun q => Bool.noConfusion q⟩⟩
        refine ⟨_, rfl, rfl, rfl, d, _, _, rfl, hd, rfl, (by show 2 ≤ sizeLine; decide), fun p hp => ?_⟩
        exact ⟨_, rfl, toldL i (by rw [due0 hw', hb, hc]; rfl) d H' e hd p hp⟩
      · obtain ⟨p, m, rfl, hp, zp⟩ := memV_true hx hb
        obtain ⟨q, ls, rfl, hq, zq, _⟩ := levV_none hy hc
        refine ⟨p, q, m, ls, rfl, rfl, hp, hq, zp, zq, fun r H' e hr' => ⟨_, rfl, k H' _ e ?_⟩⟩
        rw [due0 hw', hb, hc]
        exact .inl ⟨r, _, rfl, hr'⟩
    · have nw : way ≠ 0 := fun z => hw (by rw [z]; rfl)
      refine ⟨_, rfl, rfl, _, rfl, ?_⟩
      refine v_ifd (fun hv => ?_) (fun hv => ?_)
      · have hw' : way = 1 := by
          have z : V.int (way : Int) = V.int 1 := hv
          injection z with z
          omega
        refine ⟨_, rfl, _, rfl, top, y, c, rfl, hy, fun i hc d H' e hd => ?_, fun hc => ?_⟩
        · refine ⟨false, two, fun q => Bool.noConfusion q, fun _ => ⟨true, L.eL, fun _ a0 _ => ?_, fun q => Bool.noConfusion q⟩⟩
          refine ⟨_, rfl, rfl, rfl, d, _, _, rfl, hd, rfl, (by show 2 ≤ sizeLine; decide), fun p hp => ?_⟩
          exact ⟨_, rfl, toldL i (by rw [due1 hw', hc]; rfl) d H' e hd p hp⟩
        · obtain ⟨q, ls, rfl, hq, zq, _⟩ := levV_none hy hc
          refine ⟨q, ls, rfl, hq, zq, fun r H' e hr' => ⟨_, rfl, k H' _ e ?_⟩⟩
          rw [due1 hw', hc]
          exact .inl ⟨r, _, rfl, hr'⟩
      · have nv : way ≠ 1 := fun z => hv (by rw [z]; rfl)
        refine ⟨_, rfl, _, rfl, top, x, b, rfl, h6, hx, fun hb H' e => ?_, fun hb => ?_⟩
        · refine ⟨true, T.eC, fun _ a0 _ => ?_, fun q => Bool.noConfusion q⟩
          exact ⟨_, rfl, toldM (by rw [due2 nw nv, if_pos hb]) H' e⟩
        · obtain ⟨p, m, rfl, hp, zp⟩ := memV_true hx hb
          refine ⟨p, m, rfl, hp, fun r H' ys nr e h' ty => ⟨r, ys, rfl, .inl (SqL.of h'), ?_⟩⟩
          refine ⟨_, rfl, k H' _ e ?_⟩
          rw [due2 nw nv, hb]
          exact .inr ⟨ys.length, rfl⟩
end

section
variable {K : PySem.W.Frag}
/-! ### values of the kinds that the document names, with their data; none of the lists is the feed (at f) -/
structure It (K : PySem.W.Frag) (H : Hp) (f : Addr) (v : V) (n k : Nat) : Prop where
  ok : ∃ s, OkT K H v s
  dat : ∃ d, DX K H f v d ∧ PyData.showable d = true ∧ PyData.leavesShort 25 d = true ∧ d.depth ≤ k ∧ d.bulk ≤ n
theorem its_all {H : Hp} {f : Addr} {n k : Nat} : ∀ {xs : List V}, (∀ x ∈ xs, It K H f x n k) →
    ∃ ds, DXs K H f xs ds ∧ PyData.showableAll ds = true ∧ PyData.leavesShortAll 25 ds = true ∧ PyData.depthAll ds ≤ k ∧ PyData.bulkAll ds ≤ xs.length * (n + 1)
  | [], _ => ⟨[], .nil, rfl, rfl, Nat.zero_le _, Nat.zero_le _⟩
  | x :: r, h => by
    obtain ⟨d, h1, h2, h3, h4, h5⟩ := (h x (by simp)).dat
    obtain ⟨ds, g1, g2, g3, g4, g5⟩ := its_all (xs := r) fun y hy => h y (by simp [hy])
    refine ⟨d :: ds, .cons h1 g1, ?_, ?_, ?_, ?_⟩
    · show (d.showable && PyData.showableAll ds) = true
      rw [h2, g2]
      rfl
    · show (d.leavesShort 25 && PyData.leavesShortAll 25 ds) = true
      rw [h3, g3]
      rfl
    · show max d.depth (PyData.depthAll ds) ≤ k
      exact Nat.max_le.mpr ⟨h4, g4⟩
    · show d.bulk + 1 + PyData.bulkAll ds ≤ (r.length + 1) * (n + 1)
      rw [Nat.add_mul]
      omega
theorem It.mono {H : Hp} {f : Addr} {v : V} {n k n' k' : Nat} (h : It K H f v n k) (a : n ≤ n') (b : k ≤ k') : It K H f v n' k' :=
  ⟨h.ok, let ⟨d, h1, h2, h3, h4, h5⟩ := h.dat; ⟨d, h1, h2, h3, Nat.le_trans h4 b, Nat.le_trans h5 a⟩⟩
theorem it_lst {H : Hp} {f a : Addr} {xs : List V} {n k : Nat} (h : H a = some (.lst xs)) (ne : a ≠ f) (all : ∀ x ∈ xs, It K H f x n k) : It K H f (.ref a) (xs.length * (n + 1)) (k + 1) := by
  obtain ⟨ds, g1, g2, g3, g4, g5⟩ := its_all all
  exact ⟨⟨_, ok_lst h⟩, .list ds, .lst h ne g1, g2, g3, Nat.succ_le_succ g4, g5⟩
theorem it_tup {H : Hp} {f a : Addr} {xs : List V} {n k : Nat} (h : SqT K H a xs) (all : ∀ x ∈ xs, It K H f x n k) : It K H f (.ref a) (xs.length * (n + 1)) (k + 1) := by
  obtain ⟨ds, g1, g2, g3, g4, g5⟩ := its_all all
  exact ⟨⟨_, ok_tupS h⟩, .tuple ds, .tup h g1, g2, g3, Nat.succ_le_succ g4, g5⟩
theorem it_dct {H : Hp} {f a : Addr} (h : H a = some (.dK [])) : It K H f (.ref a) 0 1 :=
  ⟨⟨"dict", .base (.dK h), by decide⟩, .dict [], .dct h, rfl, rfl, by decide, Nat.le_refl _⟩
theorem it_non {H : Hp} {f : Addr} : It K H f .non 0 0 := ⟨⟨"NoneType", .base .non, by decide⟩, .none, .non, rfl, rfl, Nat.le_refl _, Nat.le_refl _⟩
theorem it_bl {H : Hp} {f : Addr} {b : Bool} : It K H f (.bl b) 0 0 := ⟨⟨"bool", .base (.bl _), by decide⟩, .bool b, .bl b, rfl, rfl, Nat.le_refl _, Nat.le_refl _⟩
theorem it_int {H : Hp} {f : Addr} {i : Int} (a : PyData.showable (.int i) = true) (s : PyData.leavesShort 25 (.int i) = true) : It K H f (.int i) 0 0 := ⟨⟨_, ok_int⟩, .int i, .int i, a, s, Nat.le_refl _, Nat.le_refl _⟩
theorem it_nat {H : Hp} {f : Addr} {n : Nat} (h : n ≤ 9) : It K H f (vn n) 0 0 := by
  have q := slim_nat h
  exact it_int q.able q.short
theorem it_str {H : Hp} {f : Addr} {t : Str} (s : PyData.leavesShort 25 (.str t) = true) (z : t.cps.size ≤ 10) : It K H f (.str t) 10 0 := ⟨⟨"str", .base (.str _), by decide⟩, .str t, .str t, rfl, s, Nat.le_refl _, z⟩
theorem it_vns {H : Hp} {f : Addr} {ns : List Nat} (h : ∀ n ∈ ns, n ≤ 9) : ∀ x ∈ vns ns, It K H f x 0 0 := by
  intro x hx
  obtain ⟨n, hn, rfl⟩ := List.mem_map.mp hx
  exact it_nat (h n hn)
/-! .. where the heap has moved on -/
mutual
theorem dx_on {H H' : Hp} {f : Addr} (e : But f H H') (hf : Fd H f) : ∀ (d : PyData) (v : V), DX K H f v d → DX K H' f v d
  | .none, _, h => by
    cases h
    exact .non
  | .bool _, _, h => by
    cases h
    exact .bl _
  | .int _, _, h => by
    cases h
    exact .int _
  | .str _, _, h => by
    cases h
    exact .str _
  | .list ds, _, h => by
    cases h with
    | lst hs ne all => exact .lst (e _ _ hs ne) ne (dxs_on e hf ds _ all)
  | .tuple ds, _, h => by
    cases h with
    | tup hs all =>
      obtain ⟨a0, b0, hf', _, _⟩ := id hf
      exact .tup (sqT_but e hf' hs) (dxs_on e hf ds _ all)
  | .dict kvs, _, h => by
    cases h with
    | dct hs =>
      obtain ⟨a0, b0, hf', _, _⟩ := id hf
      refine .dct (e _ _ hs fun z => ?_)
      rw [z, hf'] at hs
      cases hs
theorem dxs_on {H H' : Hp} {f : Addr} (e : But f H H') (hf : Fd H f) : ∀ (ds : List PyData) (vs : List V), DXs K H f vs ds → DXs K H' f vs ds
  | [], _, h => by
    cases h
    exact .nil
  | d :: ds, _, h => by
    cases h with
    | cons a b => exact .cons (dx_on e hf d _ a) (dxs_on e hf ds _ b)
end
theorem It.now {H H' : Hp} {f : Addr} {v : V} {n k : Nat} (hf : Fd H f) (e : Now f H H') (h : It K H f v n k) : It K H' f v n k := by
  obtain ⟨s, ok⟩ := h.ok
  obtain ⟨d, h1, h2, h3, h4, h5⟩ := h.dat
  exact ⟨⟨s, OkT.now hf e ok⟩, d, dx_on e.but hf d _ h1, h2, h3, h4, h5⟩
theorem It.same {H H' : Hp} {f : Addr} {v : V} {n k : Nat} (hf : Fd H f) (e : Same H H') (h : It K H f v n k) : It K H' f v n k := h.now hf (Now.of hf e)
/-- a tuple of such items, as a memory that is handed in -/
theorem it_mem {H : Hp} {f a : Addr} {top : Nat} {xs : List V} {n k : Nat} (h : SqT K H a xs) (hz : xs.length ≤ 1000) (all : ∀ x ∈ xs, It K H f x n k) : ∃ b, MemV K H top (.ref a) b :=
  ⟨_, .tup h (ok_tupS h) (fun x hx => (all x hx).ok) hz⟩
/-- what looks like a memory, or like levels -/
structure Odd (K : PySem.W.Frag) (H : Hp) (f : Addr) (top : Nat) (v : V) : Prop where
  it : It K H f v 1000 10
  mem : ∃ b, MemV K H top v b
  lev : ∃ c, LevV K H top v c
theorem mem_of_kind {H : Hp} {f : Addr} {top : Nat} {v : V} {s : String} (ok : OkT K H v s) (hn : s ≠ "tuple") : ∃ b, MemV K H top v b := ⟨_, .other ok hn⟩
theorem lev_of_kind {H : Hp} {f : Addr} {top : Nat} {v : V} {s : String} (ok : OkT K H v s) (hn : s ≠ "list") : ∃ c, LevV K H top v c := ⟨_, .other ok hn⟩
end

local macro_rules | `(tactic| walk_at "chain") => `(tactic| repeat (first | exact Same.refl _ | refine Same.trans ?_ (same_new (by assumption))))
section
variable {P : Program} {w : World} {K : PySem.W.Frag} {mg : Str → Option Value} {base : Heap} {C D : Addr}
theorem v_catA {H : Hp} {p q : Addr} {xs ys : List V} {Q : VK} (h1 : SqT K H p xs) (h2 : SqT K H q ys) (hz : xs.length + ys.length ≤ 100000) (r : ∀ t H', Same H H' → SqT K H' t (xs ++ ys) → Q (.ref t) H') : rCatA K (.ref p) (.ref q) H Q := by
  refine ⟨p, q, xs, ys, rfl, rfl, h1, h2, small hz, fun e => r q H (Same.refl _) (by rw [e]; exact h2), fun _ e => r p H (Same.refl _) (by rw [e, List.append_nil]; exact h1), fun _ _ t ht => r t _ (same_new ht) (SqT.of upd_same)⟩
theorem v_slA {H : Hp} {p : Addr} {xs : List V} {lo hi : Option Int} {Q : VK} (h : SqT K H p xs) (r : ∀ t H', Same H H' → SqT K H' t (cutV xs lo hi) → Q (.ref t) H') : rSlA K (.ref p) lo hi H Q := by
  refine ⟨p, xs, rfl, h, fun e => r p H (Same.refl _) ?_, fun _ t ht => r t _ (same_new ht) (SqT.of upd_same)⟩
  have : cutV xs lo hi = xs := by
    unfold cutV
    rw [e.1, e.2]
    simp
  rw [this]
  exact h
theorem v_slAN {H : Hp} {p : Addr} {xs : List V} {lo : Option Int} {σ : L2.St} {Q : VK} (h : SqT K H p xs) (r : ∀ t H', Same H H' → SqT K H' t (cutV xs lo none) → Q (.ref t) H') : tNoPart σ H (fun u H3 => rSlA K (.ref p) lo u H3 Q) := v_slA h r
theorem MemV.now {H H' : Hp} {f : Addr} {top : Nat} (hf : Fd H f) (n : Now f H H') {x : V} {b : Bool} (h : MemV K H top x b) : MemV K H' top x b := by
  cases h with
  | tup h ht hi hz => exact .tup (sqT_now hf n h) (OkT.now hf n ht) (fun x hx => let ⟨s, q⟩ := hi x hx; ⟨s, OkT.now hf n q⟩) hz
  | other h hn => exact .other (OkT.now hf n h) hn
/-- a value near a memory -/
structure OddM (K : PySem.W.Frag) (H : Hp) (f : Addr) (top : Nat) (v : V) : Prop where
  it : It K H f v 1000 10
  mem : ∃ b, MemV K H top v b
theorem OddM.now {H H' : Hp} {f : Addr} {top : Nat} (hf : Fd H f) (n : Now f H H') {v : V} (h : OddM K H f top v) : OddM K H' f top v := ⟨h.it.now hf n, let ⟨b, q⟩ := h.mem; ⟨b, q.now hf n⟩⟩
theorem odd_tup {H : Hp} {f a : Addr} {top : Nat} {xs : List V} (h : SqT K H a xs) (hz : xs.length ≤ 9) (all : ∀ x ∈ xs, It K H f x 50 8) : OddM K H f top (.ref a) := by
  refine ⟨(it_tup h all).mono ?_ (by decide), it_mem h (by omega) all⟩
  have : xs.length * (50 + 1) ≤ 9 * 51 := Nat.mul_le_mul_right _ hz
  omega
theorem odd_other {H : Hp} {f : Addr} {top : Nat} {v : V} {s : String} {n k : Nat} (i : It K H f v n k) (ok : OkT K H v s) (hs : s ≠ "tuple") (hn : n ≤ 1000) (hk : k ≤ 10) : OddM K H f top v := ⟨i.mono hn hk, mem_of_kind (f := f) ok hs⟩
theorem all_vns {H : Hp} {f : Addr} {ns : List Nat} (h : ∀ n ∈ ns, n ≤ 9) : ∀ x ∈ vns ns, It K H f x 50 8 := fun x hx => (it_vns h x hx).mono (by decide) (by decide)
def spOddMem (K : PySem.W.Frag) : Sp := fun vs H Q _ => ∃ (f : Addr) (top : Nat), vs = [.ref f, vn top] ∧ Fd H f ∧ 1 ≤ top ∧ top ≤ 6 ∧ ∀ v H', Now f H H' → OddM K H' f top v → Q v H'
theorem ok_oddmem {f : Addr} {fd : FuncData} (F : Fun K "_law_odd_memory" "_law_odd_memory" s_law_odd_memory f fd) (T : Txt K mg C) (D_law_take : Def P w K mg base CX0 1 "_law_take" ["feed", "size"] spTakeN) (D_law_pick : Def P w K mg base CX0 2 "_law_pick" ["feed", "things"] (spPickN K))
    (D_law_memories : Def P w K mg base CX0 1 "_law_memories" ["top"] (spMemories K)) : FnOk P w K mg base CX0 3 f fd ["feed", "top"] (spOddMem K) := by
  have nd := sc_law_odd_memory.nd
  refine F.ok sc_law_odd_memory (fun vs H Q E h => ?_) (fun cdv A outer s H vs Q E hr h => ?_)
  · obtain ⟨f, top, rfl, _⟩ := h
    rfl
  · obtain ⟨f, top, rfl, hf, h1, h6, k⟩ := h
    refine ⟨_, (pss_cons (ps_par (i := 2) (j := 3) (by rfl) nd rfl rfl (by decide) rfl rfl (pa_cons (pe_callD D_law_pick (hr.mono (by decide)) rfl pass0 (pa_cons (pv 0) (pa_cons (pe_callD D_law_memories (hr.mono (by decide)) rfl pass0 (pa_cons (pv 1) pa_nil)) pa_nil))) (pa_cons (pe_callD D_law_take (hr.mono (by decide)) rfl pass0 (pa_cons (pv 0) (pa_cons pe_int pa_nil))) pa_nil)) (by rfl)) (pss_cons (ps_if (pt_cmpR op_eq (pv 3) pe_int (nomark _)) (pss_cons (ps_set (i := 4) nd rfl (Or.inl rfl) (pe_lst (pa_cons (pe_op op_catA (pv 2) (pe_tup (pa_cons pe_bl pa_nil))) (pa_cons (pe_tup (pa_cons (pv 1) (pa_cons pe_bl (pa_cons pe_int pa_nil)))) (pa_cons (pe_tup (pa_cons (pv 1) (pa_cons pe_non (pa_cons pe_int pa_nil)))) (pa_cons (pe_tup (pa_cons (pe_lst (pa_cons pe_int pa_nil)) pa_nil)) (pa_cons (pe_tup (pa_cons (pv 1) (pa_cons (pe_lst (pa_cons pe_int pa_nil)) pa_nil))) (pa_cons (pe_tup (pa_cons pe_dnewK pa_nil)) (pa_cons (pe_tup (pa_cons (pv 1) (pa_cons pe_dnewK pa_nil))) (pa_cons (pe_tup (pa_cons (pe_op op_add (pv 1) pe_int) (pa_cons pe_int pa_nil))) pa_nil)))))))))) (pss_one (ps_ret (pe_callD D_law_pick (hr.mono (by decide)) rfl pass0 (pa_cons (pv 0) (pa_cons (pv 4) pa_nil)))))) pss_nil) (pss_cons (ps_if (pt_cmpR op_eq (pv 3) pe_int (nomark _)) (pss_one (ps_ret (pe_callD D_law_pick (hr.mono (by decide)) rfl pass0 (pa_cons (pv 0) (pa_cons (pe_lst (pa_cons pe_non (pa_cons (pe_lst pa_nil) (pa_cons (pe_callTy call_list_of (by rfl) T.list_ (by decide +kernel) (pa_cons (pv 2) pa_nil)) (pa_cons pe_dnewK (pa_cons pe_int (pa_cons pe_str (pa_cons (pe_tup (pa_cons pe_non pa_nil)) (pa_cons (pe_tup (pa_cons (pe_tup (pa_cons pe_int pa_nil)) pa_nil)) (pa_cons (pe_tup (pa_cons pe_bl pa_nil)) (pa_cons (pe_tup (pa_cons pe_int pa_nil)) (pa_cons (pe_tup (pa_cons (pe_op op_add (pv 1) pe_int) pa_nil)) pa_nil)))))))))))) pa_nil))))) pss_nil) (pss_cons (ps_if (pt_cmpR op_eq (pv 3) pe_int (nomark _)) (pss_one (ps_ret (pe_revT (pv 2)))) pss_nil) (pss_cons (ps_if (pt_cmpR op_eq (pv 3) pe_int (nomark _)) (pss_one (ps_ret (pe_op op_catA (pv 2) (pe_slice sl_tupA (pv 2) (po_some (pe_un un_neg pe_int)) po_none)))) pss_nil) (pss_cons (ps_if (pt_cmpR op_eq (pv 3) pe_int (nomark _)) (pss_one (ps_ret (pe_op op_catA (pv 2) (pe_tup (pa_cons (pe_callD D_law_take (hr.mono (by decide)) rfl pass0 (pa_cons (pv 0) (pa_cons (pe_op op_add (pv 1) pe_int) pa_nil))) pa_nil))))) pss_nil) (pss_one (ps_ret (pe_ifExp (pt_cmpR op_eq (pv 3) pe_int (nomark _)) (pe_slice sl_tupA (pv 2) (po_some pe_int) po_none) (pv 2)))))))))), ?_⟩
    refine ⟨_, rfl, _, rfl, top, rfl, h6, fun ev H1 ys nss nev e1 hev tys perm => ?_⟩
    have hlen : ys.length = 2 ^ top := by rw [tys.len, perm.length_eq, ms_count]
    have hpos : 0 < ys.length := by rw [hlen]; exact Nat.pow_pos (by decide)
    have hl64 : ys.length ≤ 64 := by rw [hlen]; exact two_pow h6
    refine ⟨f, ev, ys, rfl, hf.same e1, SqL.of hev, ne_fd hf nev, hpos, by omega, fun v H2 hv n12 => ?_⟩
    obtain ⟨p, m, rfl, hm, hp⟩ := tys.mem hv
    have gm := VM.good_of h1 h6 (perm.mem_iff.mp hm)
    have lm := ms_len h6 (perm.mem_iff.mp hm)
    have hp2 := sqT_now (hf.same e1) n12 hp
    refine ⟨_, rfl, f, 8, rfl, n12.fd, by omega, by omega, fun wy H3 hw n23 => ⟨_, _, rfl, ?_⟩⟩
    have hp3 := sqT_now n12.fd n23 hp2
    have n03 : Now f H H3 := ((Now.of hf e1).trans n12).trans n23
    have m9 : ∀ x ∈ m, x ≤ 9 := fun x hx => Nat.le_trans (gm.lev x hx) (by omega)
    clear hev tys perm hv hp hm hlen hpos hl64
    have t9 : top ≤ 9 := by omega
    -- way == 7
    refine ⟨_, rfl, rfl, _, rfl, ?_⟩
    refine v_ifd (fun hc => ?_) (fun hc => ?_)
    · refine ⟨_, rfl, (by show 1 ≤ sizeLine; decide), fun t0 ht0 => ?_⟩
      refine v_catA (sqT_same (same_new ht0) hp3) (SqT.of upd_same) (by simp only [List.length_map, List.length_cons, List.length_nil]; omega) fun t1 Ha ea ha => ?_
      have e3a := (same_new ht0).trans ea
      have na := n03.same e3a
      refine ⟨_, rfl, (by show 3 ≤ sizeLine; decide), fun t2 ht2 => ⟨_, rfl, (by show 3 ≤ sizeLine; decide), fun t3 ht3 => ⟨(by show 1 ≤ sizeLine; decide), fun l4 hl4 => ⟨(by show 1 ≤ sizeLine; decide), fun t4 ht4 => ⟨_, rfl, (by show 1 ≤ sizeLine; decide), fun l5 hl5 =>
        ⟨(by show 2 ≤ sizeLine; decide), fun t5 ht5 d6 hd6 => ⟨(by show 1 ≤ sizeLine; decide), fun t6 ht6 => ⟨_, rfl, fun d7 hd7 => ⟨(by show 2 ≤ sizeLine; decide), fun t7 ht7 => ⟨_, rfl, _, _, rfl, rfl, (by show 2 ≤ sizeLine; decide), fun t8 ht8 => ⟨(by show 8 ≤ sizeLine; decide), fun o ho => ?_⟩⟩⟩⟩⟩⟩⟩⟩⟩⟩⟩
      refine ⟨_, rfl, _, rfl, f, o, _, rfl, (na.same (by walk_at "chain")).fd, SqL.of upd_same, ne_fd (na.same (by walk_at "chain")).fd ho, by simp, by simp, fun v H' hv n' => k v H' ((na.same (by walk_at "chain")).trans n') (OddM.now (na.same (by walk_at "chain")).fd n' ?_)⟩
      simp only [List.mem_cons, List.not_mem_nil, or_false] at hv
      have one : ∀ {H : Hp}, It K H f (.int 1) 50 8 := (it_nat (n := 1) (by decide)).mono (by decide) (by decide)
      have tp : ∀ {H : Hp}, It K H f (vn top) 50 8 := (it_nat t9).mono (by decide) (by decide)
      have bt : ∀ {H : Hp} {b : Bool}, It K H f (.bl b) 50 8 := it_bl.mono (by decide) (by decide)
      have nn : ∀ {H : Hp}, It K H f .non 50 8 := it_non.mono (by decide) (by decide)
      rcases hv with rfl | rfl | rfl | rfl | rfl | rfl | rfl | rfl
      · refine odd_tup (sqT_same (by walk_at "chain") ha) (by simp only [List.length_append, List.length_map, List.length_cons, List.length_nil]; omega) fun x hx => ?_
        rcases List.mem_append.mp hx with hx | hx
        · exact all_vns m9 x hx
        · rw [List.mem_singleton.mp hx]
          exact bt
      · refine odd_tup (SqT.of (by walk_at "hp")) (by simp) fun x hx => ?_
        simp only [List.mem_cons, List.not_mem_nil, or_false] at hx
        rcases hx with rfl | rfl | rfl
        · exact tp
        · exact bt
        · exact one
      · refine odd_tup (SqT.of (by walk_at "hp")) (by simp) fun x hx => ?_
        simp only [List.mem_cons, List.not_mem_nil, or_false] at hx
        rcases hx with rfl | rfl | rfl
        · exact tp
        · exact nn
        · exact one
      · refine odd_tup (SqT.of (by walk_at "hp")) (by simp) fun x hx => ?_
        rw [List.mem_singleton.mp hx]
        exact (it_lst (n := 0) (k := 0) (xs := [.int 1]) (by walk_at "hp") (ne_fd (na.same (by walk_at "chain")).fd hl4) (fun y hy => by rw [List.mem_singleton.mp hy]; exact it_nat (n := 1) (by decide))).mono (by simp) (by decide)
      · refine odd_tup (SqT.of (by walk_at "hp")) (by simp) fun x hx => ?_
        simp only [List.mem_cons, List.not_mem_nil, or_false] at hx
        rcases hx with rfl | rfl
        · exact tp
        · exact (it_lst (n := 0) (k := 0) (xs := [.int 1]) (by walk_at "hp") (ne_fd (na.same (by walk_at "chain")).fd hl5) (fun y hy => by rw [List.mem_singleton.mp hy]; exact it_nat (n := 1) (by decide))).mono (by simp) (by decide)
      · refine odd_tup (SqT.of (by walk_at "hp")) (by simp) fun x hx => ?_
        rw [List.mem_singleton.mp hx]
        exact (it_dct (by walk_at "hp")).mono (by decide) (by decide)
      · refine odd_tup (SqT.of (by walk_at "hp")) (by simp) fun x hx => ?_
        simp only [List.mem_cons, List.not_mem_nil, or_false] at hx
        rcases hx with rfl | rfl
        · exact tp
        · exact (it_dct (by walk_at "hp")).mono (by decide) (by decide)
      · refine odd_tup (SqT.of (by walk_at "hp")) (by simp) fun x hx => ?_
        simp only [List.mem_cons, List.not_mem_nil, or_false] at hx
        rcases hx with rfl | rfl
        · show It K _ f (vn (top + 1)) 50 8
          exact (it_nat (by omega)).mono (by decide) (by decide)
        · exact one
    -- way == 0
    refine ⟨_, rfl, rfl, _, rfl, ?_⟩
    refine v_ifd (fun hc => ?_) (fun hc => ?_)
    · refine ⟨_, rfl, (by show 0 ≤ sizeLine; decide), fun l1 hl1 => ⟨_, rfl, p, _, rfl, .inr (sqT_same (same_new hl1) hp3), fun l2 hl2 d3 hd3 => ?_⟩⟩
      refine ⟨(by show 1 ≤ sizeLine; decide), fun t4 ht4 => ⟨(by show 1 ≤ sizeLine; decide), fun t5 ht5 => ⟨(by show 1 ≤ sizeLine; decide), fun t6 ht6 => ⟨(by show 1 ≤ sizeLine; decide), fun t7 ht7 => ⟨(by show 1 ≤ sizeLine; decide), fun t8 ht8 =>
        ⟨_, rfl, _, _, rfl, rfl, (by show 1 ≤ sizeLine; decide), fun ta hta => ⟨(by show 11 ≤ sizeLine; decide), fun o ho => ?_⟩⟩⟩⟩⟩⟩⟩
      have nb := n03
      refine ⟨f, o, _, rfl, (nb.same (by walk_at "chain")).fd, SqL.of upd_same, ne_fd (nb.same (by walk_at "chain")).fd ho, by simp, by simp, fun v H' hv n' => k v H' ((nb.same (by walk_at "chain")).trans n') (OddM.now (nb.same (by walk_at "chain")).fd n' ?_)⟩
      simp only [List.mem_cons, List.not_mem_nil, or_false] at hv
      have sg : ∀ {H : Hp} {x : V} {t : Addr}, It K H f x 50 8 → H t = some (.tup [x]) → OddM K H f top (.ref t) := fun hx ht => odd_tup (SqT.of ht) (by simp) fun y hy => by rw [List.mem_singleton.mp hy]; exact hx
      rcases hv with rfl | rfl | rfl | rfl | rfl | rfl | rfl | rfl | rfl | rfl | rfl
      · exact odd_other (s := "NoneType") it_non ⟨.base .non, by decide⟩ (by decide) (by decide) (by decide)
      · exact odd_other (it_lst (n := 0) (k := 0) (xs := []) (by walk_at "hp") (ne_fd n03.fd hl1) (by simp)) (ok_lst (xs := []) (by walk_at "hp")) (by decide) (by simp) (by decide)
      · exact odd_other (it_lst (n := 0) (k := 0) (xs := vns m) (by walk_at "hp") (ne_fd (nb.same (by walk_at "chain")).fd hl2) (it_vns m9)) (ok_lst (xs := vns m) (by walk_at "hp")) (by decide) (by simp only [List.length_map]; omega) (by decide)
      · exact odd_other (s := "dict") (it_dct (by walk_at "hp")) ⟨.base (.dK (by walk_at "hp")), by decide⟩ (by decide) (by decide) (by decide)
      · exact odd_other (it_nat (n := 0) (by decide)) (ok_int (i := 0)) (by decide) (by decide) (by decide)
      · exact odd_other (s := "str") (it_str (by decide +kernel) (by decide +kernel)) ⟨.base (.str _), by decide⟩ (by decide) (by decide) (by decide)
      · exact sg (it_non.mono (by decide) (by decide)) (by walk_at "hp")
      · refine sg (x := .ref t5) ?_ (by walk_at "hp")
        exact (it_tup (n := 0) (k := 0) (xs := [.int 1]) (SqT.of (by walk_at "hp")) (fun y hy => by rw [List.mem_singleton.mp hy]; exact it_nat (n := 1) (by decide))).mono (by simp) (by decide)
      · exact sg (it_bl.mono (by decide) (by decide)) (by walk_at "hp")
      · exact sg ((it_nat (n := 0) (by decide)).mono (by decide) (by decide)) (by walk_at "hp")
      · exact sg (x := vn (top + 1)) ((it_nat (by omega)).mono (by decide) (by decide)) (by walk_at "hp")
    have cutm : ∀ {lo hi : Option Int} {H : Hp} {t : Addr}, SqT K H t (cutV (vns m) lo hi) → ∃ ms, SqT K H t (vns ms) ∧ ms.length ≤ m.length ∧ ∀ x ∈ ms, x ≤ 9 := by
      intro lo hi H t ht
      obtain ⟨ms, e, le, sub⟩ := cut_vns m lo hi
      exact ⟨ms, by rw [← e]; exact ht, le, fun x hx => m9 x (sub x hx)⟩
    -- way == 1
    refine ⟨_, rfl, rfl, _, rfl, ?_⟩
    refine v_ifd (fun hc => ?_) (fun hc => ?_)
    · refine ⟨_, rfl, p, _, rfl, hp3, fun t ht => k _ _ (n03.same (same_new ht)) (odd_tup (SqT.of upd_same) (by simp only [List.length_reverse, List.length_map]; omega) fun x hx => all_vns m9 x (List.mem_reverse.mp hx))⟩
    -- way == 2
    refine ⟨_, rfl, rfl, _, rfl, ?_⟩
    refine v_ifd (fun hc => ?_) (fun hc => ?_)
    · refine ⟨_, rfl, _, rfl, _, rfl, _, rfl, ?_⟩
      show tNoPart _ _ _
      refine v_slAN hp3 fun t Hx e ht => ?_
      obtain ⟨ms, hms, lms, ms9⟩ := cutm ht
      refine v_catA (sqT_same e hp3) hms (by simp only [List.length_map]; omega) fun r Hy e2 hr2 => ?_
      refine k _ _ (n03.same (e.trans e2)) ⟨(it_tup (n := 0) (k := 0) hr2 fun x hx => ?_).mono (by simp only [List.length_append, List.length_map]; omega) (by decide), it_mem (n := 0) (k := 0) (f := f) hr2 (by simp only [List.length_append, List.length_map]; omega) fun x hx => ?_⟩
      · exact (List.mem_append.mp hx).elim (it_vns m9 x) (it_vns ms9 x)
      · exact (List.mem_append.mp hx).elim (it_vns m9 x) (it_vns ms9 x)
    -- way == 3
    refine ⟨_, rfl, rfl, _, rfl, ?_⟩
    refine v_ifd (fun hc => ?_) (fun hc => ?_)
    · refine ⟨_, rfl, _, rfl, _, rfl, _, _, rfl, rfl, f, _, rfl, n03.fd, by omega, by omega, fun r H4 hr4 n34 => ⟨(by show 1 ≤ sizeLine; decide), fun t ht => ?_⟩⟩
      have hp4 := sqT_now n03.fd n34 hp3
      have n04 := n03.trans n34
      refine v_catA (sqT_same (same_new ht) hp4) (SqT.of upd_same) (by simp only [List.length_map, List.length_cons, List.length_nil]; omega) fun q Hy e2 hq => ?_
      refine k _ _ (n04.same ((same_new ht).trans e2)) (odd_tup hq (by simp only [List.length_append, List.length_map, List.length_cons, List.length_nil]; omega) fun x hx => ?_)
      rcases List.mem_append.mp hx with hx | hx
      · exact all_vns m9 x hx
      · rw [List.mem_singleton.mp hx]
        exact (it_nat (by omega)).mono (by decide) (by decide)
    -- the rest
    refine ⟨_, rfl, rfl, _, rfl, ?_⟩
    refine v_ifd (fun hc => ?_) (fun hc => ?_)
    · refine ⟨_, rfl, _, rfl, ?_⟩
      show tNoPart _ _ _
      refine v_slAN hp3 fun t Hx e ht => ?_
      obtain ⟨ms, hms, lms, ms9⟩ := cutm ht
      exact k _ _ (n03.same e) (odd_tup hms (by simp only [List.length_map]; omega) (all_vns ms9))
    · exact ⟨_, rfl, k _ _ n03 (odd_tup hp3 (by simp only [List.length_map]; omega) (all_vns m9))⟩
end

local macro_rules | `(tactic| walk_at "chain") => `(tactic| repeat (first | exact Same.refl _ | refine Same.trans ?_ (same_new (by assumption))))
section
variable {P : Program} {w : World} {K : PySem.W.Frag} {mg : Str → Option Value} {base : Heap} {C D : Addr}
/-- a value near levels -/
structure OddL (K : PySem.W.Frag) (H : Hp) (f : Addr) (top : Nat) (v : V) : Prop where
  it : It K H f v 1000 10
  lev : ∃ c, LevV K H top v c
  ne : v ≠ .ref f
theorem LevV.now {H H' : Hp} {f : Addr} {top : Nat} (hf : Fd H f) (n : Now f H H') {x : V} {b : Option Nat} (ne : x ≠ .ref f) (h : LevV K H top x b) : LevV K H' top x b := by
  cases h with
  | lst h ht hi hz => exact .lst (sqL_but n.but (fun z => ne (by rw [z])) h) (OkT.now hf n ht) (fun x hx => let ⟨s, q⟩ := hi x hx; ⟨s, OkT.now hf n q⟩) hz
  | other h hn => exact .other (OkT.now hf n h) hn
/-- at p: a list of items -/
def LI (K : PySem.W.Frag) (H : Hp) (f p : Addr) (n : Nat) : Prop := ∃ xs, H p = some (.lst xs) ∧ xs.length ≤ n ∧ ∀ x ∈ xs, It K H f x 10 3
theorem LI.of {H : Hp} {f p : Addr} {top n : Nat} (t : top ≤ 6) (h : Lv H p top n) : LI K H f p n := by
  obtain ⟨ls, a, b, c⟩ := h
  exact ⟨_, a, by simpa using b, fun x hx => (it_vns (fun y hy => Nat.le_trans (c y hy) (by omega)) x hx).mono (by decide) (by decide)⟩
theorem LI.now {H H' : Hp} {f p : Addr} {n : Nat} (hf : Fd H f) (e : Now f H H') (hp : p ≠ f) (h : LI K H f p n) : LI K H' f p n := by
  obtain ⟨xs, a, b, c⟩ := h
  exact ⟨xs, e.but _ _ a hp, b, fun x hx => (c x hx).now hf e⟩
theorem LI.same {H H' : Hp} {f p : Addr} {n : Nat} (hf : Fd H f) (e : Same H H') (h : LI K H f p n) : LI K H' f p n := by
  obtain ⟨xs, a, b, c⟩ := h
  exact ⟨xs, e _ _ a, b, fun x hx => (c x hx).same hf e⟩
theorem v_catLI {H : Hp} {f p q : Addr} {n m : Nat} {Q : VK} (hf : Fd H f) (h1 : LI K H f p n) (h2 : LI K H f q m) (hz : n + m ≤ 1000) (r : ∀ t H', H t = none → Same H H' → LI K H' f t (n + m) → Q (.ref t) H') : rCat (.ref p) (.ref q) H Q := by
  obtain ⟨xs, a, b, c⟩ := h1
  obtain ⟨ys, a2, b2, c2⟩ := h2
  refine ⟨p, q, _, _, rfl, rfl, a, a2, small (by omega), fun t ht => r t _ ht (same_new ht) ⟨xs ++ ys, upd_same, ?_, fun x hx => ?_⟩⟩
  · rw [List.length_append]
    omega
  · exact (List.mem_append.mp hx).elim (fun h => (c x h).same hf (same_new ht)) (fun h => (c2 x h).same hf (same_new ht))
theorem odd_li {H : Hp} {f p : Addr} {top n : Nat} (h : LI K H f p n) (ne : p ≠ f) (hn : n ≤ 80) : OddL K H f top (.ref p) := by
  obtain ⟨xs, a, b, c⟩ := h
  refine ⟨(it_lst a ne c).mono ?_ (by decide), ⟨_, .lst (SqL.of a) (ok_lst a) (fun x hx => (c x hx).ok) (by omega)⟩, fun z => ne (by injection z)⟩
  have : xs.length * (10 + 1) ≤ 80 * 11 := Nat.mul_le_mul_right _ (by omega)
  omega
theorem OddL.now {H H' : Hp} {f : Addr} {top : Nat} (hf : Fd H f) (n : Now f H H') {v : V} (h : OddL K H f top v) : OddL K H' f top v := ⟨h.it.now hf n, (let ⟨b, q⟩ := h.lev; ⟨b, q.now hf n h.ne⟩), h.ne⟩
theorem oddl_other {H : Hp} {f : Addr} {top : Nat} {v : V} {s : String} {n k : Nat} (i : It K H f v n k) (ok : OkT K H v s) (hs : s ≠ "list") (hn : n ≤ 1000) (hk : k ≤ 10) (ne : v ≠ .ref f) : OddL K H f top v := ⟨i.mono hn hk, lev_of_kind (f := f) ok hs, ne⟩
def spOddLev (K : PySem.W.Frag) : Sp := fun vs H Q _ => ∃ (f h : Addr) (top : Nat), vs = [.ref f, vn top, .ref h] ∧ Fd H f ∧ Lv H h top 20 ∧ h ≠ f ∧ 1 ≤ top ∧ top ≤ 6 ∧ ∀ v H', Now f H H' → OddL K H' f top v → Q v H'
theorem ok_oddlev {f : Addr} {fd : FuncData} (F : Fun K "_law_odd_levels" "_law_odd_levels" s_law_odd_levels f fd) (T : Txt K mg C) (D_law_take : Def P w K mg base CX0 1 "_law_take" ["feed", "size"] spTakeN) (D_law_pick : Def P w K mg base CX0 2 "_law_pick" ["feed", "things"] (spPickN K)) :
    FnOk P w K mg base CX0 3 f fd ["feed", "top", "levels"] (spOddLev K) := by
  have nd := sc_law_odd_levels.nd
  refine F.ok sc_law_odd_levels (fun vs H Q E h => ?_) (fun cdv A outer s H vs Q E hr h => ?_)
  · obtain ⟨f, h, top, rfl, _⟩ := h
    rfl
  · obtain ⟨f, h, top, rfl, hf, hh, hne, h1, h6, k⟩ := h
    refine ⟨_, (pss_cons (ps_set (i := 3) nd rfl (Or.inl rfl) (pe_callD D_law_take (hr.mono (by decide)) rfl pass0 (pa_cons (pv 0) (pa_cons (pe_op op_add (pe_callB call_len_seq (by rfl) T.len_ PySem.boot_len (pa_cons (pv 2) pa_nil)) pe_int) pa_nil)))) (pss_cons (ps_set (i := 4) nd rfl (Or.inl rfl) (pe_callD D_law_pick (hr.mono (by decide)) rfl pass0 (pa_cons (pv 0) (pa_cons (pe_lst (pa_cons (pe_op op_add (pv 1) pe_int) (pa_cons (pe_un un_neg pe_int) (pa_cons pe_non (pa_cons pe_bl (pa_cons pe_bl (pa_cons pe_str (pa_cons (pe_lst (pa_cons pe_int pa_nil)) (pa_cons (pe_tup (pa_cons pe_int pa_nil)) (pa_cons (pe_op op_pow pe_int pe_int) pa_nil)))))))))) pa_nil)))) (pss_cons (ps_if (pt_cmpR op_eq (pe_callD D_law_take (hr.mono (by decide)) rfl pass0 (pa_cons (pv 0) (pa_cons pe_int pa_nil))) pe_int (nomark _)) (pss_one (ps_ret (pe_callD D_law_pick (hr.mono (by decide)) rfl pass0 (pa_cons (pv 0) (pa_cons (pe_lst (pa_cons pe_non (pa_cons (pe_callTy call_tuple_of (by rfl) T.tuple_ (by decide +kernel) (pa_cons (pv 2) pa_nil)) (pa_cons pe_str (pa_cons pe_dnewK (pa_cons pe_int (pa_cons pe_bl pa_nil))))))) pa_nil))))) pss_nil) (pss_one (ps_ret (pe_op op_cat (pe_op op_cat (pe_op op_cat (pe_slice sl_list (pv 2) po_none (po_some (pv 3))) (pe_lst (pa_cons (pv 4) pa_nil))) (pe_slice sl_list (pv 2) (po_some (pv 3)) po_none)) (pe_callD D_law_pick (hr.mono (by decide)) rfl pass0 (pa_cons (pv 0) (pa_cons (pe_lst (pa_cons (pe_lst pa_nil) (pa_cons (pe_lst (pa_cons (pv 4) pa_nil)) pa_nil))) pa_nil))))))))), ?_⟩
    obtain ⟨ls, hls, hz, hl⟩ := id hh
    refine ⟨_, rfl, _, rfl, ?_⟩
    apply v_lenL (SqL.of hls)
    refine ⟨_, _, rfl, rfl, f, _, rfl, hf, by simp only [List.length_map]; omega, by simp only [List.length_map]; omega, fun ax H1 hax n1 => ?_⟩
    -- odd
    refine ⟨_, rfl, _, rfl, _, _, rfl, rfl, _, rfl, (by show 1 ≤ sizeLine; decide), fun l6 hl6 => ⟨(by show 1 ≤ sizeLine; decide), fun t7 ht7 => ?_⟩⟩
    apply v_I (by walk_at "side")
    refine ⟨(by show 9 ≤ sizeLine; decide), fun o ho => ?_⟩
    refine ⟨f, o, _, rfl, (n1.same (by walk_at "chain")).fd, SqL.of upd_same, ne_fd (n1.same (by walk_at "chain")).fd ho, by simp, by simp, fun ov H2 hov n12 => ?_⟩
    have n02 := (n1.same (by walk_at "chain")).trans n12
    have io : It K H2 f ov 10 3 := by
      refine It.now (n1.same (by walk_at "chain")).fd n12 ?_
      simp only [List.mem_cons, List.not_mem_nil, or_false] at hov
      rcases hov with rfl | rfl | rfl | rfl | rfl | rfl | rfl | rfl | rfl
      · show It K _ f (vn (top + 1)) 10 3
        exact (it_nat (by omega)).mono (by decide) (by decide)
      · exact (it_int (by decide +kernel) (by decide +kernel)).mono (by decide) (by decide)
      · exact it_non.mono (by decide) (by decide)
      · exact it_bl.mono (by decide) (by decide)
      · exact it_bl.mono (by decide) (by decide)
      · exact (it_str (by decide +kernel) (by decide +kernel)).mono (by decide) (by decide)
      · exact (it_lst (n := 0) (k := 0) (xs := [.int 1]) (by walk_at "hp") (ne_fd n1.fd hl6) (fun y hy => by rw [List.mem_singleton.mp hy]; exact it_nat (n := 1) (by decide))).mono (by simp) (by decide)
      · exact (it_tup (n := 0) (k := 0) (xs := [.int 1]) (SqT.of (by walk_at "hp")) (fun y hy => by rw [List.mem_singleton.mp hy]; exact it_nat (n := 1) (by decide))).mono (by simp) (by decide)
      · exact (it_int (by decide +kernel) (by decide +kernel)).mono (by decide) (by decide)
    clear hov
    have hh2 := hh.now n02 hne
    -- take(feed, 3) == 0
    refine ⟨_, rfl, f, 3, rfl, n02.fd, by omega, by omega, fun r H3 hr3 n23 => ?_⟩
    have n03 := n02.trans n23
    have io3 := io.now n02.fd n23
    have hh3 := hh2.now n23 hne
    refine ⟨rfl, _, rfl, ?_⟩
    refine v_ifd (fun hc => ?_) (fun hc => ?_)
    · obtain ⟨ms, hms, zms, lms⟩ := id hh3
      have ms9 : ∀ x ∈ ms, x ≤ 9 := fun x hx => Nat.le_trans (lms x hx) (by omega)
      refine ⟨_, rfl, _, rfl, h, _, rfl, .inl ⟨SqL.of hms, fun t1 ht1 d2 hd2 => ⟨(by show 6 ≤ sizeLine; decide), fun o ho => ?_⟩⟩⟩
      refine ⟨f, o, _, rfl, (n03.same (by walk_at "chain")).fd, SqL.of upd_same, ne_fd (n03.same (by walk_at "chain")).fd ho, by simp, by simp, fun v H' hv n' => k v H' ((n03.same (by walk_at "chain")).trans n') (OddL.now (n03.same (by walk_at "chain")).fd n' ?_)⟩
      simp only [List.mem_cons, List.not_mem_nil, or_false] at hv
      rcases hv with rfl | rfl | rfl | rfl | rfl | rfl
      · exact oddl_other (s := "NoneType") it_non ⟨.base .non, by decide⟩ (by decide) (by decide) (by decide) (by intro z; cases z)
      · exact oddl_other (it_tup (n := 0) (k := 0) (xs := vns ms) (SqT.of (by walk_at "hp")) (it_vns ms9)) (ok_tup (xs := vns ms) (by walk_at "hp")) (by decide) (by simp only [List.length_map]; omega) (by decide) (fun z => ne_fd n03.fd ht1 (by injection z))
      · exact oddl_other (s := "str") (it_str (by decide +kernel) (by decide +kernel)) ⟨.base (.str _), by decide⟩ (by decide) (by decide) (by decide) (by intro z; cases z)
      · exact oddl_other (s := "dict") (it_dct (by walk_at "hp")) ⟨.base (.dK (by walk_at "hp")), by decide⟩ (by decide) (by decide) (by decide) (fun z => ne_fd (n03.same (by walk_at "chain")).fd hd2 (by injection z))
      · exact oddl_other (it_nat (n := 0) (by decide)) (ok_int (i := 0)) (by decide) (by decide) (by decide) (by intro z; cases z)
      · exact oddl_other (s := "bool") it_bl ⟨.base (.bl _), by decide⟩ (by decide) (by decide) (by decide) (by intro z; cases z)
    · refine ⟨_, rfl, _, rfl, _, rfl, ?_⟩
      refine v_cut hh3 fun q4 H4 f4 e4 l4 => ?_
      have n04 := n03.same e4
      refine ⟨_, rfl, (by show 1 ≤ sizeLine; decide), fun q5 f5 => ?_⟩
      have n05 := n04.same (same_new (o' := .lst [ov]) f5)
      have li5 : LI K (upd H4 q5 (.lst [ov])) f q5 1 := ⟨[ov], upd_same, by simp, fun x hx => by rw [List.mem_singleton.mp hx]; exact io3.same n03.fd (e4.trans (same_new f5))⟩
      refine v_catLI n05.fd ((LI.of h6 l4).same n04.fd (same_new f5)) li5 (by omega) fun q6 H6 f6 e6 l6 => ?_
      have n06 := n05.same e6
      refine ⟨_, rfl, _, rfl, _, rfl, ?_⟩
      show tNoPart _ _ _
      refine v_cutN (hh.now n06 hne) fun q7 H7 f7 e7 l7 => ?_
      have n07 := n06.same e7
      refine v_catLI n07.fd (l6.same n06.fd e7) (LI.of h6 l7) (by omega) fun q8 H8 f8 e8 l8 => ?_
      have n08 := n07.same e8
      have q8f := ne_fd n07.fd f8
      have io8 := io3.same n03.fd (e4.trans ((same_new f5).trans (e6.trans (e7.trans e8))))
      refine ⟨_, rfl, (by show 0 ≤ sizeLine; decide), fun b1 fb1 => ⟨_, rfl, (by show 1 ≤ sizeLine; decide), fun b2 fb2 => ⟨(by show 2 ≤ sizeLine; decide), fun o ho => ?_⟩⟩⟩
      refine ⟨f, o, _, rfl, (n08.same (by walk_at "chain")).fd, SqL.of upd_same, ne_fd (n08.same (by walk_at "chain")).fd ho, by simp, by simp, fun v H9 hv n' => ?_⟩
      have n09 := (n08.same (by walk_at "chain")).trans n'
      have l9 := (l8.same n08.fd (by walk_at "chain")).now (n08.same (by walk_at "chain")).fd n' q8f
      obtain ⟨zb, rfl, lz⟩ : ∃ zb, v = .ref zb ∧ LI K H9 f zb 1 := by
        simp only [List.mem_cons, List.not_mem_nil, or_false] at hv
        rcases hv with rfl | rfl
        · exact ⟨b1, rfl, LI.now (n08.same (by walk_at "chain")).fd n' (ne_fd n08.fd fb1) ⟨[], by walk_at "hp", by simp, by simp⟩⟩
        · exact ⟨b2, rfl, LI.now (n08.same (by walk_at "chain")).fd n' (ne_fd (n08.same (by walk_at "chain")).fd fb2) ⟨[ov], by walk_at "hp", by simp, fun x hx => by rw [List.mem_singleton.mp hx]; exact io8.same n08.fd (by walk_at "chain")⟩⟩
      refine v_catLI n09.fd l9 lz (by omega) fun t Ht ft et lt => ?_
      exact k _ _ (n09.same et) (odd_li lt (ne_fd n09.fd ft) (by omega))
end

section
variable {P : Program} {w : World} {K : PySem.W.Frag} {mg : Str → Option Value} {base : Heap} {C D : Addr}
def spLaw (K : PySem.W.Frag) : Sp := fun vs H Q _ => ∃ (a : Addr) (ns : List Int), vs = [.ref a] ∧ SqL K H a (ns.map V.int) ∧ ns.length ≤ 63 ∧ ∀ H', Q (.bl true) H'
theorem ne_self (x : V) : (!decide (x = x)) = false := by simp
theorem mem_shaped : SeqAt.shaped (.str "memory") = true := by decide +kernel
theorem told_dp {H : Hp} {a : Addr} {i : Nat} (h : H a = some (.lst [.str "levels", vn i])) : Dp K H (.ref a) (.list [.str "levels", pint i]) := .lst (SqL.of h) (.cons (.str _) (.cons (.int _) .nil))
theorem told_shaped (i : Nat) : SeqAt.shaped (.list [.str "levels", pint i]) = true := by
  have a : PyData.canLay0 (.str "levels") = true := by decide +kernel
  show ((PyData.canLay0 (.str "levels") && (true && true)) && decide (_ ≤ 64)) = true
  rw [a]
  rfl
/-- what is due -/
def DueV (H : Hp) : Due → V → Prop
  | .mem, v => v = .str "memory"
  | .lev i, v => ∃ p, v = .ref p ∧ H p = some (.lst [.str "levels", vn i])
  | .free, v => v = .non
theorem DueV.same {H H' : Hp} (e : Same H H') {d : Due} {v : V} (h : DueV H d v) : DueV H' d v := by
  cases d with
  | mem => exact h
  | lev i => exact let ⟨p, a, b⟩ := h; ⟨p, a, e _ _ b⟩
  | free => exact h
theorem shows_pair {dm dl : PyData} (a1 : dm.showable = true) (a2 : dm.leavesShort 25 = true) (a3 : dm.depth ≤ 10) (a4 : dm.bulk ≤ 1000) (b1 : dl.showable = true) (b2 : dl.leavesShort 25 = true) (b3 : dl.depth ≤ 10) (b4 : dl.bulk ≤ 1000) : Shows (.list [dm, dl]) := by
  have A : Slim dm 1000 := ⟨a1, a2, Nat.le_trans a3 (by decide), a4⟩
  have B : Slim dl 1000 := ⟨b1, b2, Nat.le_trans b3 (by decide), b4⟩
  have q := slim_cons A (slim_cons B slim_nil)
  refine Slim.shows (n := 1000 + 1 + (1000 + 1 + 0)) ⟨q.able, q.short, ?_, q.bulk⟩ (by decide)
  show max dm.depth (max dl.depth 0) + 1 ≤ 40
  have : max dm.depth (max dl.depth 0) ≤ 10 := Nat.max_le.mpr ⟨a3, Nat.max_le.mpr ⟨b3, Nat.zero_le _⟩⟩
  omega
theorem due_test {H : Hp} {dd : Addr} {ds : List V} {d : V} {way : Nat} {due : Due} {v : V} {a0 a1 a2 a3 a4 a5 a6 a7 a8 a10 : Option V} {Pq : Bool → Hp → Prop} (hd : H dd = some (.lst ds)) (hw : ds[way]? = some d) (du : DueV H due d) (told : Told K H due v) (k : Pq false H) :
    tOr (tAnd (tTest (tOp (fun x y H Q => y = V.non ∧ Q (V.bl (!decide (x = V.non))) H) (tOp (rIxL K) (tVar 9) (tVar 11)) (tC V.non))) (tTest (tOp (rNeD K) (tVar 12) (tOp (rIxL K) (tVar 9) (tVar 11)))))
      (tAnd (tTest (tOp (fun x y H Q => y = V.non ∧ Q (V.bl (decide (x = V.non))) H) (tOp (rIxL K) (tVar 9) (tVar 11)) (tC V.non))) (tTest (tOp (rEqD K) (tVar 12) (tC (V.str "memory")))))
      [a0, a1, a2, a3, a4, a5, a6, a7, a8, some (.ref dd), a10, some (.int (way : Int)), some v] H Pq := by
  have ix : ∀ {Q : VK}, Q d H → rIxL K (.ref dd) (.int (way : Int)) H Q := fun q => ⟨dd, ds, way, d, rfl, rfl, SqL.of hd, at_of (j := way) rfl hw, q⟩
  cases due with
  | mem =>
    obtain rfl : d = .str "memory" := du
    obtain rfl : v = .str "memory" := told
    refine ⟨_, rfl, _, rfl, ix ⟨rfl, _, rfl, ?_⟩⟩
    refine v_ift (by simp) ?_
    refine ⟨_, rfl, _, rfl, _, rfl, ix ⟨_, _, .str _, .str _, mem_shaped, mem_shaped, _, rfl, ?_⟩⟩
    refine v_iff (by decide +kernel) ?_
    refine ⟨_, rfl, _, rfl, ix ⟨rfl, _, rfl, ?_⟩⟩
    exact v_iff (by simp) k
  | lev i =>
    obtain ⟨p, rfl, hp⟩ := du
    obtain ⟨q, rfl, hq⟩ := told
    refine ⟨_, rfl, _, rfl, ix ⟨rfl, _, rfl, ?_⟩⟩
    refine v_ift (by simp) ?_
    refine ⟨_, rfl, _, rfl, _, rfl, ix ⟨_, _, told_dp hq, told_dp hp, told_shaped _, told_shaped _, _, rfl, ?_⟩⟩
    rw [eqv_told]
    refine v_iff rfl ?_
    refine ⟨_, rfl, _, rfl, ix ⟨rfl, _, rfl, ?_⟩⟩
    exact v_iff (by simp) k
  | free =>
    obtain rfl : d = .non := du
    refine ⟨_, rfl, _, rfl, ix ⟨rfl, _, rfl, ?_⟩⟩
    refine v_iff (by simp) ?_
    refine ⟨_, rfl, _, rfl, ix ⟨rfl, _, rfl, ?_⟩⟩
    refine v_ift (by simp) ?_
    rcases told with ⟨p, ns, rfl, hp⟩ | ⟨n, rfl⟩
    · refine ⟨_, rfl, _, _, dp_tup hp, .str _, shaped_tup _, mem_shaped, _, rfl, ?_⟩
      exact k
    · refine ⟨_, rfl, _, _, .int _, .str _, by rfl, mem_shaped, _, rfl, ?_⟩
      exact k
theorem ok_law {f : Addr} {fd : FuncData} (mods : Mods base) (F : Fun K "law" "law" slaw f fd) (T : Txt K mg C)
    (D_law_feed : Def P w K mg base CX0 1 "_law_feed" ["script", "k"] (spFeed K)) (D_law_take : Def P w K mg base CX0 1 "_law_take" ["feed", "size"] spTakeN) (D_law_pick : Def P w K mg base CX0 2 "_law_pick" ["feed", "things"] (spPickN K))
    (D_law_memories : Def P w K mg base CX0 1 "_law_memories" ["top"] (spMemories K)) (D_law_history : Def P w K mg base CX0 2 "_law_history" ["feed", "top", "most"] spHist) (D_law_memory : Def P w K mg base CX0 1 "_law_memory" ["levels"] (spLawMem K))
    (D_law_bad_level : Def P w K mg base CX0 2 "_law_bad_level" ["top", "value"] (spBad K)) (D_law_is_memory : Def P w K mg base CX0 2 "_law_is_memory" ["top", "value"] (spIsMem K)) (D_law_asked : Def P w K mg base CX0 7 "_law_asked" ["way", "top", "memory", "levels"] (spAsked K))
    (D_law_odd_memory : Def P w K mg base CX0 3 "_law_odd_memory" ["feed", "top"] (spOddMem K)) (D_law_odd_levels : Def P w K mg base CX0 3 "_law_odd_levels" ["feed", "top", "levels"] (spOddLev K))
    (Dmemory_after : Def P w K mg base (L2.CX P w) 5 "memory_after" ["top", "memory", "levels"] (spAfter K C D)) : FnG P w K mg base CX0 8 f fd ["script"] (spLaw K) := by
  have nd := sclaw.nd
  refine fng_mk F sclaw (fun vs H Q E h => ?_) (fun cdv A outer s H vs Q E hg0 hr h => ?_)
  · obtain ⟨a, ns, rfl, _⟩ := h
    rfl
  · obtain ⟨sa, ns, rfl, hS, hz, k⟩ := h
    have hg : NoG (cxOf CX0 P w K mg base nlaw "law" (defScope slaw) f cdv A outer s H E).nox.A := hg0
    have hM : Mods (cxOf CX0 P w K mg base nlaw "law" (defScope slaw) f cdv A outer s H E).nox.base := mods
    refine ⟨_, (pss_cons (ps_set (i := 1) nd rfl (Or.inl rfl) (pe_lst pa_nil)) (pss_cons (ps_for PassesOwn.never rfl (pi_range1 (by rfl) T.range_ (pa_cons pe_int pa_nil)) (pg_name (i := 2) nd rfl (Or.inl rfl)) (pss_one (ps_set (i := 1) nd rfl (Or.inl rfl) (pe_lst (pa_cons (pv 1) pa_nil))))) (pss_cons (ps_if (PW.pt (pw_or (pt_cmpR (op_neD hr.units) (pe_callD D_law_asked (hr.mono (by decide)) rfl pass0 (pa_cons pe_int (pa_cons pe_int (pa_cons pe_non (pa_cons (pv 1) pa_nil))))) (pe_lst (pa_cons pe_str (pa_cons pe_int pa_nil))) (nomark _)) (pw_or1 (pt_cmpR (op_neD hr.units) (pe_callD D_law_asked (hr.mono (by decide)) rfl pass0 (pa_cons pe_int (pa_cons pe_int (pa_cons (pv 1) (pa_cons (pv 1) pa_nil))))) pe_str (nomark _))))) (pss_one (ps_ret pe_bl)) pss_nil) (pss_cons (ps_for PassesOwn.never rfl (pi_range1 (by rfl) T.range_ (pa_cons (pe_callB (call_max2 rfl) (by rfl) T.max_ (by decide +kernel) (pa_cons pe_int (pa_cons (pe_callB (call_min2 rfl) (by rfl) T.min_ (by decide +kernel) (pa_cons pe_int (pa_cons (pe_callB call_len_seq (by rfl) T.len_ PySem.boot_len (pa_cons (pv 0) pa_nil)) pa_nil))) pa_nil))) pa_nil)) (pg_name (i := 3) nd rfl (Or.inl rfl)) (pss_cons (ps_set (i := 4) nd rfl (Or.inl rfl) (pe_callD D_law_feed (hr.mono (by decide)) rfl pass0 (pa_cons (pv 0) (pa_cons (pv 3) pa_nil)))) (pss_cons (ps_set (i := 5) nd rfl (Or.inl rfl) (pe_op op_add pe_int (pe_callD D_law_take (hr.mono (by decide)) rfl pass0 (pa_cons (pv 4) (pa_cons pe_int pa_nil))))) (pss_one (ps_for PassesOwn.never rfl (pi_range1 (by rfl) T.range_ (pa_cons pe_int pa_nil)) (pg_name (i := 2) nd rfl (Or.inl rfl)) (pss_cons (ps_par (i := 6) (j := 7) (by rfl) nd rfl rfl (by decide) rfl rfl (pa_cons (pe_callD D_law_pick (hr.mono (by decide)) rfl pass0 (pa_cons (pv 4) (pa_cons (pe_callD D_law_memories (hr.mono (by decide)) rfl pass0 (pa_cons (pv 5) pa_nil)) pa_nil))) (pa_cons (pe_callD D_law_history (hr.mono (by decide)) rfl pass0 (pa_cons (pv 4) (pa_cons (pv 5) (pa_cons pe_int pa_nil)))) pa_nil)) (by rfl)) (pss_cons (ps_if (pt_cmpR (op_neD hr.units) (pe_callD Dmemory_after (hr.mono (by decide)) rfl passL (pa_cons (pv 5) (pa_cons (pv 6) (pa_cons (pv 7) pa_nil)))) (pe_callD D_law_memory (hr.mono (by decide)) rfl pass0 (pa_cons (pe_op op_cat (pe_callTy call_list_of (by rfl) T.list_ (by decide +kernel) (pa_cons (pv 6) pa_nil)) (pv 7)) pa_nil)) (nomark _)) (pss_one (ps_ret pe_bl)) pss_nil) (pss_cons (ps_par (i := 6) (j := 7) (by rfl) nd rfl rfl (by decide) rfl rfl (pa_cons (pe_callD D_law_odd_memory (hr.mono (by decide)) rfl pass0 (pa_cons (pv 4) (pa_cons (pv 5) pa_nil))) (pa_cons (pe_callD D_law_pick (hr.mono (by decide)) rfl pass0 (pa_cons (pv 4) (pa_cons (pe_lst (pa_cons (pv 7) (pa_cons (pe_callD D_law_odd_levels (hr.mono (by decide)) rfl pass0 (pa_cons (pv 4) (pa_cons (pv 5) (pa_cons (pv 7) pa_nil)))) pa_nil))) pa_nil))) pa_nil)) (by rfl)) (pss_cons (ps_par (i := 8) (j := 9) (by rfl) nd rfl rfl (by decide) rfl rfl (pa_cons (pe_callB (cr_repX hg hr.units hM) (by rfl) T.repr_ (by decide +kernel) (pa_cons (pe_lst (pa_cons (pv 6) (pa_cons (pv 7) pa_nil))) pa_nil)) (pa_cons (pe_lst (pa_cons pe_non (pa_cons pe_non (pa_cons pe_non pa_nil)))) pa_nil)) (by rfl)) (pss_cons (ps_set (i := 10) nd rfl (Or.inl rfl) (pe_callD D_law_bad_level (hr.mono (by decide)) rfl pass0 (pa_cons (pv 5) (pa_cons (pv 7) pa_nil)))) (pss_cons (ps_if (pt_cmpR op_notN (pv 10) pe_non (nomark _)) (pss_one (ps_set (i := 9) nd rfl (Or.inl rfl) (pe_lst (pa_cons (pe_lst (pa_cons pe_str (pa_cons (pv 10) pa_nil))) (pa_cons (pe_lst (pa_cons pe_str (pa_cons (pv 10) pa_nil))) (pa_cons pe_non pa_nil)))))) pss_nil) (pss_cons (ps_if (pt_not (pt_val (pe_callD D_law_is_memory (hr.mono (by decide)) rfl pass0 (pa_cons (pv 5) (pa_cons (pv 6) pa_nil))))) (pss_one (ps_set (i := 9) nd rfl (Or.inl rfl) (pe_lst (pa_cons pe_str (pa_cons (pe_ix ix_list (pv 9) pe_int (fun _ _ => rfl)) (pa_cons pe_str pa_nil)))))) pss_nil) (pss_cons (ps_for PassesOwn.never rfl (pi_range1 (by rfl) T.range_ (pa_cons pe_int pa_nil)) (pg_name (i := 11) nd rfl (Or.inl rfl)) (pss_cons (ps_set (i := 12) nd rfl (Or.inl rfl) (pe_callD D_law_asked (hr.mono (by decide)) rfl pass0 (pa_cons (pv 11) (pa_cons (pv 5) (pa_cons (pv 6) (pa_cons (pv 7) pa_nil)))))) (pss_one (ps_if (PW.pt (pw_or (PW.pt (pw_and (pt_cmpR op_notN (pe_ix ix_list (pv 9) (pv 11) (fun _ _ => rfl)) pe_non (nomark _)) (pw_and1 (pt_cmpR (op_neD hr.units) (pv 12) (pe_ix ix_list (pv 9) (pv 11) (fun _ _ => rfl)) (nomark _))))) (pw_or1 (PW.pt (pw_and (pt_cmpR op_isN (pe_ix ix_list (pv 9) (pv 11) (fun _ _ => rfl)) pe_non (nomark _)) (pw_and1 (pt_cmpR (op_eqD hr.units) (pv 12) pe_str (nomark _)))))))) (pss_one (ps_ret pe_bl)) pss_nil)))) (pss_one (ps_if (pt_cmpR op_ne (pe_callB (cr_repX hg hr.units hM) (by rfl) T.repr_ (by decide +kernel) (pa_cons (pe_lst (pa_cons (pv 6) (pa_cons (pv 7) pa_nil))) pa_nil)) (pv 8) (nomark _)) (pss_one (ps_ret pe_bl)) pss_nil))))))))))))))) (pss_one (ps_ret pe_bl)))))), ?_⟩
    refine ⟨(by show 0 ≤ sizeLine; decide), fun a0 ha0 => ?_⟩
    refine ⟨_, rfl, by decide, by decide, for_range (lo := 0) (n := (45 : Int).toNat) (fun i σ H' => ∃ v2 v3 v4 v5 v6 v7 v8 v9 v10 v11 v12 a xs, σ = [some (.ref sa), some (.ref a), v2, v3, v4, v5, v6, v7, v8, v9, v10, v11, v12] ∧ Same H H' ∧ H' a = some (.lst xs) ∧
      (0 < i → ∃ b, xs = [b] ∧ OkT K H' b "list")) ?_ ?_ ?_⟩
    · exact ⟨_, _, _, _, _, _, _, _, _, _, _, a0, [], rfl, same_new ha0, upd_same, fun z => absurd z (by decide)⟩
    · rintro i σ H1 hi ⟨v2, v3, v4, v5, v6, v7, v8, v9, v10, v11, v12, a, xs, rfl, e1, h1, _⟩
      refine ⟨_, rfl, (by show 1 ≤ sizeLine; decide), fun t ht => ?_⟩
      exact ⟨_, _, _, _, _, _, _, _, _, _, _, t, [.ref a], rfl, e1.trans (same_new ht), upd_same, fun _ => ⟨_, rfl, ok_lst (upd_new ht h1)⟩⟩
    · rintro σ H1 ⟨v2, v3, v4, v5, v6, v7, v8, v9, v10, v11, v12, a, xs, rfl, e1, h1, hb⟩
      obtain ⟨b, rfl, okb⟩ := hb (by decide)
      have lbad : ∀ {H' : Hp} {top : Nat}, Same H1 H' → LevV K H' top (.ref a) (some 0) := by
        intro H' top e
        have ebad : badIx top [b] = some 0 := by
          have : lvl top b = false := lvl_not okb.ty (by decide) top
          simp [badIx, List.findIdx?_cons, this]
        rw [← ebad]
        exact .lst (SqL.of (e _ _ h1)) (ok_lst (e _ _ h1)) (fun x hx => by rw [List.mem_singleton.mp hx]; exact ⟨_, okb.same e⟩) (by simp)
      refine ⟨_, rfl, 1, 3, .non, .ref a, false, some 0, rfl, by decide, .other (n := "NoneType") ⟨.base .non, by decide⟩ (by decide), lbad (Same.refl _), fun H2 v e2 told => ?_⟩
      obtain ⟨p, rfl, hp⟩ : ∃ p, v = .ref p ∧ H2 p = some (.lst [.str "levels", vn 0]) := told
      refine ⟨(by show 2 ≤ sizeLine; decide), fun q hq => ⟨_, _, told_dp (upd_new hq hp), told_dp (i := 0) upd_same, told_shaped _, told_shaped _, _, rfl, ?_⟩⟩
      rw [eqv_told]
      refine v_iff rfl ?_
      have e3 := e2.trans (same_new (o' := .lst [.str "levels", .int 0]) hq)
      refine ⟨_, rfl, _, rfl, 0, 3, .ref a, .ref a, false, some 0, rfl, by decide, .other (n := "list") (ok_lst (e3 _ _ h1)) (by decide), lbad e3, fun H4 v e4 told => ?_⟩
      obtain rfl : v = .str "memory" := told
      refine ⟨_, _, .str _, .str _, mem_shaped, mem_shaped, _, rfl, ?_⟩
      refine v_iff (by decide +kernel) ?_
      have s4 := (e1.trans e3).trans e4
      clear hp hq e2 e3 e4 lbad okb h1 hb
      have hS1 := s4.seq hS
      refine ⟨_, rfl, ?_⟩
      apply v_lenL hS1
      refine ⟨_, _, rfl, _, _, rfl, _, rfl, ?_, ?_, for_range (lo := 0) (fun i σ H' => (∃ v1 v2 v3 v4 v5 v6 v7 v8 v9 v10 v11 v12, σ = [some (.ref sa), v1, v2, v3, v4, v5, v6, v7, v8, v9, v10, v11, v12]) ∧ SqL K H' sa (ns.map V.int)) ?_ ?_ ?_⟩
      · split <;> split <;> omega
      · split <;> split <;> omega
      · exact ⟨⟨_, _, _, _, _, _, _, _, _, _, _, _, rfl⟩, hS1⟩
      · rintro i σ H0 hi ⟨⟨v1, v2, v3, v4, v5, v6, v7, v8, v9, v10, v11, v12, rfl⟩, hS0⟩
        have hi3 : i ≤ 4 := by
          revert hi
          split <;> split <;> omega
        clear hi
        refine ⟨_, rfl, _, rfl, sa, ns, i, (by simp [vn]), hS0, hz, by omega, fun fe H1 x y nf e1 hf hx hy => ?_⟩
        have f1 : Fd H1 fe := ⟨x, y, hf, hx, hy⟩
        clear hf hx hy
        refine ⟨_, rfl, fe, 6, rfl, f1, by omega, by omega, fun r H2 hr2 n2 => ?_⟩
        obtain ⟨top, htop⟩ : ∃ top : Nat, top = 1 + r := ⟨_, rfl⟩
        have ht1 : 1 ≤ top := by omega
        have ht6 : top ≤ 6 := by omega
        have htv : V.int (1 + ((r : Nat) : Int)) = vn top := by
          unfold vn
          congr 1
          omega
        refine ⟨_, _, rfl, rfl, ?_⟩
        refine ⟨_, rfl, by decide, by decide, for_range (lo := 0) (n := (6 : Int).toNat) (fun j σ H' => ∃ v1 v2 v6 v7 v8 v9 v10 v11 v12, σ = [some (.ref sa), v1, v2, some (.int (0 + (i : Int))), some (.ref fe), some (vn top), v6, v7, v8, v9, v10, v11, v12] ∧ Now fe H1 H') ?_ ?_ ?_⟩
        · refine ⟨v1, v2, v6, v7, v8, v9, v10, v11, v12, ?_, n2⟩
          rw [← htv]
          rfl
        · rintro j σ H3 hj ⟨w1, w2, w6, w7, w8, w9, w10, w11, w12, rfl, n3⟩
          -- memory, levels
          refine ⟨_, rfl, _, rfl, top, rfl, ht6, fun ev H4 ys nss nev e4 hev tys hperm => ?_⟩
          have f3 := n3.fd
          have hlen : ys.length = 2 ^ top := by rw [tys.len, hperm.length_eq, ms_count]
          have hpos : 0 < ys.length := by rw [hlen]; exact Nat.pow_pos (by decide)
          have hl64 : ys.length ≤ 64 := by rw [hlen]; exact two_pow ht6
          have n4 := n3.same e4
          refine ⟨fe, ev, ys, rfl, n4.fd, SqL.of hev, ne_fd f3 nev, hpos, by omega, fun v H5 hv n45 => ?_⟩
          obtain ⟨p, m, rfl, hm, hp⟩ := tys.mem hv
          have mm : m ∈ VM.msOf top := hperm.mem_iff.mp hm
          have gm := VM.good_of ht1 ht6 mm
          have lm := ms_len ht6 mm
          have hp5 := sqT_now n4.fd n45 hp
          have n5 := n4.trans n45
          clear hp tys hev hperm hv
          refine ⟨_, rfl, _, rfl, fe, top, 20, rfl, n5.fd, ht6, by omega, fun l1 H6 fl1 n56 lv6 => ⟨_, _, rfl, ?_⟩⟩
          have n6 := n5.trans n56
          have hp6 := sqT_now n5.fd n56 hp5
          have ne1 := ne_fd n5.fd fl1
          obtain ⟨ls, hls, zls, lls⟩ := id lv6
          -- memory_after
          refine ⟨_, rfl, _, rfl, _, rfl, top, .ref p, .ref l1, true, none, rfl, good_mem gm ht6 hp6 (by omega), lev_good hls (by omega) lls, fun z => Bool.noConfusion z, fun _ ii z => (by cases z), fun _ _ => ⟨p, l1, m, ls, rfl, rfl, hp6, SqL.of hls, by omega, by omega, fun r1 H7 e7 hr7 => ?_⟩⟩
          refine ⟨_, rfl, p, _, rfl, .inr (sqT_same e7 hp6), fun l2 hl2 => ?_⟩
          refine ⟨_, rfl, l2, l1, _, _, rfl, rfl, upd_same, upd_new hl2 (e7 _ _ hls), small (by simp only [List.length_map]; omega), fun l3 hl3 => ?_⟩
          have ecat : vns m ++ vns ls = vns (m ++ ls) := by simp [vns]
          rw [ecat]
          refine ⟨l3, m ++ ls, rfl, SqL.of upd_same, by rw [List.length_append]; omega, fun r2 H8 e8 hr8 => ?_⟩
          have s78 := ((same_new (o' := .lst (vns m)) hl2).trans (same_new (o' := .lst (vns (m ++ ls))) hl3)).trans e8
          refine ⟨_, _, dp_tup (sqT_same s78 hr7), dp_tup hr8, shaped_tup _, shaped_tup _, _, rfl, ?_⟩
          rw [eqv_tup]
          have emem : VM.followed m ls = VM.followed [] (m ++ ls) := by
            have : VM.followed [] (m ++ ls) = VM.followed (VM.followed [] m) ls := by simp [VM.followed, List.foldl_append]
            rw [this, gm.self]
          refine v_iff (by rw [emem]; simp) ?_
          have n8 := n6.same (e7.trans s78)
          have lv8 := lv6.same (e7.trans s78)
          clear hr7 hr8 hl2 hl3 emem ecat hls zls lls hp5 hp6 mm gm hm lm hlen hpos hl64
          -- odd ones
          refine ⟨_, rfl, _, rfl, fe, top, rfl, n8.fd, ht1, ht6, fun mv H9 n89 om => ?_⟩
          have n9 := n8.trans n89
          have lv9 := lv8.now n89 ne1
          refine ⟨_, rfl, _, rfl, _, rfl, _, rfl, _, rfl, fe, l1, top, rfl, n9.fd, lv9, ne1, ht1, ht6, fun ol H10 n910 oll => ⟨(by show 2 ≤ sizeLine; decide), fun q hq => ?_⟩⟩
          have n10 := n9.trans n910
          have nq := n10.same (same_new (o' := .lst [.ref l1, ol]) hq)
          refine ⟨fe, q, _, rfl, nq.fd, SqL.of upd_same, ne_fd n10.fd hq, by simp, by simp, fun lvv H11 hlvv nq11 => ⟨_, _, rfl, ?_⟩⟩
          have n11 := nq.trans nq11
          have om11 : OddM K H11 fe top mv := ((om.now n9.fd n910).now n10.fd (Now.of n10.fd (same_new hq))).now nq.fd nq11
          have ol11 : OddL K H11 fe top lvv := by
            simp only [List.mem_cons, List.not_mem_nil, or_false] at hlvv
            rcases hlvv with rfl | rfl
            · exact odd_li (LI.of ht6 (((lv9.now n910 ne1).same (same_new hq)).now nq11 ne1)) ne1 (by decide)
            · exact (oll.now n10.fd (Now.of n10.fd (same_new hq))).now nq.fd nq11
          clear hlvv om oll lv9 lv8
          obtain ⟨⟨_, dm, hdm, m1, m2, m3, m4⟩, b, memb⟩ := om11
          obtain ⟨⟨_, dl, hdl, g1, g2, g3, g4⟩, ⟨c, levc⟩, _⟩ := ol11
          have shw : Shows (.list [dm, dl]) := shows_pair m1 m2 m3 m4 g1 g2 g3 g4
          refine ⟨_, rfl, _, rfl, (by show 2 ≤ sizeLine; decide), fun q2 hq2 => ?_⟩
          show tNil _ _ _
          refine v_repX (f := fe) (.lst upd_same (ne_fd n11.fd hq2) (.cons (dx_on (but_same (same_new hq2)) n11.fd _ _ hdm) (.cons (dx_on (but_same (same_new hq2)) n11.fd _ _ hdl) .nil))) shw ?_
          refine ⟨(by show 3 ≤ sizeLine; decide), fun dd0 hdd0 => ⟨_, _, rfl, ?_⟩⟩
          have e12 := (same_new (o' := .lst [mv, lvv]) hq2).trans (same_new (o' := .lst [.non, .non, .non]) hdd0)
          refine ⟨_, rfl, _, rfl, top, lvv, c, rfl, levc.same e12, fun H13 e13 => ?_⟩
          have hdd13 := e13 _ _ (upd_same (a := dd0) (o := .lst [.non, .non, .non]))
          have e1x := e12.trans e13
          refine ⟨_, rfl, rfl, _, rfl, ?_⟩
          cases c with
          | none =>
            refine v_iff (by simp) ?_
            obtain ⟨dd, hdde⟩ : ∃ dd, dd = dd0 := ⟨_, rfl⟩
            subst hdde
            obtain ⟨Hd, hHd⟩ : ∃ Hd, Hd = H13 := ⟨_, rfl⟩
            subst hHd
            have exd := e1x
            have hdd := hdd13
            obtain ⟨e0v, he0⟩ : ∃ x : V, x = .non := ⟨_, rfl⟩
            obtain ⟨e1v, he1⟩ : ∃ x : V, x = .non := ⟨_, rfl⟩
            have du0 : DueV Hd (lvOf none) e0v := he0
            have du1 : DueV Hd (lvOf none) e1v := he1
            rw [show ([V.non, V.non, V.non] : List V) = [e0v, e1v, .non] by rw [he0, he1]] at hdd
            have memb0 := memb
            refine ⟨_, rfl, _, rfl, top, mv, b, rfl, ht1, ht6, memb.same exd, fun He ede => ?_⟩
            refine ⟨_, rfl, ?_⟩
            have exe := exd.trans ede
            cases b with
            | false =>
              refine v_ift rfl ?_
              refine ⟨_, rfl, ?_⟩
              apply v_ixL (SqL.of (ede _ _ hdd)) (at_of (j := 1) rfl rfl)
              refine ⟨(by show 3 ≤ sizeLine; decide), fun df hdf0 => ?_⟩
              have efx := exe.trans (same_new (o' := .lst [.str "memory", e1v, .str "memory"]) hdf0)
              have hdf : (upd He df (.lst [.str "memory", e1v, .str "memory"])) df = some (.lst [.str "memory", e1v, .str "memory"]) := upd_same
              have d1 := du1.same (ede.trans (same_new (o' := .lst [.str "memory", e1v, .str "memory"]) hdf0))
              revert efx hdf d1
              generalize (upd He df (.lst [.str "memory", e1v, .str "memory"])) = Hf
              intro efx hdf d1
              have hds : ∀ wy, wy < 3 → ∃ d, ([.str "memory", e1v, .str "memory"] : List V)[wy]? = some d ∧ DueV Hf (dueOf wy false none) d := by
                intro wy hwy
                rcases (show wy = 0 ∨ wy = 1 ∨ wy = 2 by omega) with rfl | rfl | rfl
                · exact ⟨_, rfl, rfl⟩
                · exact ⟨_, rfl, d1⟩
                · exact ⟨_, rfl, rfl⟩
              -- every way
              refine ⟨_, rfl, by decide, by decide, for_range (lo := 0) (n := (3 : Int).toNat) (fun wy σ H' => ∃ u11 u12, σ = [some (.ref sa), w1, some (.int (0 + (j : Int))), some (.int (0 + (i : Int))), some (.ref fe), some (vn top), some mv, some lvv, some (.str (PyData.list [dm, dl]).shown), some (.ref df), some .non, u11, u12] ∧ Same Hf H') ⟨_, _, rfl, Same.refl _⟩ ?_ ?_⟩
              · rintro wy σ Hg hwy ⟨u11, u12, rfl, eg⟩
                have hwy3 : wy < 3 := hwy
                have eg0 := efx.trans eg
                refine ⟨_, rfl, _, rfl, _, rfl, _, rfl, wy, top, mv, lvv, _, _, (by simp [vn]), ht6, memb.same eg0, levc.same eg0, fun Hh v eh told => ?_⟩
                obtain ⟨d, hd, dv⟩ := hds wy hwy3
                have z : (0 : Int) + (wy : Int) = (wy : Int) := by omega
                rw [z]
                exact due_test (K := K) ((eg.trans eh) _ _ hdf) hd (dv.same (eg.trans eh)) told ⟨_, _, rfl, eg.trans eh⟩
              · rintro σ Hg ⟨u11, u12, rfl, eg⟩
                have eg0 := efx.trans eg
                refine ⟨_, rfl, _, rfl, (by show 2 ≤ sizeLine; decide), fun q3 hq3 => ?_⟩
                show tNil _ _ _
                have fg := (n11.same eg0).fd
                refine v_repX (f := fe) (.lst upd_same (ne_fd fg hq3) (.cons (dx_on (but_same (eg0.trans (same_new hq3))) n11.fd _ _ hdm) (.cons (dx_on (but_same (eg0.trans (same_new hq3))) n11.fd _ _ hdl) .nil))) shw ?_
                refine ⟨_, rfl, rfl, _, rfl, ?_⟩
                refine v_iff (ne_self _) ?_
                exact ⟨_, _, _, _, _, _, _, _, _, rfl, n11.same (eg0.trans (same_new hq3))⟩
            | true =>
              refine v_iff rfl ?_
              have efx := exe
              have hdf := ede _ _ hdd
              have d0 := du0.same ede
              have d1 := du1.same ede
              obtain ⟨df, hdfe⟩ : ∃ df, df = dd := ⟨_, rfl⟩
              subst hdfe
              obtain ⟨Hf, hHf⟩ : ∃ Hf, Hf = He := ⟨_, rfl⟩
              subst hHf
              have hds : ∀ wy, wy < 3 → ∃ d, ([e0v, e1v, .non] : List V)[wy]? = some d ∧ DueV Hf (dueOf wy true none) d := by
                intro wy hwy
                rcases (show wy = 0 ∨ wy = 1 ∨ wy = 2 by omega) with rfl | rfl | rfl
                · exact ⟨_, rfl, d0⟩
                · exact ⟨_, rfl, d1⟩
                · exact ⟨_, rfl, rfl⟩
              -- every way
              refine ⟨_, rfl, by decide, by decide, for_range (lo := 0) (n := (3 : Int).toNat) (fun wy σ H' => ∃ u11 u12, σ = [some (.ref sa), w1, some (.int (0 + (j : Int))), some (.int (0 + (i : Int))), some (.ref fe), some (vn top), some mv, some lvv, some (.str (PyData.list [dm, dl]).shown), some (.ref df), some .non, u11, u12] ∧ Same Hf H') ⟨_, _, rfl, Same.refl _⟩ ?_ ?_⟩
              · rintro wy σ Hg hwy ⟨u11, u12, rfl, eg⟩
                have hwy3 : wy < 3 := hwy
                have eg0 := efx.trans eg
                refine ⟨_, rfl, _, rfl, _, rfl, _, rfl, wy, top, mv, lvv, _, _, (by simp [vn]), ht6, memb.same eg0, levc.same eg0, fun Hh v eh told => ?_⟩
                obtain ⟨d, hd, dv⟩ := hds wy hwy3
                have z : (0 : Int) + (wy : Int) = (wy : Int) := by omega
                rw [z]
                exact due_test (K := K) ((eg.trans eh) _ _ hdf) hd (dv.same (eg.trans eh)) told ⟨_, _, rfl, eg.trans eh⟩
              · rintro σ Hg ⟨u11, u12, rfl, eg⟩
                have eg0 := efx.trans eg
                refine ⟨_, rfl, _, rfl, (by show 2 ≤ sizeLine; decide), fun q3 hq3 => ?_⟩
                show tNil _ _ _
                have fg := (n11.same eg0).fd
                refine v_repX (f := fe) (.lst upd_same (ne_fd fg hq3) (.cons (dx_on (but_same (eg0.trans (same_new hq3))) n11.fd _ _ hdm) (.cons (dx_on (but_same (eg0.trans (same_new hq3))) n11.fd _ _ hdl) .nil))) shw ?_
                refine ⟨_, rfl, rfl, _, rfl, ?_⟩
                refine v_iff (ne_self _) ?_
                exact ⟨_, _, _, _, _, _, _, _, _, rfl, n11.same (eg0.trans (same_new hq3))⟩
          | some ci =>
            refine v_ift (by simp [vn]) ?_
            refine ⟨_, rfl, (by show 2 ≤ sizeLine; decide), fun x1 hx1 => ⟨_, rfl, (by show 2 ≤ sizeLine; decide), fun x2 hx2 => ⟨(by show 3 ≤ sizeLine; decide), fun dd hdd0' => ?_⟩⟩⟩
            obtain ⟨e0v, he0⟩ : ∃ x : V, x = .ref x1 := ⟨_, rfl⟩
            obtain ⟨e1v, he1⟩ : ∃ x : V, x = .ref x2 := ⟨_, rfl⟩
            have exd := e1x.trans (((same_new (o' := .lst [.str "levels", vn ci]) hx1).trans (same_new (o' := .lst [.str "levels", vn ci]) hx2)).trans (same_new (o' := .lst [.ref x1, .ref x2, .non]) hdd0'))
            have hdd : (upd (upd (upd H13 x1 (.lst [.str "levels", vn ci])) x2 (.lst [.str "levels", vn ci])) dd (.lst [.ref x1, .ref x2, .non])) dd = some (.lst [e0v, e1v, .non]) := by rw [upd_same, he0, he1]
            have du0 : DueV (upd (upd (upd H13 x1 (.lst [.str "levels", vn ci])) x2 (.lst [.str "levels", vn ci])) dd (.lst [.ref x1, .ref x2, .non])) (lvOf (some ci)) e0v := ⟨x1, he0, upd_new hdd0' (upd_new hx2 upd_same)⟩
            have du1 : DueV (upd (upd (upd H13 x1 (.lst [.str "levels", vn ci])) x2 (.lst [.str "levels", vn ci])) dd (.lst [.ref x1, .ref x2, .non])) (lvOf (some ci)) e1v := ⟨x2, he1, upd_new hdd0' upd_same⟩
            revert exd hdd du0 du1
            generalize (upd (upd (upd H13 x1 (.lst [.str "levels", vn ci])) x2 (.lst [.str "levels", vn ci])) dd (.lst [.ref x1, .ref x2, .non])) = Hd
            intro exd hdd du0 du1
            have memb0 := memb
            refine ⟨_, rfl, _, rfl, top, mv, b, rfl, ht1, ht6, memb.same exd, fun He ede => ?_⟩
            refine ⟨_, rfl, ?_⟩
            have exe := exd.trans ede
            cases b with
            | false =>
              refine v_ift rfl ?_
              refine ⟨_, rfl, ?_⟩
              apply v_ixL (SqL.of (ede _ _ hdd)) (at_of (j := 1) rfl rfl)
              refine ⟨(by show 3 ≤ sizeLine; decide), fun df hdf0 => ?_⟩
              have efx := exe.trans (same_new (o' := .lst [.str "memory", e1v, .str "memory"]) hdf0)
              have hdf : (upd He df (.lst [.str "memory", e1v, .str "memory"])) df = some (.lst [.str "memory", e1v, .str "memory"]) := upd_same
              have d1 := du1.same (ede.trans (same_new (o' := .lst [.str "memory", e1v, .str "memory"]) hdf0))
              revert efx hdf d1
              generalize (upd He df (.lst [.str "memory", e1v, .str "memory"])) = Hf
              intro efx hdf d1
              have hds : ∀ wy, wy < 3 → ∃ d, ([.str "memory", e1v, .str "memory"] : List V)[wy]? = some d ∧ DueV Hf (dueOf wy false (some ci)) d := by
                intro wy hwy
                rcases (show wy = 0 ∨ wy = 1 ∨ wy = 2 by omega) with rfl | rfl | rfl
                · exact ⟨_, rfl, rfl⟩
                · exact ⟨_, rfl, d1⟩
                · exact ⟨_, rfl, rfl⟩
              -- every way
              refine ⟨_, rfl, by decide, by decide, for_range (lo := 0) (n := (3 : Int).toNat) (fun wy σ H' => ∃ u11 u12, σ = [some (.ref sa), w1, some (.int (0 + (j : Int))), some (.int (0 + (i : Int))), some (.ref fe), some (vn top), some mv, some lvv, some (.str (PyData.list [dm, dl]).shown), some (.ref df), some (vn ci), u11, u12] ∧ Same Hf H') ⟨_, _, rfl, Same.refl _⟩ ?_ ?_⟩
              · rintro wy σ Hg hwy ⟨u11, u12, rfl, eg⟩
                have hwy3 : wy < 3 := hwy
                have eg0 := efx.trans eg
                refine ⟨_, rfl, _, rfl, _, rfl, _, rfl, wy, top, mv, lvv, _, _, (by simp [vn]), ht6, memb.same eg0, levc.same eg0, fun Hh v eh told => ?_⟩
                obtain ⟨d, hd, dv⟩ := hds wy hwy3
                have z : (0 : Int) + (wy : Int) = (wy : Int) := by omega
                rw [z]
                exact due_test (K := K) ((eg.trans eh) _ _ hdf) hd (dv.same (eg.trans eh)) told ⟨_, _, rfl, eg.trans eh⟩
              · rintro σ Hg ⟨u11, u12, rfl, eg⟩
                have eg0 := efx.trans eg
                refine ⟨_, rfl, _, rfl, (by show 2 ≤ sizeLine; decide), fun q3 hq3 => ?_⟩
                show tNil _ _ _
                have fg := (n11.same eg0).fd
                refine v_repX (f := fe) (.lst upd_same (ne_fd fg hq3) (.cons (dx_on (but_same (eg0.trans (same_new hq3))) n11.fd _ _ hdm) (.cons (dx_on (but_same (eg0.trans (same_new hq3))) n11.fd _ _ hdl) .nil))) shw ?_
                refine ⟨_, rfl, rfl, _, rfl, ?_⟩
                refine v_iff (ne_self _) ?_
                exact ⟨_, _, _, _, _, _, _, _, _, rfl, n11.same (eg0.trans (same_new hq3))⟩
            | true =>
              refine v_iff rfl ?_
              have efx := exe
              have hdf := ede _ _ hdd
              have d0 := du0.same ede
              have d1 := du1.same ede
              obtain ⟨df, hdfe⟩ : ∃ df, df = dd := ⟨_, rfl⟩
              subst hdfe
              obtain ⟨Hf, hHf⟩ : ∃ Hf, Hf = He := ⟨_, rfl⟩
              subst hHf
              have hds : ∀ wy, wy < 3 → ∃ d, ([e0v, e1v, .non] : List V)[wy]? = some d ∧ DueV Hf (dueOf wy true (some ci)) d := by
                intro wy hwy
                rcases (show wy = 0 ∨ wy = 1 ∨ wy = 2 by omega) with rfl | rfl | rfl
                · exact ⟨_, rfl, d0⟩
                · exact ⟨_, rfl, d1⟩
                · exact ⟨_, rfl, rfl⟩
              -- every way
              refine ⟨_, rfl, by decide, by decide, for_range (lo := 0) (n := (3 : Int).toNat) (fun wy σ H' => ∃ u11 u12, σ = [some (.ref sa), w1, some (.int (0 + (j : Int))), some (.int (0 + (i : Int))), some (.ref fe), some (vn top), some mv, some lvv, some (.str (PyData.list [dm, dl]).shown), some (.ref df), some (vn ci), u11, u12] ∧ Same Hf H') ⟨_, _, rfl, Same.refl _⟩ ?_ ?_⟩
              · rintro wy σ Hg hwy ⟨u11, u12, rfl, eg⟩
                have hwy3 : wy < 3 := hwy
                have eg0 := efx.trans eg
                refine ⟨_, rfl, _, rfl, _, rfl, _, rfl, wy, top, mv, lvv, _, _, (by simp [vn]), ht6, memb.same eg0, levc.same eg0, fun Hh v eh told => ?_⟩
                obtain ⟨d, hd, dv⟩ := hds wy hwy3
                have z : (0 : Int) + (wy : Int) = (wy : Int) := by omega
                rw [z]
                exact due_test (K := K) ((eg.trans eh) _ _ hdf) hd (dv.same (eg.trans eh)) told ⟨_, _, rfl, eg.trans eh⟩
              · rintro σ Hg ⟨u11, u12, rfl, eg⟩
                have eg0 := efx.trans eg
                refine ⟨_, rfl, _, rfl, (by show 2 ≤ sizeLine; decide), fun q3 hq3 => ?_⟩
                show tNil _ _ _
                have fg := (n11.same eg0).fd
                refine v_repX (f := fe) (.lst upd_same (ne_fd fg hq3) (.cons (dx_on (but_same (eg0.trans (same_new hq3))) n11.fd _ _ hdm) (.cons (dx_on (but_same (eg0.trans (same_new hq3))) n11.fd _ _ hdl) .nil))) shw ?_
                refine ⟨_, rfl, rfl, _, rfl, ?_⟩
                refine v_iff (ne_self _) ?_
                exact ⟨_, _, _, _, _, _, _, _, _, rfl, n11.same (eg0.trans (same_new hq3))⟩
        · rintro σ H' ⟨v1, v2, v6, v7, v8, v9, v10, v11, v12, rfl, nz⟩
          exact ⟨⟨_, _, _, _, _, _, _, _, _, _, _, _, rfl⟩, sqL_keep hS0 nf (but_trans (but_same e1) nz.but)⟩
      · rintro σ H' ⟨⟨v1, v2, v3, v4, v5, v6, v7, v8, v9, v10, v11, v12, rfl⟩, _⟩
        exact k H'
end
theorem def_mk {P : Program} {w : World} {K : PySem.W.Frag} {mg : Str → Option Value} {base : Heap} {CX : CXT} {k : Nat} {x : Str} {st : Stmt} {f : Addr} {fd : FuncData} {ps : List Str} {sp : Sp} (F : Fun K x x st f fd) (hm : mg x = some (.ref f)) (b : Binds K fd ps [])
    (G : FnOk P w K mg base CX k f fd ps sp) : Def P w K mg base CX k x ps sp := ⟨f, fd, hm, F.kp, b, G⟩
theorem own_exm {K : PySem.W.Frag} {S : Addr} (h1 : PySem.W.subIn K (.ref S) (.type "BaseException") = some true) (h2 : PySem.W.isClsIn K S = true) (h3 : PySem.W.typeIn K (.ref S) = some (.type "type")) (h4 : PySem.W.subIn K (.ref S) (.ref S) = some true) :
    PySem.W.exmOne K (.ref S) (.ref S) = some true := by
  have h2' : (PySem.W.clsIn K S).isSome = true := h2
  have a : (PySem.W.subIn K (.ref S) (.type "BaseException") == some true) = true := by rw [h1] <;> rfl
  have b : ((PySem.W.clsIn K S).isSome && PySem.W.typeIn K (.ref S) == some (.type "type")) = true := by rw [h2', h3] <;> rfl
  have c : PySem.W.exmOne K (.ref S) (.ref S) = (if (PySem.W.subIn K (.ref S) (.type "BaseException") == some true) = true then (if ((PySem.W.clsIn K S).isSome && PySem.W.typeIn K (.ref S) == some (.type "type")) = true then PySem.W.subIn K (.ref S) (.ref S) else none) else none) := rfl
  rw [c, if_pos a, if_pos b, h4]
theorem two_exm {K : PySem.W.Frag} {S R : Addr} (h1 : PySem.W.subIn K (.ref S) (.type "BaseException") = some true) (h2 : PySem.W.isClsIn K S = true) (h3 : PySem.W.typeIn K (.ref S) = some (.type "type")) (h4 : PySem.W.subIn K (.ref R) (.ref S) = some false) :
    PySem.W.exmOne K (.ref R) (.ref S) = some false := by
  have h2' : (PySem.W.clsIn K S).isSome = true := h2
  have a : (PySem.W.subIn K (.ref S) (.type "BaseException") == some true) = true := by rw [h1] <;> rfl
  have b : ((PySem.W.clsIn K S).isSome && PySem.W.typeIn K (.ref S) == some (.type "type")) = true := by rw [h2', h3] <;> rfl
  have c : PySem.W.exmOne K (.ref R) (.ref S) = (if (PySem.W.subIn K (.ref S) (.type "BaseException") == some true) = true then (if ((PySem.W.clsIn K S).isSome && PySem.W.typeIn K (.ref S) == some (.type "type")) = true then PySem.W.subIn K (.ref R) (.ref S) else none) else none) := rfl
  rw [c, if_pos a, if_pos b, h4]
theorem all_mk {l : PySem.W.OpenLaw} {w : World} {K : PySem.W.Frag} {h : Heap} {mg : Str → Option Value} {fa C : Addr} (X : K.In h) (G : h.Ns mainGlobals mg) (hfa : mg "law" = some (.ref fa))
    {od0 an0 : Option Addr} {sl0 : Array (Option Value)} {oc0 kV0 dc0 pm0 cd0 ct0 : Value} {f0 : Addr}
    (a0 : PySem.W.nsIn K mainGlobals "is_integer" = some (some (.ref f0))) (l0 : K.lookup f0 = some ⟨oc0, od0, .func (PySem.W.fnOf "is_integer" "is_integer" (defArgs sis_integer) (defBody sis_integer) (defScope sis_integer) .none kV0 dc0 pm0 an0 cd0 ct0), sl0⟩) (c0 : PySem.W.codeIn K cd0 "is_integer" = true) (k0 : PySem.W.keepIn K (.ref f0) = true)
    {od1 an1 : Option Addr} {sl1 : Array (Option Value)} {oc1 kV1 dc1 pm1 cd1 ct1 : Value} {f1 : Addr}
    (a1 : PySem.W.nsIn K mainGlobals "is_level" = some (some (.ref f1))) (l1 : K.lookup f1 = some ⟨oc1, od1, .func (PySem.W.fnOf "is_level" "is_level" (defArgs sis_level) (defBody sis_level) (defScope sis_level) .none kV1 dc1 pm1 an1 cd1 ct1), sl1⟩) (c1 : PySem.W.codeIn K cd1 "is_level" = true) (k1 : PySem.W.keepIn K (.ref f1) = true)
    {od2 an2 : Option Addr} {sl2 : Array (Option Value)} {oc2 kV2 dc2 pm2 cd2 ct2 : Value} {f2 : Addr}
    (a2 : PySem.W.nsIn K mainGlobals "moved" = some (some (.ref f2))) (l2 : K.lookup f2 = some ⟨oc2, od2, .func (PySem.W.fnOf "moved" "moved" (defArgs smoved) (defBody smoved) (defScope smoved) .none kV2 dc2 pm2 an2 cd2 ct2), sl2⟩) (c2 : PySem.W.codeIn K cd2 "moved" = true) (k2 : PySem.W.keepIn K (.ref f2) = true)
    {od3 an3 : Option Addr} {sl3 : Array (Option Value)} {oc3 kV3 dc3 pm3 cd3 ct3 : Value} {f3 : Addr}
    (a3 : PySem.W.nsIn K mainGlobals "_followed" = some (some (.ref f3))) (l3 : K.lookup f3 = some ⟨oc3, od3, .func (PySem.W.fnOf "_followed" "_followed" (defArgs s_followed) (defBody s_followed) (defScope s_followed) .none kV3 dc3 pm3 an3 cd3 ct3), sl3⟩) (c3 : PySem.W.codeIn K cd3 "_followed" = true) (k3 : PySem.W.keepIn K (.ref f3) = true)
    {od4 an4 : Option Addr} {sl4 : Array (Option Value)} {oc4 kV4 dc4 pm4 cd4 ct4 : Value} {f4 : Addr}
    (a4 : PySem.W.nsIn K mainGlobals "_height" = some (some (.ref f4))) (l4 : K.lookup f4 = some ⟨oc4, od4, .func (PySem.W.fnOf "_height" "_height" (defArgs s_height) (defBody s_height) (defScope s_height) .none kV4 dc4 pm4 an4 cd4 ct4), sl4⟩) (c4 : PySem.W.codeIn K cd4 "_height" = true) (k4 : PySem.W.keepIn K (.ref f4) = true)
    {od5 an5 : Option Addr} {sl5 : Array (Option Value)} {oc5 kV5 dc5 pm5 cd5 ct5 : Value} {f5 : Addr}
    (a5 : PySem.W.nsIn K mainGlobals "_heights" = some (some (.ref f5))) (l5 : K.lookup f5 = some ⟨oc5, od5, .func (PySem.W.fnOf "_heights" "_heights" (defArgs s_heights) (defBody s_heights) (defScope s_heights) .none kV5 dc5 pm5 an5 cd5 ct5), sl5⟩) (c5 : PySem.W.codeIn K cd5 "_heights" = true) (k5 : PySem.W.keepIn K (.ref f5) = true)
    {od6 an6 : Option Addr} {sl6 : Array (Option Value)} {oc6 kV6 dc6 pm6 cd6 ct6 : Value} {f6 : Addr}
    (a6 : PySem.W.nsIn K mainGlobals "is_memory" = some (some (.ref f6))) (l6 : K.lookup f6 = some ⟨oc6, od6, .func (PySem.W.fnOf "is_memory" "is_memory" (defArgs sis_memory) (defBody sis_memory) (defScope sis_memory) .none kV6 dc6 pm6 an6 cd6 ct6), sl6⟩) (c6 : PySem.W.codeIn K cd6 "is_memory" = true) (k6 : PySem.W.keepIn K (.ref f6) = true)
    {od7 an7 : Option Addr} {sl7 : Array (Option Value)} {oc7 kV7 dc7 pm7 cd7 ct7 : Value} {f7 : Addr}
    (a7 : PySem.W.nsIn K mainGlobals "check_memory" = some (some (.ref f7))) (l7 : K.lookup f7 = some ⟨oc7, od7, .func (PySem.W.fnOf "check_memory" "check_memory" (defArgs scheck_memory) (defBody scheck_memory) (defScope scheck_memory) .none kV7 dc7 pm7 an7 cd7 ct7), sl7⟩) (c7 : PySem.W.codeIn K cd7 "check_memory" = true) (k7 : PySem.W.keepIn K (.ref f7) = true)
    {od8 an8 : Option Addr} {sl8 : Array (Option Value)} {oc8 kV8 dc8 pm8 cd8 ct8 : Value} {f8 : Addr}
    (a8 : PySem.W.nsIn K mainGlobals "check_levels" = some (some (.ref f8))) (l8 : K.lookup f8 = some ⟨oc8, od8, .func (PySem.W.fnOf "check_levels" "check_levels" (defArgs scheck_levels) (defBody scheck_levels) (defScope scheck_levels) .none kV8 dc8 pm8 an8 cd8 ct8), sl8⟩) (c8 : PySem.W.codeIn K cd8 "check_levels" = true) (k8 : PySem.W.keepIn K (.ref f8) = true)
    {od9 an9 : Option Addr} {sl9 : Array (Option Value)} {oc9 kV9 dc9 pm9 cd9 ct9 : Value} {f9 : Addr}
    (a9 : PySem.W.nsIn K mainGlobals "memory_after" = some (some (.ref f9))) (l9 : K.lookup f9 = some ⟨oc9, od9, .func (PySem.W.fnOf "memory_after" "memory_after" (defArgs smemory_after) (defBody smemory_after) (defScope smemory_after) .none kV9 dc9 pm9 an9 cd9 ct9), sl9⟩) (c9 : PySem.W.codeIn K cd9 "memory_after" = true) (k9 : PySem.W.keepIn K (.ref f9) = true)
    {od10 an10 : Option Addr} {sl10 : Array (Option Value)} {oc10 kV10 dc10 pm10 cd10 ct10 : Value} {f10 : Addr}
    (a10 : PySem.W.nsIn K mainGlobals "memory_of" = some (some (.ref f10))) (l10 : K.lookup f10 = some ⟨oc10, od10, .func (PySem.W.fnOf "memory_of" "memory_of" (defArgs smemory_of) (defBody smemory_of) (defScope smemory_of) .none kV10 dc10 pm10 an10 cd10 ct10), sl10⟩) (c10 : PySem.W.codeIn K cd10 "memory_of" = true) (k10 : PySem.W.keepIn K (.ref f10) = true)
    {od11 an11 : Option Addr} {sl11 : Array (Option Value)} {oc11 kV11 dc11 pm11 cd11 ct11 : Value} {f11 : Addr}
    (a11 : PySem.W.nsIn K mainGlobals "switches" = some (some (.ref f11))) (l11 : K.lookup f11 = some ⟨oc11, od11, .func (PySem.W.fnOf "switches" "switches" (defArgs sswitches) (defBody sswitches) (defScope sswitches) .none kV11 dc11 pm11 an11 cd11 ct11), sl11⟩) (c11 : PySem.W.codeIn K cd11 "switches" = true) (k11 : PySem.W.keepIn K (.ref f11) = true)
    {od12 an12 : Option Addr} {sl12 : Array (Option Value)} {oc12 kV12 dc12 pm12 cd12 ct12 : Value} {f12 : Addr}
    (a12 : PySem.W.nsIn K mainGlobals "switches_on" = some (some (.ref f12))) (l12 : K.lookup f12 = some ⟨oc12, od12, .func (PySem.W.fnOf "switches_on" "switches_on" (defArgs sswitches_on) (defBody sswitches_on) (defScope sswitches_on) .none kV12 dc12 pm12 an12 cd12 ct12), sl12⟩) (c12 : PySem.W.codeIn K cd12 "switches_on" = true) (k12 : PySem.W.keepIn K (.ref f12) = true)
    {od13 an13 : Option Addr} {sl13 : Array (Option Value)} {oc13 kV13 dc13 pm13 cd13 ct13 : Value} {f13 : Addr}
    (a13 : PySem.W.nsIn K mainGlobals "_law_feed" = some (some (.ref f13))) (l13 : K.lookup f13 = some ⟨oc13, od13, .func (PySem.W.fnOf "_law_feed" "_law_feed" (defArgs s_law_feed) (defBody s_law_feed) (defScope s_law_feed) .none kV13 dc13 pm13 an13 cd13 ct13), sl13⟩) (c13 : PySem.W.codeIn K cd13 "_law_feed" = true) (k13 : PySem.W.keepIn K (.ref f13) = true)
    {od14 an14 : Option Addr} {sl14 : Array (Option Value)} {oc14 kV14 dc14 pm14 cd14 ct14 : Value} {f14 : Addr}
    (a14 : PySem.W.nsIn K mainGlobals "_law_take" = some (some (.ref f14))) (l14 : K.lookup f14 = some ⟨oc14, od14, .func (PySem.W.fnOf "_law_take" "_law_take" (defArgs s_law_take) (defBody s_law_take) (defScope s_law_take) .none kV14 dc14 pm14 an14 cd14 ct14), sl14⟩) (c14 : PySem.W.codeIn K cd14 "_law_take" = true) (k14 : PySem.W.keepIn K (.ref f14) = true)
    {od15 an15 : Option Addr} {sl15 : Array (Option Value)} {oc15 kV15 dc15 pm15 cd15 ct15 : Value} {f15 : Addr}
    (a15 : PySem.W.nsIn K mainGlobals "_law_pick" = some (some (.ref f15))) (l15 : K.lookup f15 = some ⟨oc15, od15, .func (PySem.W.fnOf "_law_pick" "_law_pick" (defArgs s_law_pick) (defBody s_law_pick) (defScope s_law_pick) .none kV15 dc15 pm15 an15 cd15 ct15), sl15⟩) (c15 : PySem.W.codeIn K cd15 "_law_pick" = true) (k15 : PySem.W.keepIn K (.ref f15) = true)
    {od16 an16 : Option Addr} {sl16 : Array (Option Value)} {oc16 kV16 dc16 pm16 cd16 ct16 : Value} {f16 : Addr}
    (a16 : PySem.W.nsIn K mainGlobals "_law_history" = some (some (.ref f16))) (l16 : K.lookup f16 = some ⟨oc16, od16, .func (PySem.W.fnOf "_law_history" "_law_history" (defArgs s_law_history) (defBody s_law_history) (defScope s_law_history) .none kV16 dc16 pm16 an16 cd16 ct16), sl16⟩) (c16 : PySem.W.codeIn K cd16 "_law_history" = true) (k16 : PySem.W.keepIn K (.ref f16) = true)
    {od17 an17 : Option Addr} {sl17 : Array (Option Value)} {oc17 kV17 dc17 pm17 cd17 ct17 : Value} {f17 : Addr}
    (a17 : PySem.W.nsIn K mainGlobals "_law_memories" = some (some (.ref f17))) (l17 : K.lookup f17 = some ⟨oc17, od17, .func (PySem.W.fnOf "_law_memories" "_law_memories" (defArgs s_law_memories) (defBody s_law_memories) (defScope s_law_memories) .none kV17 dc17 pm17 an17 cd17 ct17), sl17⟩) (c17 : PySem.W.codeIn K cd17 "_law_memories" = true) (k17 : PySem.W.keepIn K (.ref f17) = true)
    {od18 an18 : Option Addr} {sl18 : Array (Option Value)} {oc18 kV18 dc18 pm18 cd18 ct18 : Value} {f18 : Addr}
    (a18 : PySem.W.nsIn K mainGlobals "_law_memory" = some (some (.ref f18))) (l18 : K.lookup f18 = some ⟨oc18, od18, .func (PySem.W.fnOf "_law_memory" "_law_memory" (defArgs s_law_memory) (defBody s_law_memory) (defScope s_law_memory) .none kV18 dc18 pm18 an18 cd18 ct18), sl18⟩) (c18 : PySem.W.codeIn K cd18 "_law_memory" = true) (k18 : PySem.W.keepIn K (.ref f18) = true)
    {od19 an19 : Option Addr} {sl19 : Array (Option Value)} {oc19 kV19 dc19 pm19 cd19 ct19 : Value} {f19 : Addr}
    (a19 : PySem.W.nsIn K mainGlobals "_law_is_level" = some (some (.ref f19))) (l19 : K.lookup f19 = some ⟨oc19, od19, .func (PySem.W.fnOf "_law_is_level" "_law_is_level" (defArgs s_law_is_level) (defBody s_law_is_level) (defScope s_law_is_level) .none kV19 dc19 pm19 an19 cd19 ct19), sl19⟩) (c19 : PySem.W.codeIn K cd19 "_law_is_level" = true) (k19 : PySem.W.keepIn K (.ref f19) = true)
    {od20 an20 : Option Addr} {sl20 : Array (Option Value)} {oc20 kV20 dc20 pm20 cd20 ct20 : Value} {f20 : Addr}
    (a20 : PySem.W.nsIn K mainGlobals "_law_bad_level" = some (some (.ref f20))) (l20 : K.lookup f20 = some ⟨oc20, od20, .func (PySem.W.fnOf "_law_bad_level" "_law_bad_level" (defArgs s_law_bad_level) (defBody s_law_bad_level) (defScope s_law_bad_level) .none kV20 dc20 pm20 an20 cd20 ct20), sl20⟩) (c20 : PySem.W.codeIn K cd20 "_law_bad_level" = true) (k20 : PySem.W.keepIn K (.ref f20) = true)
    {od21 an21 : Option Addr} {sl21 : Array (Option Value)} {oc21 kV21 dc21 pm21 cd21 ct21 : Value} {f21 : Addr}
    (a21 : PySem.W.nsIn K mainGlobals "_law_is_memory" = some (some (.ref f21))) (l21 : K.lookup f21 = some ⟨oc21, od21, .func (PySem.W.fnOf "_law_is_memory" "_law_is_memory" (defArgs s_law_is_memory) (defBody s_law_is_memory) (defScope s_law_is_memory) .none kV21 dc21 pm21 an21 cd21 ct21), sl21⟩) (c21 : PySem.W.codeIn K cd21 "_law_is_memory" = true) (k21 : PySem.W.keepIn K (.ref f21) = true)
    {od22 an22 : Option Addr} {sl22 : Array (Option Value)} {oc22 kV22 dc22 pm22 cd22 ct22 : Value} {f22 : Addr}
    (a22 : PySem.W.nsIn K mainGlobals "_law_asked" = some (some (.ref f22))) (l22 : K.lookup f22 = some ⟨oc22, od22, .func (PySem.W.fnOf "_law_asked" "_law_asked" (defArgs s_law_asked) (defBody s_law_asked) (defScope s_law_asked) .none kV22 dc22 pm22 an22 cd22 ct22), sl22⟩) (c22 : PySem.W.codeIn K cd22 "_law_asked" = true) (k22 : PySem.W.keepIn K (.ref f22) = true)
    {od23 an23 : Option Addr} {sl23 : Array (Option Value)} {oc23 kV23 dc23 pm23 cd23 ct23 : Value} {f23 : Addr}
    (a23 : PySem.W.nsIn K mainGlobals "_law_odd_memory" = some (some (.ref f23))) (l23 : K.lookup f23 = some ⟨oc23, od23, .func (PySem.W.fnOf "_law_odd_memory" "_law_odd_memory" (defArgs s_law_odd_memory) (defBody s_law_odd_memory) (defScope s_law_odd_memory) .none kV23 dc23 pm23 an23 cd23 ct23), sl23⟩) (c23 : PySem.W.codeIn K cd23 "_law_odd_memory" = true) (k23 : PySem.W.keepIn K (.ref f23) = true)
    {od24 an24 : Option Addr} {sl24 : Array (Option Value)} {oc24 kV24 dc24 pm24 cd24 ct24 : Value} {f24 : Addr}
    (a24 : PySem.W.nsIn K mainGlobals "_law_odd_levels" = some (some (.ref f24))) (l24 : K.lookup f24 = some ⟨oc24, od24, .func (PySem.W.fnOf "_law_odd_levels" "_law_odd_levels" (defArgs s_law_odd_levels) (defBody s_law_odd_levels) (defScope s_law_odd_levels) .none kV24 dc24 pm24 an24 cd24 ct24), sl24⟩) (c24 : PySem.W.codeIn K cd24 "_law_odd_levels" = true) (k24 : PySem.W.keepIn K (.ref f24) = true)
    {od25 an25 : Option Addr} {sl25 : Array (Option Value)} {oc25 kV25 dc25 pm25 cd25 ct25 : Value} {f25 : Addr}
    (a25 : PySem.W.nsIn K mainGlobals "law" = some (some (.ref f25))) (l25 : K.lookup f25 = some ⟨oc25, od25, .func (PySem.W.fnOf "law" "law" (defArgs slaw) (defBody slaw) (defScope slaw) .none kV25 dc25 pm25 an25 cd25 ct25), sl25⟩) (c25 : PySem.W.codeIn K cd25 "law" = true) (k25 : PySem.W.keepIn K (.ref f25) = true)
    (z_len : PySem.W.nsIn K mainGlobals "len" = some none)
    (z_int : PySem.W.nsIn K mainGlobals "int" = some none)
    (z_bool : PySem.W.nsIn K mainGlobals "bool" = some none)
    (z_tuple : PySem.W.nsIn K mainGlobals "tuple" = some none)
    (z_list : PySem.W.nsIn K mainGlobals "list" = some none)
    (z_abs : PySem.W.nsIn K mainGlobals "abs" = some none)
    (z_max : PySem.W.nsIn K mainGlobals "max" = some none)
    (z_min : PySem.W.nsIn K mainGlobals "min" = some none)
    (z_range : PySem.W.nsIn K mainGlobals "range" = some none)
    (z_zip : PySem.W.nsIn K mainGlobals "zip" = some none)
    (z_enumerate : PySem.W.nsIn K mainGlobals "enumerate" = some none)
    (z_isinstance : PySem.W.nsIn K mainGlobals "isinstance" = some none)
    (z_sorted : PySem.W.nsIn K mainGlobals "sorted" = some none)
    (z_all : PySem.W.nsIn K mainGlobals "all" = some none)
    (z_repr : PySem.W.nsIn K mainGlobals "repr" = some none)
    (gC : PySem.W.nsIn K mainGlobals "BadMemory" = some (some (.ref C))) (xC : PySem.W.excIn K C [.type "ValueError", .type "Exception", .type "BaseException", .type "object"] "ValueError.__new__" = true)
    (kC : PySem.W.keepIn K (.ref C) = true) (bC : PySem.W.subIn K (.ref C) (.type "BaseException") = some true) (tC : PySem.W.typeIn K (.ref C) = some (.type "type")) (iC : PySem.W.isClsIn K C = true) (sC : PySem.W.subIn K (.ref C) (.ref C) = some true)
    {D fI N1 : Addr} {nm1 q1 : Str} {bs1 bm1 sub1 : List Value} {sn1 : List Str} {ab1 : Bool} {col1 : Option Bool} {dd1 : Option Addr} {m0 m1 m2 m3 m5 : Option Value} {odI anI : Option Addr} {slI : Array (Option Value)} {ocI kVI dcI pmI cdI ctI : Value}
    (gD : PySem.W.nsIn K mainGlobals "BadLevels" = some (some (.ref D))) (xD : K.lookup D = some (PySem.excClassObj nm1 q1 D N1 bs1 bm1 true sn1 sub1 ab1 col1 dd1 m0 m1 m2 m3 m5 "ValueError.__new__")) (rD : PySem.HandSPX.refsVE bm1 = true)
    (saD : PySem.W.findIn K (.ref D) "__setattr__" = some (some (.builtin "object.__setattr__"))) (gaD : PySem.W.findIn K (.ref D) "__getattribute__" = some (some (.builtin "BaseException.__getattribute__"))) (ggD : PySem.W.findIn K (.ref D) "__getattr__" = some none)
    (noD : PySem.W.findIn K (.ref D) "index" = some none) (inD : PySem.W.findIn K (.ref D) "__init__" = some (some (.ref fI))) (tfD : PySem.W.typeIn K (.ref fI) = some (.type "function")) (kD : PySem.W.keepIn K (.ref D) = true) (bD : PySem.W.subIn K (.ref D) (.type "BaseException") = some true)
    (tD : PySem.W.typeIn K (.ref D) = some (.type "type")) (hD : PySem.W.hasDictIn K D = true) (iD : PySem.W.isClsIn K D = true) (sD : PySem.W.subIn K (.ref D) (.ref D) = some true)
    (lI : K.lookup fI = some ⟨ocI, odI, .func (PySem.W.fnOf "__init__" "BadLevels.__init__" (defArgs sinit) (defBody sinit) (defScope sinit) .none kVI dcI pmI anI cdI ctI), slI⟩) (cI : PySem.W.codeIn K cdI "BadLevels.__init__" = true) (kI : PySem.W.keepIn K (.ref fI) = true) (sDC : PySem.W.subIn K (.ref D) (.ref C) = some false) :
    ∃ fd : FuncData, (∀ (s : Shared) (v : Value), BindsTo s fd ⟨[v], []⟩ [("script", v)]) ∧ ∀ base : Heap, K.In base → base.Ns mainGlobals mg → Mods base → FnG l.prog w K mg base CX0 8 fa fd ["script"] (spLaw K) := by
  have e := hfa.symm.trans (PySem.W.mg_of X G a25)
  cases e
  have T : Txt K mg C := ⟨PySem.W.mg_none_of X G z_len, PySem.W.mg_none_of X G z_int, PySem.W.mg_none_of X G z_bool, PySem.W.mg_none_of X G z_tuple, PySem.W.mg_none_of X G z_list, PySem.W.mg_none_of X G z_abs, PySem.W.mg_none_of X G z_max, PySem.W.mg_none_of X G z_min, PySem.W.mg_none_of X G z_range, PySem.W.mg_none_of X G z_zip, PySem.W.mg_none_of X G z_enumerate, PySem.W.mg_none_of X G z_isinstance, PySem.W.mg_none_of X G z_sorted, PySem.W.mg_none_of X G z_all, PySem.W.mg_none_of X G z_repr, PySem.W.mg_of X G gC, xC, kC, bC, tC, own_exm bC iC tC sC⟩
  have L : TxtL K mg D := ⟨PySem.W.mg_of X G gD, own_exm bD iD tD sD, ⟨gaD, ggD, bD, hD⟩, noD⟩
  have O : OexC K D := ⟨⟨_, _, _, _, _, _, _, _, _, _, _, _, _, _, _, xD, rD⟩, saD, bD, tD, kD⟩
  have two : PySem.W.exmOne K (.ref D) (.ref C) = some false := two_exm bC iC tC sDC
  have FI := fun_mk (st := sinit) lI cI kI
  have bI := FI.binds (ps := ["self", "index"]) fun _ _ _ _ _ _ us hl => match us, hl with | [_, _], _ => rfl
  have F0 := fun_mk (st := sis_integer) l0 c0 k0
  have b0 := F0.binds (ps := ["value"]) fun _ _ _ _ _ _ us hl => match us, hl with | [_], _ => rfl
  have F1 := fun_mk (st := sis_level) l1 c1 k1
  have b1 := F1.binds (ps := ["top", "value"]) fun _ _ _ _ _ _ us hl => match us, hl with | [_, _], _ => rfl
  have F2 := fun_mk (st := smoved) l2 c2 k2
  have b2 := F2.binds (ps := ["memory", "level"]) fun _ _ _ _ _ _ us hl => match us, hl with | [_, _], _ => rfl
  have F3 := fun_mk (st := s_followed) l3 c3 k3
  have b3 := F3.binds (ps := ["memory", "levels"]) fun _ _ _ _ _ _ us hl => match us, hl with | [_, _], _ => rfl
  have F4 := fun_mk (st := s_height) l4 c4 k4
  have b4 := F4.binds (ps := ["memory", "down"]) fun _ _ _ _ _ _ us hl => match us, hl with | [_, _], _ => rfl
  have F5 := fun_mk (st := s_heights) l5 c5 k5
  have b5 := F5.binds (ps := ["top", "memory"]) fun _ _ _ _ _ _ us hl => match us, hl with | [_, _], _ => rfl
  have F6 := fun_mk (st := sis_memory) l6 c6 k6
  have b6 := F6.binds (ps := ["top", "value"]) fun _ _ _ _ _ _ us hl => match us, hl with | [_, _], _ => rfl
  have F7 := fun_mk (st := scheck_memory) l7 c7 k7
  have b7 := F7.binds (ps := ["top", "memory"]) fun _ _ _ _ _ _ us hl => match us, hl with | [_, _], _ => rfl
  have F8 := fun_mk (st := scheck_levels) l8 c8 k8
  have b8 := F8.binds (ps := ["top", "levels"]) fun _ _ _ _ _ _ us hl => match us, hl with | [_, _], _ => rfl
  have F9 := fun_mk (st := smemory_after) l9 c9 k9
  have b9 := F9.binds (ps := ["top", "memory", "levels"]) fun _ _ _ _ _ _ us hl => match us, hl with | [_, _, _], _ => rfl
  have F10 := fun_mk (st := smemory_of) l10 c10 k10
  have b10 := F10.binds (ps := ["top", "history"]) fun _ _ _ _ _ _ us hl => match us, hl with | [_, _], _ => rfl
  have F11 := fun_mk (st := sswitches) l11 c11 k11
  have b11 := F11.binds (ps := ["top"]) fun _ _ _ _ _ _ us hl => match us, hl with | [_], _ => rfl
  have F12 := fun_mk (st := sswitches_on) l12 c12 k12
  have b12 := F12.binds (ps := ["top", "memory"]) fun _ _ _ _ _ _ us hl => match us, hl with | [_, _], _ => rfl
  have F13 := fun_mk (st := s_law_feed) l13 c13 k13
  have b13 := F13.binds (ps := ["script", "k"]) fun _ _ _ _ _ _ us hl => match us, hl with | [_, _], _ => rfl
  have F14 := fun_mk (st := s_law_take) l14 c14 k14
  have b14 := F14.binds (ps := ["feed", "size"]) fun _ _ _ _ _ _ us hl => match us, hl with | [_, _], _ => rfl
  have F15 := fun_mk (st := s_law_pick) l15 c15 k15
  have b15 := F15.binds (ps := ["feed", "things"]) fun _ _ _ _ _ _ us hl => match us, hl with | [_, _], _ => rfl
  have F16 := fun_mk (st := s_law_history) l16 c16 k16
  have b16 := F16.binds (ps := ["feed", "top", "most"]) fun _ _ _ _ _ _ us hl => match us, hl with | [_, _, _], _ => rfl
  have F17 := fun_mk (st := s_law_memories) l17 c17 k17
  have b17 := F17.binds (ps := ["top"]) fun _ _ _ _ _ _ us hl => match us, hl with | [_], _ => rfl
  have F18 := fun_mk (st := s_law_memory) l18 c18 k18
  have b18 := F18.binds (ps := ["levels"]) fun _ _ _ _ _ _ us hl => match us, hl with | [_], _ => rfl
  have F19 := fun_mk (st := s_law_is_level) l19 c19 k19
  have b19 := F19.binds (ps := ["top", "value"]) fun _ _ _ _ _ _ us hl => match us, hl with | [_, _], _ => rfl
  have F20 := fun_mk (st := s_law_bad_level) l20 c20 k20
  have b20 := F20.binds (ps := ["top", "value"]) fun _ _ _ _ _ _ us hl => match us, hl with | [_, _], _ => rfl
  have F21 := fun_mk (st := s_law_is_memory) l21 c21 k21
  have b21 := F21.binds (ps := ["top", "value"]) fun _ _ _ _ _ _ us hl => match us, hl with | [_, _], _ => rfl
  have F22 := fun_mk (st := s_law_asked) l22 c22 k22
  have b22 := F22.binds (ps := ["way", "top", "memory", "levels"]) fun _ _ _ _ _ _ us hl => match us, hl with | [_, _, _, _], _ => rfl
  have F23 := fun_mk (st := s_law_odd_memory) l23 c23 k23
  have b23 := F23.binds (ps := ["feed", "top"]) fun _ _ _ _ _ _ us hl => match us, hl with | [_, _], _ => rfl
  have F24 := fun_mk (st := s_law_odd_levels) l24 c24 k24
  have b24 := F24.binds (ps := ["feed", "top", "levels"]) fun _ _ _ _ _ _ us hl => match us, hl with | [_, _, _], _ => rfl
  have F25 := fun_mk (st := slaw) l25 c25 k25
  have b25 := F25.binds (ps := ["script"]) fun _ _ _ _ _ _ us hl => match us, hl with | [_], _ => rfl
  refine ⟨PySem.W.fnOf "law" "law" (defArgs slaw) (defBody slaw) (defScope slaw) .none kV25 dc25 pm25 an25 cd25 ct25, fun s v => .of_eq rfl, fun base _ _ mods => ?_⟩
  have DBadLevels : OwnIx l.prog w K mg base "BadLevels" D := own_mk FI bI O noD inD tfD (PySem.W.mg_of X G gD)
  have Dis_integer : Def l.prog w K mg base CX0 1 "is_integer" ["value"] (spIsInteger K) := def_mk F0 (PySem.W.mg_of X G a0) b0 (ok_is_integer F0 T )
  have Dis_level : Def l.prog w K mg base CX0 2 "is_level" ["top", "value"] (spIsLevel K) := def_mk F1 (PySem.W.mg_of X G a1) b1 (ok_is_level F1 T Dis_integer)
  have Dmoved : Def l.prog w K mg base CX0 1 "moved" ["memory", "level"] (spMoved K) := def_mk F2 (PySem.W.mg_of X G a2) b2 (okmoved F2 T )
  have D_followed : Def l.prog w K mg base CX0 2 "_followed" ["memory", "levels"] (spFollowed K) := def_mk F3 (PySem.W.mg_of X G a3) b3 (ok_followed F3 T Dmoved)
  have D_height : Def l.prog w K mg base CX0 1 "_height" ["memory", "down"] (spHeight K) := def_mk F4 (PySem.W.mg_of X G a4) b4 (ok_height F4 T )
  have D_heights : Def l.prog w K mg base CX0 2 "_heights" ["top", "memory"] (spHeights K) := def_mk F5 (PySem.W.mg_of X G a5) b5 (ok_heights F5 T D_height)
  have Dis_memory : Def l.prog w K mg base CX0 3 "is_memory" ["top", "value"] (spIsMemory K) := def_mk F6 (PySem.W.mg_of X G a6) b6 (ok_is_memory F6 T Dis_level D_followed)
  have Dcheck_memory : Def l.prog w K mg base (L2.CX l.prog w) 4 "check_memory" ["top", "memory"] (spCheckMemory K C) := def_mk F7 (PySem.W.mg_of X G a7) b7 (ok_check_memory F7 T Dis_memory)
  have Dcheck_levels : Def l.prog w K mg base (L2.CX l.prog w) 3 "check_levels" ["top", "levels"] (spCheckLevels K D) := def_mk F8 (PySem.W.mg_of X G a8) b8 (ok_check_levels F8 T Dis_level DBadLevels)
  have Dmemory_after : Def l.prog w K mg base (L2.CX l.prog w) 5 "memory_after" ["top", "memory", "levels"] (spAfter K C D) := def_mk F9 (PySem.W.mg_of X G a9) b9 (ok_after F9 T Dcheck_memory Dcheck_levels D_followed)
  have Dmemory_of : Def l.prog w K mg base (L2.CX l.prog w) 6 "memory_of" ["top", "history"] (spOf K D) := def_mk F10 (PySem.W.mg_of X G a10) b10 (ok_of F10 T Dmemory_after)
  have Dswitches : Def l.prog w K mg base CX0 1 "switches" ["top"] (spSwitches K) := def_mk F11 (PySem.W.mg_of X G a11) b11 (ok_psw F11 T )
  have Dswitches_on : Def l.prog w K mg base (L2.CX l.prog w) 5 "switches_on" ["top", "memory"] (spOnP K C) := def_mk F12 (PySem.W.mg_of X G a12) b12 (ok_pon F12 T Dcheck_memory D_heights Dswitches)
  have D_law_feed : Def l.prog w K mg base CX0 1 "_law_feed" ["script", "k"] (spFeed K) := def_mk F13 (PySem.W.mg_of X G a13) b13 (ok_feed F13 T )
  have D_law_take : Def l.prog w K mg base CX0 1 "_law_take" ["feed", "size"] spTake := def_mk F14 (PySem.W.mg_of X G a14) b14 (ok_take F14 T )
  have D_law_pick : Def l.prog w K mg base CX0 2 "_law_pick" ["feed", "things"] (spPick K) := def_mk F15 (PySem.W.mg_of X G a15) b15 (ok_pick F15 T D_law_take)
  have D_law_history : Def l.prog w K mg base CX0 2 "_law_history" ["feed", "top", "most"] spHist := def_mk F16 (PySem.W.mg_of X G a16) b16 (ok_hist F16 T (take_n D_law_take))
  have D_law_memories : Def l.prog w K mg base CX0 1 "_law_memories" ["top"] (spMemories K) := def_mk F17 (PySem.W.mg_of X G a17) b17 (ok_memories F17 T )
  have D_law_memory : Def l.prog w K mg base CX0 1 "_law_memory" ["levels"] (spLawMem K) := def_mk F18 (PySem.W.mg_of X G a18) b18 (ok_lmem F18 T )
  have D_law_is_level : Def l.prog w K mg base CX0 1 "_law_is_level" ["top", "value"] (spIsLevel K) := def_mk F19 (PySem.W.mg_of X G a19) b19 (ok_lis_level F19 T )
  have D_law_bad_level : Def l.prog w K mg base CX0 2 "_law_bad_level" ["top", "value"] (spBad K) := def_mk F20 (PySem.W.mg_of X G a20) b20 (ok_bad F20 T D_law_is_level)
  have D_law_is_memory : Def l.prog w K mg base CX0 2 "_law_is_memory" ["top", "value"] (spIsMem K) := def_mk F21 (PySem.W.mg_of X G a21) b21 (ok_ismem F21 T D_law_is_level D_law_memories)
  have D_law_asked : Def l.prog w K mg base CX0 7 "_law_asked" ["way", "top", "memory", "levels"] (spAsked K) := def_mk F22 (PySem.W.mg_of X G a22) b22 (ok_asked F22 T L two Dmemory_after Dmemory_of Dswitches_on)
  have D_law_odd_memory : Def l.prog w K mg base CX0 3 "_law_odd_memory" ["feed", "top"] (spOddMem K) := def_mk F23 (PySem.W.mg_of X G a23) b23 (ok_oddmem F23 T (take_n D_law_take) (pick_n D_law_pick) D_law_memories)
  have D_law_odd_levels : Def l.prog w K mg base CX0 3 "_law_odd_levels" ["feed", "top", "levels"] (spOddLev K) := def_mk F24 (PySem.W.mg_of X G a24) b24 (ok_oddlev F24 T (take_n D_law_take) (pick_n D_law_pick))
  exact ok_law mods F25 T D_law_feed (take_n D_law_take) (pick_n D_law_pick) D_law_memories D_law_history D_law_memory D_law_bad_level D_law_is_memory D_law_asked D_law_odd_memory D_law_odd_levels Dmemory_after
theorem walk {l : PySem.W.OpenLaw} {q : Program} {loose : List Str} {XP : (Str → Option Value) → Heap → Prop} {YP : World → Heap → Prop} {d : DefRec} {K : Params → PySem.W.Frag} (hn : l.most = some 63) (hdf : d.params.defaults = []) (seen : PyProof.Rows.importsNone q = true)
    (hY : ∀ (w : World) (h : Heap), YP w h → (K w.params).In h)
    (F : ∀ (w : World) (mg : Str → Option Value) (fa : Addr) (h : Heap), (K w.params).In h → h.Ns mainGlobals mg → mg d.name = some (.ref fa) →
      ∃ fd : FuncData, (∀ (s : Shared) (u : Value), BindsTo s fd ⟨[u], []⟩ [("script", u)]) ∧ ∀ base : Heap, (K w.params).In base → base.Ns mainGlobals mg → Mods base → FnG l.prog w (K w.params) mg base CX0 8 fa fd ["script"] (spLaw (K w.params))) :
    PySem.W.WalkO q loose XP YP l.row.toRowW d [] (fun f vs => PySem.call f vs) :=
  VK.walk_x (n := 63) (k := 8) (x := "script") (CX := fun _ => CX0) (sp := fun w => spLaw (K w.params)) hn (by decide) hdf seen ⟨rfl, by decide, by decide⟩ hY F (fun _ _ a ns hl _ hS => ⟨a, ns, rfl, hS, hl, fun _ => rfl⟩) fun _ _ _ _ _ z => z
end My
open PySem PySem.W PyProof.Rows
set_option maxRecDepth 100000 in
set_option maxHeartbeats 0 in
theorem PySem.Challenge.cw_turnweights_k11_levels_that_follow_memor_holds : PySem.Challenge.rw_turnweights_k11_levels_that_follow_memor.Holds := by
  w_on; o_law; k_head; (case hw => w_witness2)
  k_fill
  refine My.walk (l := PySem.Challenge.rw_turnweights_k11_levels_that_follow_memor) rfl rfl (by decide +kernel) (fun w h Y => PySem.W.kIn_of Y) ?F
  case F =>
    intro w mg fa h KX G hmg
    refine' My.all_mk KX G hmg ?a0 ?l0 ?c0 ?k0 ?a1 ?l1 ?c1 ?k1 ?a2 ?l2 ?c2 ?k2 ?a3 ?l3 ?c3 ?k3 ?a4 ?l4 ?c4 ?k4 ?a5 ?l5 ?c5 ?k5 ?a6 ?l6 ?c6 ?k6 ?a7 ?l7 ?c7 ?k7 ?a8 ?l8 ?c8 ?k8 ?a9 ?l9 ?c9 ?k9 ?a10 ?l10 ?c10 ?k10 ?a11 ?l11 ?c11 ?k11 ?a12 ?l12 ?c12 ?k12 ?a13 ?l13 ?c13 ?k13 ?a14 ?l14 ?c14 ?k14 ?a15 ?l15 ?c15 ?k15 ?a16 ?l16 ?c16 ?k16 ?a17 ?l17 ?c17 ?k17 ?a18 ?l18 ?c18 ?k18 ?a19 ?l19 ?c19 ?k19 ?a20 ?l20 ?c20 ?k20 ?a21 ?l21 ?c21 ?k21 ?a22 ?l22 ?c22 ?k22 ?a23 ?l23 ?c23 ?k23 ?a24 ?l24 ?c24 ?k24 ?a25 ?l25 ?c25 ?k25 ?z_len ?z_int ?z_bool ?z_tuple ?z_list ?z_abs ?z_max ?z_min ?z_range ?z_zip ?z_enumerate ?z_isinstance ?z_sorted ?z_all ?z_repr ?gC ?xC ?kC ?bC ?tC ?iC ?sC ?gD ?xD ?rD ?saD ?gaD ?ggD ?noD ?inD ?tfD ?kD ?bD ?tD ?hD ?iD ?sD ?lI ?cI ?kI ?sDC
    (case a0 => k_is)
    (case l0 => k_is)
    (case c0 => k_is)
    (case k0 => k_is)
    (case a1 => k_is)
    (case l1 => k_is)
    (case c1 => k_is)
    (case k1 => k_is)
    (case a2 => k_is)
    (case l2 => k_is)
    (case c2 => k_is)
    (case k2 => k_is)
    (case a3 => k_is)
    (case l3 => k_is)
    (case c3 => k_is)
    (case k3 => k_is)
    (case a4 => k_is)
    (case l4 => k_is)
    (case c4 => k_is)
    (case k4 => k_is)
    (case a5 => k_is)
    (case l5 => k_is)
    (case c5 => k_is)
    (case k5 => k_is)
    (case a6 => k_is)
    (case l6 => k_is)
    (case c6 => k_is)
    (case k6 => k_is)
    (case a7 => k_is)
    (case l7 => k_is)
    (case c7 => k_is)
    (case k7 => k_is)
    (case a8 => k_is)
    (case l8 => k_is)
    (case c8 => k_is)
    (case k8 => k_is)
    (case a9 => k_is)
    (case l9 => k_is)
    (case c9 => k_is)
    (case k9 => k_is)
    (case a10 => k_is)
    (case l10 => k_is)
    (case c10 => k_is)
    (case k10 => k_is)
    (case a11 => k_is)
    (case l11 => k_is)
    (case c11 => k_is)
    (case k11 => k_is)
    (case a12 => k_is)
    (case l12 => k_is)
    (case c12 => k_is)
    (case k12 => k_is)
    (case a13 => k_is)
    (case l13 => k_is)
    (case c13 => k_is)
    (case k13 => k_is)
    (case a14 => k_is)
    (case l14 => k_is)
    (case c14 => k_is)
    (case k14 => k_is)
    (case a15 => k_is)
    (case l15 => k_is)
    (case c15 => k_is)
    (case k15 => k_is)
    (case a16 => k_is)
    (case l16 => k_is)
    (case c16 => k_is)
    (case k16 => k_is)
    (case a17 => k_is)
    (case l17 => k_is)
    (case c17 => k_is)
    (case k17 => k_is)
    (case a18 => k_is)
    (case l18 => k_is)
    (case c18 => k_is)
    (case k18 => k_is)
    (case a19 => k_is)
    (case l19 => k_is)
    (case c19 => k_is)
    (case k19 => k_is)
    (case a20 => k_is)
    (case l20 => k_is)
    (case c20 => k_is)
    (case k20 => k_is)
    (case a21 => k_is)
    (case l21 => k_is)
    (case c21 => k_is)
    (case k21 => k_is)
    (case a22 => k_is)
    (case l22 => k_is)
    (case c22 => k_is)
    (case k22 => k_is)
    (case a23 => k_is)
    (case l23 => k_is)
    (case c23 => k_is)
    (case k23 => k_is)
    (case a24 => k_is)
    (case l24 => k_is)
    (case c24 => k_is)
    (case k24 => k_is)
    (case a25 => k_is)
    (case l25 => k_is)
    (case c25 => k_is)
    (case k25 => k_is)
    (case z_len => k_is)
    (case z_int => k_is)
    (case z_bool => k_is)
    (case z_tuple => k_is)
    (case z_list => k_is)
    (case z_abs => k_is)
    (case z_max => k_is)
    (case z_min => k_is)
    (case z_range => k_is)
    (case z_zip => k_is)
    (case z_enumerate => k_is)
    (case z_isinstance => k_is)
    (case z_sorted => k_is)
    (case z_all => k_is)
    (case z_repr => k_is)
    (case gC => k_is)
    (case xC => k_exc)
    (case kC => k_is)
    (case bC => k_is)
    (case tC => k_is)
    (case iC => k_is)
    (case sC => first | rfl | k_is)
    (case gD => k_is)
    (case xD => k_is)
    (case rD => decide +kernel)
    (case saD => k_is)
    (case gaD => k_is)
    (case ggD => k_is)
    (case noD => k_is)
    (case inD => k_is)
    (case tfD => k_is)
    (case kD => k_is)
    (case bD => k_is)
    (case tD => k_is)
    (case hD => k_is)
    (case iD => k_is)
    (case sD => first | rfl | k_is)
    (case lI => k_is)
    (case cI => k_is)
    (case kI => k_is)
    (case sDC => k_is)
#print axioms PySem.Challenge.cw_turnweights_k11_levels_that_follow_memor_holds
