import PyProof.Rows.All
import Wide.All
import OpenK.AllK
import Wide.FinOn
import HandS.ForMost
import HandS.Exc
import HandS.ExcOwn
import HandS.Zip
import HandS.TupAny
import HandS.Deep
import HandS.IsInst
import HandS.WordsExc
import HandS.WordsList
import KE.GoesEnum
import KE.KDictZip
import KE.SortData
import KE.DataMinMax
import HandS.ExcInit
import HandS.ExcField
import PyProof.ReprBulk
import PyProof.ReprRoads
import PySem.Challenge.RW_turnweights_k12_switches_on_and_parting
set_option Elab.async false
set_option linter.all false
set_option maxRecDepth 100000
set_option maxHeartbeats 8000000
namespace VM
/-! ### memories, as lists of naturals -/
def wiped (i e l : Nat) : Bool := if i % 2 = 1 then decide (l ≤ e) else decide (e ≤ l)
def cut (l : Nat) : Nat → List Nat → List Nat
  | _, [] => [l]
  | i, e :: r => if wiped i e l then [l] else e :: cut l (i + 1) r
def moved (m : List Nat) (l : Nat) : List Nat := if l = 0 then [] else cut l 0 m
def followed (m ls : List Nat) : List Nat := ls.foldl moved m
def hstep (d h l : Nat) : Nat := if d < l then (if h < l then l else h) else 0
def height (m : List Nat) (d : Nat) : Nat := m.foldl (hstep d) 0
def heights (top : Nat) (m : List Nat) : List Nat := (List.range top).map (height m)
def mstep (s : List Nat × Nat) (p : Nat × Nat) : List Nat × Nat := if 0 < p.1 then (s.1 ++ [p.2, p.1], p.2 + 1) else s
def memOf (hs : List Nat) : List Nat := let s := hs.zipIdx.foldl mstep ([], 0); followed [] (s.1 ++ [s.2])
def isOn (u d : Nat) (ls : List Nat) : Bool := ls.foldl (fun b l => if l ≤ d then false else if u ≤ l then true else b) false
def switches (top : Nat) : List (List Nat) := ((List.range top).map fun u => (List.range (u + 1)).map fun d => [u + 1, d]).flatten
def on (top : Nat) (ls : List Nat) : List (List Nat) := (switches top).filter fun s => isOn (s.getD 0 0) (s.getD 1 0) ls
/-! the law's memories -/
def lots : Nat → List (List Nat)
  | 0 => [[]]
  | n + 1 => lots n ++ (lots n).map (· ++ [n + 1])
def entries : Nat → Nat → List Nat → List Nat
  | 0, _, _ => []
  | _ + 1, _, [] => []
  | f + 1, i, e :: r => if i % 2 = 0 then ((e :: r).getLastD 0) :: entries f (i + 1) ((e :: r).dropLast) else e :: entries f (i + 1) r
def ent (lot : List Nat) : List Nat := entries lot.length 0 lot
def msOf (top : Nat) : List (List Nat) := (lots top).map ent
def code (hs : List Nat) : Nat := hs.foldl (fun c h => 8 * c + h) 0
/-- the height vectors of all memories are closed under max and min, and lead back to their memories -/
def closed (top : Nat) : Bool :=
  let hs := (msOf top).map (heights top)
  let cs := hs.map code
  hs.all fun a => hs.all fun b => cs.contains (code (List.zipWith max a b)) && cs.contains (code (List.zipWith min a b))
def back (top : Nat) : Bool := (msOf top).all fun a => memOf (heights top a) == a && followed [] a == a && (heights top a).all (· < 8) && a.all fun l => decide (l ≤ top)
theorem closed1 : closed 1 = true := by decide +kernel
theorem closed2 : closed 2 = true := by decide +kernel
theorem closed3 : closed 3 = true := by decide +kernel
theorem closed4 : closed 4 = true := by decide +kernel
theorem closed5 : closed 5 = true := by decide +kernel
theorem closed6 : closed 6 = true := by decide +kernel
theorem back1 : back 1 = true := by decide +kernel
theorem back2 : back 2 = true := by decide +kernel
theorem back3 : back 3 = true := by decide +kernel
theorem back4 : back 4 = true := by decide +kernel
theorem back5 : back 5 = true := by decide +kernel
theorem back6 : back 6 = true := by decide +kernel
end VM
namespace VM
theorem cut_at : ∀ (m : List Nat) (k i e l : Nat), (∀ j x, j < i → m[j]? = some x → wiped (k + j) x l = false) → m[i]? = some e → wiped (k + i) e l = true → cut l k m = m.take i ++ [l]
  | [], k, i, e, l, _, h, _ => by simp at h
  | x :: r, k, 0, e, l, _, h, hw => by
    have : x = e := by simpa using h
    subst this
    simp only [Nat.add_zero] at hw
    simp [cut, hw]
  | x :: r, k, i + 1, e, l, hn, h, hw => by
    have h0 : wiped k x l = false := by simpa using hn 0 x (by omega) (by simp)
    have ih := cut_at r (k + 1) i e l (fun j y hj hy => by
      have := hn (j + 1) y (by omega) (by simpa using hy)
      rw [show k + 1 + j = k + (j + 1) by omega]
      exact this) (by simpa using h) (by rw [show k + 1 + i = k + (i + 1) by omega]; exact hw)
    simp [cut, h0, ih]
theorem cut_none : ∀ (m : List Nat) (k l : Nat), (∀ j x, m[j]? = some x → wiped (k + j) x l = false) → cut l k m = m ++ [l]
  | [], k, l, _ => rfl
  | x :: r, k, l, hn => by
    have h0 : wiped k x l = false := by simpa using hn 0 x (by simp)
    have ih := cut_none r (k + 1) l (fun j y hy => by
      have := hn (j + 1) y (by simpa using hy)
      rw [show k + 1 + j = k + (j + 1) by omega]
      exact this)
    simp [cut, h0, ih]
theorem cut_len : ∀ (m : List Nat) (k l : Nat), (cut l k m).length ≤ m.length + 1
  | [], _, _ => Nat.le_refl _
  | x :: r, k, l => by
    have := cut_len r (k + 1) l
    unfold cut
    split <;> simp <;> omega
theorem moved_len (m : List Nat) (l : Nat) : (moved m l).length ≤ m.length + 1 := by
  unfold moved
  split
  · simp
  · exact cut_len _ _ _
theorem cut_le {b : Nat} : ∀ (m : List Nat) (k l : Nat), (∀ x ∈ m, x ≤ b) → l ≤ b → ∀ x ∈ cut l k m, x ≤ b
  | [], _, l, _, hl, x, hx => by simp [cut] at hx; omega
  | y :: r, k, l, h, hl, x, hx => by
    unfold cut at hx
    split at hx
    · simp at hx; omega
    · rcases List.mem_cons.mp hx with rfl | hx
      · exact h _ (by simp)
      · exact cut_le r (k + 1) l (fun z hz => h z (by simp [hz])) hl x hx
theorem moved_le {b : Nat} (m : List Nat) (l : Nat) (h : ∀ x ∈ m, x ≤ b) (hl : l ≤ b) : ∀ x ∈ moved m l, x ≤ b := by
  unfold moved
  split
  · simp
  · exact cut_le m 0 l h hl
theorem followed_snoc (m ls : List Nat) (l : Nat) : followed m (ls ++ [l]) = moved (followed m ls) l := by simp [followed]
theorem followed_len : ∀ (ls m : List Nat), (followed m ls).length ≤ m.length + ls.length
  | [], m => by simp [followed]
  | l :: r, m => by
    have h1 := followed_len r (moved m l)
    have h2 := moved_len m l
    show (followed (moved m l) r).length ≤ _
    simp only [List.length_cons]
    omega
theorem take_succ {α : Type} {l : List α} {i : Nat} {x : α} (h : l[i]? = some x) : l.take (i + 1) = l.take i ++ [x] := by
  rw [List.take_add_one, h]
  rfl
theorem followed_take {m ls : List Nat} {i l : Nat} (h : ls[i]? = some l) : followed m (ls.take (i + 1)) = moved (followed m (ls.take i)) l := by
  rw [take_succ h, followed_snoc]
theorem height_snoc (m : List Nat) (d l : Nat) : height (m ++ [l]) d = hstep d (height m d) l := by simp [height]
theorem height_take {m : List Nat} {i d l : Nat} (h : m[i]? = some l) : height (m.take (i + 1)) d = hstep d (height (m.take i) d) l := by
  rw [take_succ h, height_snoc]
theorem hstep_le {d h l b : Nat} (hh : h ≤ b) (hl : l ≤ b) : hstep d h l ≤ b := by
  unfold hstep
  split
  · split <;> omega
  · omega
theorem height_le {b : Nat} (d : Nat) : ∀ (ls : List Nat) , (∀ x ∈ ls, x ≤ b) → height ls d ≤ b := by
  intro ls h
  unfold height
  have g : ∀ (ls : List Nat) (s : Nat), (∀ x ∈ ls, x ≤ b) → s ≤ b → ls.foldl (hstep d) s ≤ b := by
    intro ls
    induction ls with
    | nil => intro s _ hs; exact hs
    | cons x r ih => intro s h hs; exact ih _ (fun y hy => h y (by simp [hy])) (hstep_le hs (h x (by simp)))
  exact g ls 0 h (Nat.zero_le _)
def ostep (u d : Nat) (b : Bool) (l : Nat) : Bool := if l ≤ d then false else if u ≤ l then true else b
theorem isOn_take {u d l i : Nat} {ls : List Nat} (h : ls[i]? = some l) : isOn u d (ls.take (i + 1)) = ostep u d (isOn u d (ls.take i)) l := by
  rw [take_succ h]
  simp [isOn, ostep]
theorem isOn_height {u d : Nat} (hd : d < u) (ls : List Nat) : isOn u d ls = decide (u ≤ height ls d) := by
  have g : ∀ (ls : List Nat) (b : Bool) (h : Nat), b = decide (u ≤ h) → ls.foldl (fun b l => if l ≤ d then false else if u ≤ l then true else b) b = decide (u ≤ ls.foldl (hstep d) h) := by
    intro ls
    induction ls with
    | nil => intro b h e; exact e
    | cons l r ih =>
      intro b h e
      refine ih _ _ ?_
      unfold hstep
      by_cases c1 : l ≤ d
      · have n1 : ¬ d < l := by omega
        have n2 : ¬ u ≤ 0 := by omega
        simp [c1, n1, n2]
      · have n1 : d < l := by omega
        by_cases c2 : u ≤ l
        · have : u ≤ (if h < l then l else h) := by split <;> omega
          simp [c1, n1, c2, this]
        · have : decide (u ≤ (if h < l then l else h)) = decide (u ≤ h) := by
            split
            · have a : ¬ u ≤ h := by omega
              simp [a, c2]
            · rfl
          simp [c1, n1, c2, this, e]
  exact g ls false 0 (by
    have : ¬ u ≤ 0 := by omega
    simp [this])
theorem mem_switches {top : Nat} {s : List Nat} : s ∈ switches top ↔ ∃ u d, s = [u, d] ∧ d < u ∧ u ≤ top := by
  unfold switches
  simp only [List.mem_flatten, List.mem_map, List.mem_range]
  constructor
  · rintro ⟨l, ⟨u, hu, rfl⟩, hs⟩
    simp only [List.mem_map, List.mem_range] at hs
    obtain ⟨d, hd, rfl⟩ := hs
    exact ⟨u + 1, d, rfl, by omega, by omega⟩
  · rintro ⟨u, d, rfl, h1, h2⟩
    exact ⟨_, ⟨u - 1, by omega, rfl⟩, by
      simp only [List.mem_map, List.mem_range]
      exact ⟨d, by omega, by rw [show u - 1 + 1 = u by omega]⟩⟩
theorem heights_len (top : Nat) (m : List Nat) : (heights top m).length = top := by simp [heights]
theorem heights_get {top d : Nat} (m : List Nat) (h : d < top) : (heights top m)[d]? = some (height m d) := by simp [heights, h]
theorem code_inj : ∀ (as bs : List Nat) (c e : Nat), as.length = bs.length → (∀ x ∈ as, x < 8) → (∀ x ∈ bs, x < 8) → as.foldl (fun c h => 8 * c + h) c = bs.foldl (fun c h => 8 * c + h) e → c = e ∧ as = bs
  | [], [], c, e, _, _, _, h => ⟨h, rfl⟩
  | a :: as, b :: bs, c, e, hl, ha, hb, h => by
    obtain ⟨h1, h2⟩ := code_inj as bs (8 * c + a) (8 * e + b) (by simpa using hl) (fun x hx => ha x (by simp [hx])) (fun x hx => hb x (by simp [hx])) h
    have := ha a (by simp)
    have := hb b (by simp)
    exact ⟨by omega, by rw [h2, show a = b by omega]⟩
theorem closed_of {top : Nat} (h1 : 1 ≤ top) (h6 : top ≤ 6) : closed top = true ∧ back top = true := by
  rcases (show top = 1 ∨ top = 2 ∨ top = 3 ∨ top = 4 ∨ top = 5 ∨ top = 6 by omega) with rfl | rfl | rfl | rfl | rfl | rfl
  · exact ⟨closed1, back1⟩
  · exact ⟨closed2, back2⟩
  · exact ⟨closed3, back3⟩
  · exact ⟨closed4, back4⟩
  · exact ⟨closed5, back5⟩
  · exact ⟨closed6, back6⟩
structure Good (top : Nat) (a : List Nat) : Prop where
  mem : a ∈ msOf top
  back : memOf (heights top a) = a
  self : followed [] a = a
  small : ∀ x ∈ heights top a, x < 8
  lev : ∀ x ∈ a, x ≤ top
theorem good_of {top : Nat} (h1 : 1 ≤ top) (h6 : top ≤ 6) {a : List Nat} (h : a ∈ msOf top) : Good top a := by
  have q := (closed_of h1 h6).2
  unfold VM.back at q
  have q2 := List.all_eq_true.mp q a h
  simp only [Bool.and_eq_true, beq_iff_eq, List.all_eq_true, decide_eq_true_eq] at q2
  exact ⟨h, q2.1.1.1, q2.1.1.2, q2.1.2, q2.2⟩
theorem zip_small {f : Nat → Nat → Nat} (hf : ∀ a b, a < 8 → b < 8 → f a b < 8) : ∀ (as bs : List Nat), (∀ x ∈ as, x < 8) → (∀ x ∈ bs, x < 8) → ∀ x ∈ List.zipWith f as bs, x < 8
  | [], _, _, _, x, hx => by simp at hx
  | _ :: _, [], _, _, x, hx => by simp at hx
  | a :: as, b :: bs, ha, hb, x, hx => by
    simp only [List.zipWith_cons_cons, List.mem_cons] at hx
    rcases hx with rfl | hx
    · exact hf a b (ha a (by simp)) (hb b (by simp))
    · exact zip_small hf as bs (fun y hy => ha y (by simp [hy])) (fun y hy => hb y (by simp [hy])) x hx
theorem back_to {top : Nat} (h1 : 1 ≤ top) (h6 : top ≤ 6) {a b : List Nat} (ha : a ∈ msOf top) (hb : b ∈ msOf top) (f : Nat → Nat → Nat) (hf : ∀ a b, a < 8 → b < 8 → f a b < 8)
    (hc : code (List.zipWith f (heights top a) (heights top b)) ∈ ((msOf top).map (heights top)).map code) :
    memOf (List.zipWith f (heights top a) (heights top b)) ∈ msOf top ∧ heights top (memOf (List.zipWith f (heights top a) (heights top b))) = List.zipWith f (heights top a) (heights top b) := by
  simp only [List.mem_map] at hc
  obtain ⟨x, ⟨c, hcm, rfl⟩, e⟩ := hc
  have ga := good_of h1 h6 ha
  have gb := good_of h1 h6 hb
  have gc := good_of h1 h6 hcm
  have e2 := (code_inj _ _ 0 0 (by simp [heights_len]) gc.small (zip_small hf _ _ ga.small gb.small) e).2
  rw [← e2, gc.back]
  exact ⟨hcm, rfl⟩
theorem closed_at {top : Nat} (h1 : 1 ≤ top) (h6 : top ≤ 6) {a b : List Nat} (ha : a ∈ msOf top) (hb : b ∈ msOf top) :
    code (List.zipWith max (heights top a) (heights top b)) ∈ ((msOf top).map (heights top)).map code ∧ code (List.zipWith min (heights top a) (heights top b)) ∈ ((msOf top).map (heights top)).map code := by
  have q := (closed_of h1 h6).1
  have q2 : (((msOf top).map (heights top)).all fun a => ((msOf top).map (heights top)).all fun b => (((msOf top).map (heights top)).map code).contains (code (List.zipWith max a b)) && (((msOf top).map (heights top)).map code).contains (code (List.zipWith min a b))) = true := q
  have q3 := List.all_eq_true.mp q2 _ (List.mem_map_of_mem ha)
  have q4 := List.all_eq_true.mp q3 _ (List.mem_map_of_mem hb)
  simp only [Bool.and_eq_true, List.contains_iff_mem] at q4
  exact q4
def joinM (top : Nat) (a b : List Nat) : List Nat := memOf (List.zipWith max (heights top a) (heights top b))
def meetM (top : Nat) (a b : List Nat) : List Nat := memOf (List.zipWith min (heights top a) (heights top b))
theorem join_ok {top : Nat} (h1 : 1 ≤ top) (h6 : top ≤ 6) {a b : List Nat} (ha : a ∈ msOf top) (hb : b ∈ msOf top) : joinM top a b ∈ msOf top ∧ heights top (joinM top a b) = List.zipWith max (heights top a) (heights top b) :=
  back_to h1 h6 ha hb max (fun a b _ _ => by omega) (closed_at h1 h6 ha hb).1
theorem meet_ok {top : Nat} (h1 : 1 ≤ top) (h6 : top ≤ 6) {a b : List Nat} (ha : a ∈ msOf top) (hb : b ∈ msOf top) : meetM top a b ∈ msOf top ∧ heights top (meetM top a b) = List.zipWith min (heights top a) (heights top b) :=
  back_to h1 h6 ha hb min (fun a b _ _ => by omega) (closed_at h1 h6 ha hb).2
theorem zip_comm {f : Nat → Nat → Nat} (hf : ∀ a b, f a b = f b a) : ∀ (as bs : List Nat), List.zipWith f as bs = List.zipWith f bs as
  | [], [] => rfl
  | [], _ :: _ => rfl
  | _ :: _, [] => rfl
  | a :: as, b :: bs => by simp [hf a b, zip_comm hf as bs]
theorem zip_self {f : Nat → Nat → Nat} (hf : ∀ a, f a a = a) : ∀ (as : List Nat), List.zipWith f as as = as
  | [] => rfl
  | a :: as => by
    rw [List.zipWith_cons_cons, hf a, zip_self hf as]
theorem join_comm (top : Nat) (a b : List Nat) : joinM top a b = joinM top b a := by unfold joinM; rw [zip_comm (fun a b => Nat.max_comm a b)]
theorem meet_comm (top : Nat) (a b : List Nat) : meetM top a b = meetM top b a := by unfold meetM; rw [zip_comm (fun a b => Nat.min_comm a b)]
theorem join_self {top : Nat} {a : List Nat} (g : Good top a) : joinM top a a = a := by unfold joinM; rw [zip_self (fun a => Nat.max_self a), g.back]
theorem meet_self {top : Nat} {a : List Nat} (g : Good top a) : meetM top a a = a := by unfold meetM; rw [zip_self (fun a => Nat.min_self a), g.back]
theorem heights_nil (top : Nat) : heights top [] = List.replicate top 0 := by
  unfold heights
  rw [List.eq_replicate_iff]
  simp [height]
theorem zip_zero_max : ∀ (as : List Nat), List.zipWith max (List.replicate as.length 0) as = as
  | [] => rfl
  | a :: as => by simp [List.replicate_succ, zip_zero_max as]
theorem zip_zero_min : ∀ (as : List Nat), List.zipWith min as (List.replicate as.length 0) = List.replicate as.length 0
  | [] => rfl
  | a :: as => by simp [List.replicate_succ, zip_zero_min as]
theorem join_nil {top : Nat} {a : List Nat} (g : Good top a) : joinM top [] a = a := by
  unfold joinM
  have := zip_zero_max (heights top a)
  rw [heights_len] at this
  rw [heights_nil, this, g.back]
theorem nil_mem {top : Nat} (h1 : 1 ≤ top) (h6 : top ≤ 6) : ([] : List Nat) ∈ msOf top := by
  rcases (show top = 1 ∨ top = 2 ∨ top = 3 ∨ top = 4 ∨ top = 5 ∨ top = 6 by omega) with rfl | rfl | rfl | rfl | rfl | rfl <;> decide
theorem meet_nil {top : Nat} (h1 : 1 ≤ top) (h6 : top ≤ 6) (a : List Nat) : meetM top a [] = [] := by
  unfold meetM
  have := zip_zero_min (heights top a)
  rw [heights_len] at this
  rw [heights_nil, this, ← heights_nil]
  exact (good_of h1 h6 (nil_mem h1 h6)).back
theorem on_contains {top : Nat} {ls : List Nat} {u d : Nat} (hd : d < u) (hu : u ≤ top) : (on top ls).contains [u, d] = decide (u ≤ height ls d) := by
  rw [Bool.eq_iff_iff]
  simp only [List.contains_iff_mem, on, List.mem_filter, decide_eq_true_eq]
  constructor
  · rintro ⟨_, h⟩
    simpa [isOn_height hd] using h
  · intro h
    exact ⟨mem_switches.mpr ⟨u, d, rfl, hd, hu⟩, by simpa [isOn_height hd] using h⟩
theorem zip_get {f : Nat → Nat → Nat} {as bs : List Nat} {i x y : Nat} (ha : as[i]? = some x) (hb : bs[i]? = some y) : (List.zipWith f as bs)[i]? = some (f x y) := by
  rw [List.getElem?_zipWith, ha, hb]
theorem on_join {top : Nat} (h1 : 1 ≤ top) (h6 : top ≤ 6) {a b : List Nat} (ha : a ∈ msOf top) (hb : b ∈ msOf top) :
    on top (joinM top a b) = (switches top).filter fun s => (on top a).contains s || (on top b).contains s := by
  unfold on
  refine List.filter_congr fun s hs => ?_
  obtain ⟨u, d, rfl, hd, hu⟩ := mem_switches.mp hs
  show isOn u d _ = ((on top a).contains [u, d] || (on top b).contains [u, d])
  rw [on_contains hd hu, on_contains hd hu, isOn_height hd]
  have e := (join_ok h1 h6 ha hb).2
  have g := heights_get (joinM top a b) (show d < top by omega)
  rw [e, zip_get (heights_get a (by omega)) (heights_get b (by omega))] at g
  have g' := Option.some.inj g
  rw [← g']
  rw [Bool.eq_iff_iff]
  simp only [decide_eq_true_eq, Bool.or_eq_true]
  omega
theorem on_meet {top : Nat} (h1 : 1 ≤ top) (h6 : top ≤ 6) {a b : List Nat} (ha : a ∈ msOf top) (hb : b ∈ msOf top) :
    on top (meetM top a b) = (on top a).filter fun s => (on top b).contains s := by
  have q : (on top a).filter (fun s => (on top b).contains s) = (switches top).filter fun s => (on top b).contains s && isOn (s.getD 0 0) (s.getD 1 0) a := by
    unfold on
    rw [List.filter_filter]
  rw [q]
  unfold on
  refine List.filter_congr fun s hs => ?_
  obtain ⟨u, d, rfl, hd, hu⟩ := mem_switches.mp hs
  show isOn u d _ = ((on top b).contains [u, d] && isOn u d a)
  rw [on_contains hd hu, isOn_height hd, isOn_height hd]
  have e := (meet_ok h1 h6 ha hb).2
  have g := heights_get (meetM top a b) (show d < top by omega)
  rw [e, zip_get (heights_get a (by omega)) (heights_get b (by omega))] at g
  have g' := Option.some.inj g
  rw [← g']
  rw [Bool.eq_iff_iff]
  simp only [decide_eq_true_eq, Bool.and_eq_true]
  omega
end VM
namespace VM
/-! ### one more level: the memories are closed, and so are their heights -/
def steps (top : Nat) : Bool :=
  (msOf top).all fun m => (List.range (top + 1)).all fun l =>
    let n := moved m l
    (msOf top).contains n && (List.range top).all fun d => height n d == hstep d (height m d) l
theorem steps1 : steps 1 = true := by decide +kernel
theorem steps2 : steps 2 = true := by decide +kernel
theorem steps3 : steps 3 = true := by decide +kernel
theorem steps4 : steps 4 = true := by decide +kernel
theorem steps5 : steps 5 = true := by decide +kernel
theorem steps6 : steps 6 = true := by decide +kernel
theorem steps_of {top : Nat} (h1 : 1 ≤ top) (h6 : top ≤ 6) : steps top = true := by
  have : top = 1 ∨ top = 2 ∨ top = 3 ∨ top = 4 ∨ top = 5 ∨ top = 6 := by omega
  rcases this with rfl | rfl | rfl | rfl | rfl | rfl
  · exact steps1
  · exact steps2
  · exact steps3
  · exact steps4
  · exact steps5
  · exact steps6
theorem step_mem {top : Nat} (h1 : 1 ≤ top) (h6 : top ≤ 6) {m : List Nat} {l : Nat} (hm : m ∈ msOf top) (hl : l ≤ top) : moved m l ∈ msOf top ∧ ∀ d, d < top → height (moved m l) d = hstep d (height m d) l := by
  have h := steps_of h1 h6
  simp only [steps, List.all_eq_true, List.mem_range, Bool.and_eq_true, List.contains_iff_mem, beq_iff_eq] at h
  exact h m hm l (by omega)
theorem steps_mem {top : Nat} (h1 : 1 ≤ top) (h6 : top ≤ 6) : ∀ (ls m : List Nat), m ∈ msOf top → (∀ l ∈ ls, l ≤ top) → followed m ls ∈ msOf top ∧ ∀ d, d < top → height (followed m ls) d = ls.foldl (hstep d) (height m d)
  | [], m, hm, _ => ⟨hm, fun d _ => rfl⟩
  | l :: r, m, hm, hl => by
    obtain ⟨a, b⟩ := step_mem h1 h6 hm (hl l (by simp))
    obtain ⟨c, e⟩ := steps_mem h1 h6 r (moved m l) a (fun x hx => hl x (by simp [hx]))
    refine ⟨c, fun d hd => ?_⟩
    show height (followed (moved m l) r) d = r.foldl (hstep d) (hstep d (height m d) l)
    rw [e d hd, b d hd]
/-- the memory of a history -/
theorem fol_mem {top : Nat} (h1 : 1 ≤ top) (h6 : top ≤ 6) {ls : List Nat} (hl : ∀ l ∈ ls, l ≤ top) : followed [] ls ∈ msOf top ∧ ∀ d, d < top → height (followed [] ls) d = height ls d :=
  steps_mem h1 h6 ls [] (nil_mem h1 h6) hl
theorem fol_heights {top : Nat} (h1 : 1 ≤ top) (h6 : top ≤ 6) {ls : List Nat} (hl : ∀ l ∈ ls, l ≤ top) : heights top (followed [] ls) = heights top ls := by
  refine List.map_congr_left fun d hd => ?_
  exact (fol_mem h1 h6 hl).2 d (List.mem_range.mp hd)
/-- the switches that are on, by heights -/
def onH (top : Nat) (hs : List Nat) : List (List Nat) := (switches top).filter fun s => decide (s.getD 0 0 ≤ hs.getD (s.getD 1 0) 0)
theorem on_heights (top : Nat) (ls : List Nat) : onH top (heights top ls) = on top ls := by
  refine List.filter_congr fun s hs => ?_
  obtain ⟨u, d, rfl, h1, h2⟩ := mem_switches.mp hs
  show decide (u ≤ (heights top ls).getD d 0) = isOn u d ls
  rw [isOn_height h1, List.getD_eq_getElem?_getD, heights_get ls (by omega)]
  rfl
theorem on_fol {top : Nat} (h1 : 1 ≤ top) (h6 : top ≤ 6) {ls : List Nat} (hl : ∀ l ∈ ls, l ≤ top) : on top (followed [] ls) = on top ls := by
  rw [← on_heights, fol_heights h1 h6 hl, on_heights]
theorem mem_on {top : Nat} {ls : List Nat} {u d : Nat} : [u, d] ∈ on top ls ↔ d < u ∧ u ≤ top ∧ isOn u d ls = true := by
  simp only [on, List.mem_filter]
  constructor
  · rintro ⟨h, e⟩
    obtain ⟨u', d', h0, h1, h2⟩ := mem_switches.mp h
    injection h0 with h3 h4
    injection h4 with h5 _
    subst h3 h5
    exact ⟨h1, h2, e⟩
  · rintro ⟨a, b, c⟩
    exact ⟨mem_switches.mpr ⟨u, d, rfl, a, b⟩, c⟩
end VM
namespace VK
open PySem PySem.Spec PyProof.Rows L2

/-! ### raise C(), C an own exception class without an __init__ of its own -/
section
variable {X : Cx}
theorem pmk_own0 {C : Addr} {bmB : List Value} {B newId initId : String} {x : Str} {p pos : Pos} (F : ExcBaseFacts B newId initId bmB)
    (q : PySem.W.excIn X.K C bmB newId = true) (gC : X.mg x = some (.ref C)) (kC : PySem.W.keepIn X.K (.ref C) = true) (r : Raises X (.ref C)) (hg : Gl X x)
    (hdb : (x == ("__debug__" : Str)) = false := by decide) : PMk X (.Call (.Name x p) [] [] pos) (fun _ H Q => Q (.ref C) none H) := by
  intro pins s σ H Q I h
  refine wpAny_Call_Name_kw (ld_glob I hg gC ?_ hdb)
  refine PySem.W.callWith_K0 I.kIn kC ?_
  show wpAny _ _ (call (.ref C) []) _ _ _
  obtain ⟨bm, N, nm, qn, bs, hdct, sn, sub, ab, col, dd, k0, k1, k2, k3, k5, mN, hC, hN, hni, T⟩ := exc_obj I.kIn q
  exact wpAny_call_exc_subT F T hC hN hni (fun h' e hm => mk_of I hm r h (I.hok.gone hm.new)) (by show 0 ≤ sizeLine; exact Nat.zero_le _)
end

/-! ### the greatest and the least of a tuple of ints -/
section
variable {X : Cx}
theorem dp_ints {K : PySem.W.Frag} {H : Hp} : ∀ ns : List Int, DpAll K H (ns.map V.int) (ns.map PyData.int)
  | [] => .nil
  | n :: r => .cons (.int n) (dp_ints r)
theorem alike_intsAll (ns : List Int) : PySem.W.AlikeAll (ns.map PyData.int) := by
  refine ⟨fun x hx y hy => ?_, fun x hx e => ?_⟩
  · obtain ⟨i, _, rfl⟩ := List.mem_map.mp hx
    obtain ⟨j, _, rfl⟩ := List.mem_map.mp hy
    rfl
  · obtain ⟨i, _, rfl⟩ := List.mem_map.mp hx
    cases e
theorem reads_int {h : Heap} {v : Value} {m : Int} {bs : List Addr} (r : Reads h v (.int m) bs) : ∃ t, v = .int m t := by
  cases r
  exact ⟨_, rfl⟩
def rMaxT (K : PySem.W.Frag) : List V → Hp → VK → Prop := fun vs H Q => ∃ (a : Addr) (n : Int) (ns : List Int), vs = [V.ref a] ∧ SqT K H a ((n :: ns).map V.int) ∧ Q (.int (ns.foldl max n)) H
def rMinT (K : PySem.W.Frag) : List V → Hp → VK → Prop := fun vs H Q => ∃ (a : Addr) (n : Int) (ns : List Int), vs = [V.ref a] ∧ SqT K H a ((n :: ns).map V.int) ∧ Q (.int (ns.foldl min n)) H
theorem cr_maxT (hc : X.calm = true) (hu : X.A.units + 1 < cLine) : CallR X (.builtin "max") (rMaxT X.K) := by
  intro pins s σ H vs us Q I r h
  obtain ⟨a, n, ns, rfl, hs, q⟩ := h
  obtain ⟨its, rv, ht, _⟩ := I.tuple hs
  rw [Vals.ref1 r]
  obtain ⟨as, hr⟩ := Dp.readsAll I ((n :: ns).map PyData.int) _ its (dp_ints (n :: ns)) rv
  refine PySem.W.max_tuple_data (x := .int n) (xs := ns.map .int) (I.ok.hd hc) ht (by simpa using hr) (alike_intsAll (n :: ns)) (by rw [show PyData.depthAll (.int n :: ns.map .int) = 0 from PySem.W.depth_ints (n :: ns)]; exact hu) fun i v h' tk bs _ rd hk => ?_
  rw [PySem.W.maxD_ints] at rd
  obtain ⟨t, rfl⟩ := reads_int rd
  exact ⟨.int _, H, I.kept hk, ⟨_, rfl⟩, q⟩
theorem cr_minT (hc : X.calm = true) (hu : X.A.units + 1 < cLine) : CallR X (.builtin "min") (rMinT X.K) := by
  intro pins s σ H vs us Q I r h
  obtain ⟨a, n, ns, rfl, hs, q⟩ := h
  obtain ⟨its, rv, ht, _⟩ := I.tuple hs
  rw [Vals.ref1 r]
  obtain ⟨as, hr⟩ := Dp.readsAll I ((n :: ns).map PyData.int) _ its (dp_ints (n :: ns)) rv
  refine PySem.W.min_tuple_data (x := .int n) (xs := ns.map .int) (I.ok.hd hc) ht (by simpa using hr) (alike_intsAll (n :: ns)) (by rw [show PyData.depthAll (.int n :: ns.map .int) = 0 from PySem.W.depth_ints (n :: ns)]; exact hu) fun i v h' tk bs _ rd hk => ?_
  rw [PySem.W.minD_ints] at rd
  obtain ⟨t, rfl⟩ := reads_int rd
  exact ⟨.int _, H, I.kept hk, ⟨_, rfl⟩, q⟩
end
end VK
namespace VK
open PySem PySem.Spec PyProof.Rows L2
section
variable {X : Cx}
/-! ### sorted of a list of alike data -/
abbrev srt (xs : List V) (ds : List PyData) : List (V × PyData) := (xs.zip ds).mergeSort (PySem.W.dataLe false Prod.snd)
def rSortD (K : PySem.W.Frag) : List V → Hp → VK → Prop := fun vs H Q => ∃ (a : Addr) (xs : List V) (ds : List PyData), vs = [V.ref a] ∧ SqL K H a xs ∧ DpAll K H xs ds ∧ PySem.W.AllAlike ds ∧ PySem.W.Sortable ds ∧
  (∀ d ∈ ds, d.depth ≤ 60) ∧ ∀ p, H p = none → Q (.ref p) (upd H p (.lst ((srt xs ds).map Prod.fst)))
theorem dpAll_len {K : PySem.W.Frag} {H : Hp} : ∀ {xs : List V} {ds : List PyData}, DpAll K H xs ds → xs.length = ds.length
  | _, _, .nil => rfl
  | _, _, .cons _ t => congrArg (· + 1) (dpAll_len t)
theorem each_of {R : Value → V × PyData → Prop} : ∀ {xs : List V} {ds : List PyData} {us : List Value}, xs.length = ds.length → Vals xs us → (∀ v x d, RelV x v → (x, d) ∈ xs.zip ds → R v (x, d)) → PySem.W.EachIs R us (xs.zip ds)
  | [], [], _, _, .nil, _ => .nil
  | x :: xs, d :: ds, _, hl, .cons r t, f => .cons (f _ _ _ r (by simp)) (each_of (by simpa using hl) t fun v y e ry hm => f v y e ry (by simp [hm]))
theorem dp_zip {K : PySem.W.Frag} {H : Hp} : ∀ {xs : List V} {ds : List PyData}, DpAll K H xs ds → ∀ x d, (x, d) ∈ xs.zip ds → Dp K H x d
  | _, _, .nil, x, d, hm => by simp at hm
  | _, _, .cons h t, x, d, hm => by
    simp only [List.zip_cons_cons, List.mem_cons, Prod.mk.injEq] at hm
    rcases hm with ⟨rfl, rfl⟩ | hm
    · exact h
    · exact dp_zip t x d hm
theorem vals_of_each : ∀ {us : List Value} {bs : List (V × PyData)}, PySem.W.EachIs (fun v b => RelV b.1 v) us bs → Vals (bs.map Prod.fst) us
  | _, _, .nil => .nil
  | _, _, .cons r t => .cons r (vals_of_each t)
theorem snd_zip : ∀ {xs : List V} {ds : List PyData}, xs.length = ds.length → (xs.zip ds).map Prod.snd = ds
  | [], [], _ => rfl
  | x :: xs, d :: ds, h => by simp [snd_zip (xs := xs) (ds := ds) (by simpa using h)]
theorem cr_sortD (hu : X.A.units + 64 < cLine) : CallR X (.builtin "sorted") (rSortD X.K) := by
  intro pins s σ H vs us Q I r h
  obtain ⟨a, xs, ds, rfl, hs, hd, ha, hk, hdep, q⟩ := h
  obtain ⟨its, rv, hl, hz⟩ := I.list hs
  rw [Vals.ref1 r]
  have len := dpAll_len hd
  have e := snd_zip len
  refine PySem.W.sorted_data (R := fun v b => RelV b.1 v) (bs := xs.zip ds) (enc := Prod.snd) hl.isList (each_of len rv fun v x d h1 _ => h1) (each_of len rv fun v x d h1 h2 => Dp.reads I d x v (dp_zip hd x d h2) h1)
    (by rw [e]; exact ha) (by rw [e]; exact hk) (by rw [List.length_zip, len]; simpa [← len] using hz) (fun b hb => ?_) fun out h1 h2 => ?_
  · have : b.2 ∈ ds := by rw [← e]; exact List.mem_map_of_mem hb
    have := hdep _ this
    omega
  · obtain ⟨ep, he⟩ := PyProof.Rows.sortedAll_at s.heap its (List.toArray out)
    have v2 := vals_of_each h2
    have hsz : ((srt xs ds).map Prod.fst).length ≤ sizeLine := by
      rw [List.length_map, List.length_mergeSort, List.length_zip, len]; simpa [← len] using hz
    exact ⟨.ref _, upd H (s.heap.objs.size + 1) (.lst ((srt xs ds).map Prod.fst)), I.laid (t' := s.toks) (fun _ _ => PyProof.Rows.sortedAll_old) (Nat.le_succ _)
      ⟨hsz, out, ep, v2, he⟩, rfl, q _ (I.hok.fresh (Nat.le_succ _))⟩
end
end VK
namespace VK
open PySem PySem.Spec PyProof.Rows L2
/-! ### enumerate(t), t a tuple -/
set_option maxHeartbeats 4000000 in
theorem enumB {v : Value} {o : Obj} {G : Heap → Prop} (B : Begins v o G) :
    Meets (Builtin.«enumerate.__new__» ⟨[.type "enumerate", v], []⟩) (fun _ R s => G s.heap ∧
      R (.ok (.ret (.ref (s.heap.push o).objs.size))) { s with heap := (s.heap.push o).push { cls := .type "enumerate", data := .fields #[.none, .bool false, .ref s.heap.objs.size, rawInt 0, .none, .none] } }) :=
  .of_wp fun prog w A R s hh => by
    obtain ⟨hp, g, dr, tok, os⟩ := s
    obtain ⟨hg, hr⟩ := hh
    have su := sub_enumerate
    have st : ∀ {A' : Around} {E : Value → Shared → Prop} {Q : Value → Shared → Prop}, Q (.ref hp.objs.size) ⟨hp.push o, g, dr, tok, os⟩ → wpAny (model prog w) A' (pyIter v) Q E ⟨hp, g, dr, tok, os⟩ :=
      fun z => B.iter prog w _ _ ⟨hp, g, dr, tok, os⟩ _ hg z
    wp_walk using st
    refine wpAny_stack_any fun sk => wpAny_pure ?_
    split
    · rename_i c _ _ _ _ _
      cases (c == Value.type "enumerate") <;> (wp_walk using st; exact ⟨_, rfl, hr⟩)
    · wp_walk using st
      exact ⟨_, rfl, hr⟩
section
variable {prog : Program} {w : World} {A : Around} {E : Value → Shared → Prop} {s : Shared}
theorem enum1 {v : Value} {o : Obj} {G : Heap → Prop} {Q : Value → Shared → Prop} (B : Begins v o G) (hg : G s.heap)
    (k : ∀ h', IsEnum h' (s.heap.objs.size + 1) s.heap.objs.size 0 .none → h'.get? s.heap.objs.size = some o →
      (∀ b u, s.heap.get? b = some u → h'.get? b = some u) → Q (.ref (s.heap.objs.size + 1)) { s with heap := h' }) :
    wpAny (model prog w) A (call (.type "enumerate") [v]) Q E s := by
  refine callType_new F.called_enumerate (by decide) (F.typeCall_enumerate_1 _) (F.newCall_enumerate_1 _) (fun x => F.args_object_init_2 x _) F.entry_enumerate_new (enumB B) ⟨hg, ?_⟩
  have z1 : (s.heap.push o).objs.size = s.heap.objs.size + 1 := Heap.size_push ..
  have z2 := Heap.get?_push_size (s.heap.push o) (o := { cls := .type "enumerate", data := .fields #[.none, .bool false, .ref s.heap.objs.size, rawInt 0, .none, .none] }) rfl
  show _ ∧ _
  rw [z1]
  rw [z1] at z2
  exact ⟨⟨_, z2, rfl⟩, k _ z2 (Heap.get?_push_of_some _ (Heap.get?_push_size _ B.free)) fun b u x => Heap.get?_push_of_some _ (Heap.get?_push_of_some _ x)⟩
end
/-- the tuple at a, each item in a new pair -/
def IteT (K : PySem.W.Frag) (a : Addr) : It :=
  ⟨fun i H => ∃ (xs : List V) (x : V), SqT K H a xs ∧ xs[i]? = some x,
   fun i H v H' => ∃ T x, v = .ref T ∧ H T = none ∧ H' = upd H T (.tup [.int (i : Nat), x]) ∧ ∀ xs, SqT K H a xs → xs[i]? = some x,
   fun i H => ∃ xs : List V, SqT K H a xs ∧ xs.length = i⟩
theorem turn_enumT {P : Program} {w : World} {K : PySem.W.Frag} {elts : List Expr} {kk : Nat} {tpos : Pos} (a e it : Addr) :
    Turn P w K (.Tuple elts kk tpos) (IteT K a) [e, it] e (fun i h => (∃ old, IsEnum h e it ((i : Nat) : Int) old) ∧ h.IsTupleIter it a i ∧ e ≠ it ∧ a ≠ it ∧ a ≠ e) where
  mem := by simp
  obj := fun i h st b hb => by
    obtain ⟨⟨old, he⟩, ⟨o, ho, hc, hd⟩, _⟩ := st
    simp only [List.mem_cons, List.not_mem_nil, or_false] at hb
    rcases hb with rfl | rfl
    · exact ⟨_, he, fun v q => nomatch q⟩
    · exact ⟨o, ho, fun v q => by rw [hd] at q; cases q⟩
  keep := fun i h h' st k => by
    obtain ⟨⟨old, he⟩, hi, hne⟩ := st
    exact ⟨⟨old, k e (by simp) _ he⟩, hi.at fun o q => k it (by simp) o q, hne⟩
  item := by
    intro X hP hw hK hc i pins s σ H E I hf st hg
    subst hP hw hK
    obtain ⟨⟨old, he⟩, hit, hne, ha1, ha2⟩ := st
    obtain ⟨xs, x, hq, hx⟩ := hg
    obtain ⟨its, rv, p, hz⟩ := I.tuple hq
    obtain ⟨u, hu, ru⟩ := rv.get hx
    have le : e < s.heap.objs.size := Heap.lt_size he
    have li : it < s.heap.objs.size := by obtain ⟨_, q, _⟩ := hit; exact Heap.lt_size q
    have hlt : i < its.toArray.size := by
      have := (List.getElem?_eq_some_iff.mp hu).1
      simpa using this
    refine wpAny_pyNext_enum_itemC (Draws.tuple (A := X.A.in1) (I.ok.hd hc) it a ha1 its.toArray) he ⟨hit, p⟩ hlt hne (by simp [hne, Ne.symm ha2]) fun y h' tk hP ho st' hT hsz hk => ?_
    have ey : y = u := by
      have h1 : its[i]? = some y := by simpa using hP
      rw [hu] at h1
      exact (Option.some.inj h1).symm
    subst ey
    refine ⟨_, rfl, wpAny_letOwnedTupleGo_enum (s := { s with heap := h', toks := tk + 1 }) ho fun h'' he' sb => ?_⟩
    have hT2 : h''.get? s.heap.objs.size = some { cls := .type "tuple", data := .seq #[.int i tk, y] } := (sb.2 _ (Nat.ne_of_gt le)).trans hT
    have new : ObjOk X.prog X.w (upd H s.heap.objs.size (.tup [.int (i : Nat), x])) h'' s.heap.objs.size (.tup [.int (i : Nat), x]) :=
      ⟨by show 2 ≤ sizeLine; decide, [.int i tk, y], .cons ⟨_, rfl⟩ (.cons ru .nil), ⟨_, hT2, rfl, _, rfl⟩⟩
    have I1 : Inv X pins σ (upd H s.heap.objs.size (.tup [.int (i : Nat), x])) { s with heap := h'', toks := tk + 1 } :=
      I.turnedNew (ch := [e, it]) (fun b ob hb q => by
        simp only [List.mem_cons, List.not_mem_nil, or_false, not_or] at hb
        exact (sb.2 b hb.1).trans (hk b ob hb.1 hb.2 q)) hf (Nat.le_refl _) new
    refine ⟨.ref s.heap.objs.size, _, I1, rfl, ⟨_, x, rfl, I.hok.fresh (Nat.le_refl _), rfl, fun ys hy => by rw [I.tuple_inj hy hq]; exact hx⟩, ⟨⟨y, ?_⟩, st'.1.at fun o q => (sb.2 it (Ne.symm hne)).trans q, hne, ha1, ha2⟩, fun b hb => ?_⟩
    · have e1 : ((i + 1 : Nat) : Int) = (i : Int) + 1 := by omega
      rw [e1]
      exact he'
    · have hb' : b < s.heap.objs.size := by
        simp only [List.mem_cons, List.not_mem_nil, or_false] at hb
        rcases hb with rfl | rfl
        · exact le
        · exact li
      rw [upd_ne (Nat.ne_of_lt hb')]
      exact (hf b hb).1
  done := by
    intro X hP hw hK hc i pins s σ H E I hf st hg
    subst hP hw hK
    obtain ⟨⟨old, he⟩, hit, hne, ha1, ha2⟩ := st
    obtain ⟨xs, hq, hx⟩ := hg
    obtain ⟨its, rv, p, hz⟩ := I.tuple hq
    subst hx
    have sz : its.toArray.size = xs.length := by rw [rv.length]; simp
    have fin : s.heap.IsTupleIter it a its.toArray.size ∧ s.heap.IsTuple a its.toArray := ⟨by rw [sz]; exact hit, p⟩
    refine wpAny_pyNext_enum_endD (Draws.tuple (A := X.A.in1) (I.ok.hd hc) it a ha1 its.toArray) he fin fun h' eb => ⟨rfl, ?_⟩
    obtain ⟨f0, f1, f2, f3, f4, f5⟩ := hf it (by simp)
    exact I.turned (t' := s.toks) (fun b o hb q => eb b o hb q) f0 f1 f3 f4 f5
  self := fun A i s Q E st h => let ⟨⟨_, he⟩, _⟩ := st; wpAny_pyIter_enum he h

def iEnumT (K : PySem.W.Frag) (ta : TA) : TI := fun σ H R => ta σ H fun vs H1 => ∃ a xs, vs = [.ref a] ∧ SqT K H1 a xs ∧ R (IteT K a) H1
theorem pi_enumT {X : Cx} {e : Expr} {ta : TA} {p pos tpos : Pos} {elts : List Expr} {kk : Nat} (hg : Gl X "enumerate") (hm : X.mg "enumerate" = none) (ha : PA X [e] ta)
    (hs : starEach [e] X.env = [(false, eval e X.env)] := by rfl) : PI X (.Tuple elts kk tpos) (.Call (.Name "enumerate" p) [e] [] pos) (iEnumT X.K ta) := by
  refine ⟨fun pins s σ H R I h => ?_⟩
  refine Call_ (ld_blt I hg hm boot_enumerate (PyProof.Rows.callWith_type1 (thn (ha.run pos pins s σ H _ I h) fun us s1 ⟨vs, G, J, r1, q1⟩ => ?_) hs rfl))
  obtain ⟨a, xs, ex, hq, q⟩ := q1
  subst ex
  rw [Vals.ref1 r1]
  obtain ⟨its, rv, p', hz⟩ := J.tuple hq
  have la : a < s1.heap.objs.size := by obtain ⟨o, ho, _⟩ := p'; exact Heap.lt_size ho
  refine enum1 (begins_tuple a its.toArray) p' fun h' he hit hk => wpAny_pyIter_enum he ?_
  have J2 : Inv X pins σ G { s1 with heap := h' } := J.kept (t' := s1.toks) hk
  refine ⟨s1.heap.objs.size + 1, [s1.heap.objs.size + 1, s1.heap.objs.size], _, _, G, rfl, J2, turn_enumT a (s1.heap.objs.size + 1) s1.heap.objs.size,
    ⟨⟨.none, he⟩, ⟨_, hit, rfl, rfl⟩, Nat.succ_ne_self _, Nat.ne_of_lt la, Nat.ne_of_lt (Nat.lt_succ_of_lt la)⟩, fun b hb => ?_, q⟩
  have hle : s1.heap.objs.size ≤ b := by
    simp only [List.mem_cons, List.not_mem_nil, or_false] at hb
    rcases hb with rfl | rfl <;> omega
  exact J.fpOk hle (J.hok.fresh hle)
/-- a loop over enumerate of a tuple -/
theorem for_enumT {K : PySem.W.Frag} {a : Addr} {xs : List V} {g : TG} {tb : TS} {D : Ends} {σ : L2.St} {H : Hp} (Pv : Nat → L2.St → Hp → Prop) (h0 : Pv 0 σ H) (hq : ∀ i σ H, Pv i σ H → SqT K H a xs)
    (hs : ∀ (i : Nat) (x : V) (T : Addr) (σ : L2.St) (H : Hp), xs[i]? = some x → Pv i σ H → H T = none → g (.ref T) σ (upd H T (.tup [.int (i : Nat), x])) fun σ2 H2 => tb { D with nx := Pv (i + 1), ct := Pv (i + 1), bk := D.nx } σ2 H2)
    (hd : ∀ σ H, Pv xs.length σ H → D.nx σ H) :
    ∃ W : Nat → Nat → L2.St → Hp → Prop, (∃ m, W 0 m σ H) ∧ ∀ i m σ H, W i m σ H →
      ((IteT K a).stop i H ∧ D.nx σ H) ∨ ((IteT K a).go i H ∧ ∃ N : L2.St → Hp → Prop, (∀ σ' H', N σ' H' → ∃ m', m' < m ∧ W (i + 1) m' σ' H') ∧ ∀ v H', (IteT K a).yld i H v H' → g v σ H' fun σ2 H2 => tb { D with nx := N, ct := N, bk := D.nx } σ2 H2) := by
  refine ⟨fun i m σ H => m = xs.length - i ∧ i ≤ xs.length ∧ Pv i σ H, ⟨xs.length, rfl, Nat.zero_le _, h0⟩, ?_⟩
  rintro i m σ H ⟨rfl, hi, p⟩
  have qx := hq i σ H p
  by_cases lt : i < xs.length
  · refine .inr ⟨⟨xs, _, qx, List.getElem?_eq_getElem lt⟩, Pv (i + 1), fun σ' H' p' => ⟨xs.length - (i + 1), by omega, rfl, lt, p'⟩, fun v H' y => ?_⟩
    obtain ⟨T, x', rfl, hT, rfl, f⟩ := y
    exact hs i x' T σ H (f xs qx) p hT
  · have e : xs.length = i := by omega
    exact .inl ⟨⟨xs, qx, e⟩, hd σ H (by rw [e]; exact p)⟩
end VK
namespace VK
open PySem PySem.Spec PyProof.Rows L2
/-! ### zip(xs, ys) walked by one name: the pair that was handed out last may be alive or not -/
section
variable {prog : Program} {w : World} {A : Around} {E : Value → Shared → Prop} {s : Shared}
theorem dead_free {z TI TO T : Addr} {f : Bool} {Q : Bool → Shared → Prop} (hz : IsZipHeld s.heap z TI TO T f) (hT : s.heap.get? T = none) (h : Q true s) :
    wpAny (model prog w) A (Builtin.SmallTypes.ownedTupleIsFree (.ref z)) Q E s := by
  unfold Builtin.SmallTypes.ownedTupleIsFree
  refine wpAny_bind (wpAny_field hz rfl (x := rawInt T) rfl ?_)
  show wpAny _ _ (loadIfAlive ((T : Int).toNat) >>= _) _ _ _
  rw [Int.toNat_natCast]
  refine wpAny_bind ?_
  have step : wpAny (model prog w) A (loadIfAlive T) (fun r s' => r = none ∧ s' = s) E s := by
    have q : (s.heap.get? T = none ∧ s = s) := ⟨hT, rfl⟩
    exact fun _ _ _ => q
  refine wpAny_mono step (fun r s' hr => ?_) fun _ _ y => y
  obtain ⟨rfl, rfl⟩ := hr
  simp only [Option.isNone_none, if_true]
  exact wpAny_pure h
abbrev ZipF (h : Heap) (z TI TO : Addr) (v : Value) (f : Bool) : Prop :=
  h.get? z = some { cls := .type "zip", dict := none, data := .fields #[v, .bool f, .bool false, .ref TI, .ref TO], slots := #[] }
/-- the heap of a zip whose last pair is gone -/
structure Gone (h : Heap) (z TI TO T : Addr) (f : Bool) (i1 i2 l1 l2 : Addr) (k : Nat) (xs ys : Array Value) : Prop where
  ap : ZipApart z TI TO i1 i2 l1 l2
  hz : IsZipHeld h z TI TO T f
  no : h.get? T = none
  ti : IsPair h TI (.ref i1) (.ref i2)
  to : ∃ a b, IsPair h TO a b
  n1 : h.IsListIter i1 l1 k
  n2 : h.IsListIter i2 l2 k
  g1 : h.IsList l1 xs
  g2 : h.IsList l2 ys
theorem gone_item {z TI TO T i1 i2 l1 l2 : Addr} {f : Bool} {k : Nat} {xs ys : Array Value} {x y : Value} {Q : Value → Shared → Prop} (G : Gone s.heap z TI TO T f i1 i2 l1 l2 k xs ys) (hx : xs[k]? = some x) (hy : ys[k]? = some y)
    (q : ∀ h', IsZip h' z TI TO (rawInt s.heap.objs.size) → IsPair h' TO x y → h'.IsListIter i1 l1 (k + 1) → h'.IsListIter i2 l2 (k + 1) → IsPair h' s.heap.objs.size x y →
      (∀ c o, c ≠ z → c ≠ TO → c ≠ i1 → c ≠ i2 → s.heap.get? c = some o → h'.get? c = some o) → Q (.ref s.heap.objs.size) { s with heap := h' }) :
    wpAny (model prog w) A (Builtin.«zip.__next__» ⟨[.ref z], []⟩) (fun fin s' => ∃ v, fin = .done (.ret v) ∧ Q v s') E s := by
  obtain ⟨D, hz, no, hTI, ⟨a, b, hTO⟩, h1, h2, hl1, hl2⟩ := G
  show wpAny _ _ (field (.ref z) 2 >>= _) _ _ _
  refine wpAny_bind (wpAny_field hz rfl (x := .bool false) rfl ?_); show wpAny _ _ (field (.ref z) 3 >>= _) _ _ _
  refine wpAny_bind (wpAny_field hz rfl (x := .ref TI) rfl (wpAny_bind (wpAny_seqItems hTI rfl ?_)))
  show wpAny _ _ (Builtin.SmallTypes.ownedTupleIsFree (.ref z) >>= _) _ _ _
  refine wpAny_bind (dead_free hz no ?_); simp only [if_true]
  refine wpAny_bind (wpAny_rule (wpAny_bind (wpAny_field hz rfl (x := .ref TO) rfl (wpAny_bind (wpAny_setField_rec hz (by simp) fun g1 hz1 b1 => ?_)))))
  replace hz1 : ZipF g1 z TI TO .ellipsis f := hz1
  refine wpAny_bind ?_; simp only [List.zipIdx_cons, List.zipIdx_nil, List.forIn_cons, List.forIn_nil]
  refine wpAny_bind (wpAny_bind (wpAny_onRaise ?_)); show wpAny _ _ (Builtin.SmallTypes.nextOf (.ref i1) >>= _) _ _ _
  refine wpAny_bind (wpAny_nextOf_list_item (h1.extBut b1.extBut D.i1z) (hl1.extBut b1.extBut D.l1z) hx fun g2 n2 b2 => wpAny_pure ?_)
  replace b2 : Heap.SameBut i1 g1 g2 := b2
  have to2 : IsPair g2 TO a b := b2.extBut _ _ D.TOi1 (b1.extBut _ _ D.TOz hTO)
  refine wpAny_bind (wpAny_seqItems to2 rfl (wpAny_bind (wpAny_updateSeq_pair to2 fun g3 to3 b3 => wpAny_bind (wpAny_letGo (wpAny_pure ?_)))))
  replace to3 : IsPair g3 TO x b := to3
  replace b3 : Heap.SameBut TO g2 g3 := b3
  refine wpAny_bind (wpAny_bind (wpAny_onRaise ?_)); show wpAny _ _ (Builtin.SmallTypes.nextOf (.ref i2) >>= _) _ _ _
  have m2 : g3.IsListIter i2 l2 k := ((h2.extBut b1.extBut D.i2z).extBut b2.extBut D.i12.symm).extBut b3.extBut D.TOi2.symm
  have ml : g3.IsList l2 ys := ((hl2.extBut b1.extBut D.l2z).extBut b2.extBut D.l2i1).extBut b3.extBut D.l2TO
  refine wpAny_bind (wpAny_nextOf_list_item m2 ml hy fun g4 n4 b4 => wpAny_pure ?_)
  replace b4 : Heap.SameBut i2 g3 g4 := b4
  have to4 : IsPair g4 TO x b := b4.extBut _ _ D.TOi2 to3
  refine wpAny_bind (wpAny_seqItems to4 rfl (wpAny_bind (wpAny_updateSeq_pair to4 fun g5 to5 b5 => wpAny_bind (wpAny_letGo (wpAny_pure (wpAny_pure ?_))))))
  replace to5 : IsPair g5 TO x y := to5
  replace b5 : Heap.SameBut TO g4 g5 := b5
  refine wpAny_bind (wpAny_seqItems to5 rfl (wpAny_bind (wpAny_newTuple ?_)))
  have sz : g5.objs.size = s.heap.objs.size := b5.1.trans (b4.1.trans (b3.1.trans (b2.1.trans b1.1)))
  have keep5 : ∀ c o, c ≠ z → c ≠ TO → c ≠ i1 → c ≠ i2 → s.heap.get? c = some o → g5.get? c = some o := fun c o c1 c2 c3 c4 e =>
    b5.extBut c o c2 (b4.extBut c o c4 (b3.extBut c o c2 (b2.extBut c o c3 (b1.extBut c o c1 e))))
  have hz5 : ZipF g5 z TI TO .ellipsis f := b5.extBut _ _ D.TOz.symm (b4.extBut _ _ D.i2z.symm (b3.extBut _ _ D.TOz.symm (b2.extBut _ _ D.i1z.symm hz1)))
  have n15 : g5.IsListIter i1 l1 (k + 1) := ((n2.extBut b3.extBut D.TOi1.symm).extBut b4.extBut D.i12).extBut b5.extBut D.TOi1.symm
  have n25 : g5.IsListIter i2 l2 (k + 1) := n4.extBut b5.extBut D.TOi2.symm
  have lz : z < g5.objs.size := Heap.lt_size hz5
  show wpAny _ _ (Builtin.SmallTypes.ownedTupleHandOut (.ref z) (.ref g5.objs.size) >>= _) _ _ _
  refine wpAny_bind ?_; unfold Builtin.SmallTypes.ownedTupleHandOut
  have hz6 : ZipF (g5.push { cls := .type "tuple", data := .seq #[x, y] }) z TI TO .ellipsis f := Heap.get?_push_of_some _ hz5
  refine wpAny_bind (wpAny_setField_rec hz6 (by simp) fun g7 hz7 b7 => ?_)
  replace hz7 : ZipF g7 z TI TO (rawInt g5.objs.size) f := hz7
  refine wpAny_setField_rec hz7 (by simp) fun g8 hz8 b8 => wpAny_pure ⟨_, rfl, ?_⟩
  replace hz8 : IsZip g8 z TI TO (rawInt g5.objs.size) := hz8
  have up : ∀ c o, c ≠ z → g5.get? c = some o → g8.get? c = some o := fun c o c1 e => b8.extBut _ _ c1 (b7.extBut _ _ c1 (Heap.get?_push_of_some _ e))
  have np : IsPair g8 g5.objs.size x y := b8.extBut _ _ (Nat.ne_of_gt lz) (b7.extBut _ _ (Nat.ne_of_gt lz) (Heap.get?_push_size _ rfl))
  show Q (.ref g5.objs.size) _
  rw [sz] at hz8 np ⊢
  exact q g8 hz8 (up _ _ D.TOz to5) (n15.at fun o e => up _ o D.i1z e) (n25.at fun o e => up _ o D.i2z e) np fun c o c1 c2 c3 c4 e => up c o c1 (keep5 c o c1 c2 c3 c4 e)
theorem gone_end {z TI TO T i1 i2 l1 l2 : Addr} {f : Bool} {k : Nat} {xs ys : Array Value} {Q : Fin → Shared → Prop} (hh : A.handled = none) (G : Gone s.heap z TI TO T f i1 i2 l1 l2 k xs ys) (he : xs[k]? = none)
    (q : ∀ h' e, (∀ c o, c ≠ z → c ≠ TO → c ≠ i1 → c ≠ i2 → s.heap.get? c = some o → h'.get? c = some o) → (∃ o, h'.get? e = some o ∧ o.cls = .type "StopIteration") → E (.ref e) { s with heap := h' }) :
    wpAny (model prog w) A (Builtin.«zip.__next__» ⟨[.ref z], []⟩) Q E s := by
  obtain ⟨D, hz, no, hTI, ⟨a, b, hTO⟩, h1, h2, hl1, hl2⟩ := G
  show wpAny _ _ (field (.ref z) 2 >>= _) _ _ _
  refine wpAny_bind (wpAny_field hz rfl (x := .bool false) rfl ?_); show wpAny _ _ (field (.ref z) 3 >>= _) _ _ _
  refine wpAny_bind (wpAny_field hz rfl (x := .ref TI) rfl (wpAny_bind (wpAny_seqItems hTI rfl ?_)))
  show wpAny _ _ (Builtin.SmallTypes.ownedTupleIsFree (.ref z) >>= _) _ _ _
  refine wpAny_bind (dead_free hz no ?_); simp only [if_true]
  refine wpAny_bind (wpAny_rule (wpAny_bind (wpAny_field hz rfl (x := .ref TO) rfl (wpAny_bind (wpAny_setField_rec hz (by simp) fun g1 hz1 b1 => ?_)))))
  replace hz1 : ZipF g1 z TI TO .ellipsis f := hz1
  refine wpAny_bind ?_; simp only [List.zipIdx_cons, List.zipIdx_nil, List.forIn_cons, List.forIn_nil]
  refine wpAny_bind (wpAny_bind (wpAny_onRaise ?_)); show wpAny _ _ (Builtin.SmallTypes.nextOf (.ref i1) >>= _) _ _ _
  refine wpAny_bind (wpAny_nextOf_list_end hh (h1.extBut b1.extBut D.i1z) (hl1.extBut b1.extBut D.l1z) he fun g2 e b2 hs => ?_)
  obtain ⟨oe, hoe, hce⟩ := hs
  have hz2 : ZipF g2 z TI TO .ellipsis f := b2 _ _ D.i1z.symm hz1
  have ez : e ≠ z := fun y => by subst y; rw [hz2] at hoe; cases hoe; simp at hce
  exact wpAny_setField_rec hz2 (by simp) fun g3 _ b3 => q g3 e (fun c o c1 _ c3 _ y => b3.extBut _ _ c1 (b2 _ _ c3 (b1.extBut _ _ c1 y))) ⟨oe, b3.extBut _ _ ez hoe, hce⟩
end
end VK
namespace VK
open PySem PySem.Spec PyProof.Rows L2
def ItzN (K : PySem.W.Frag) (a b : Addr) : It :=
  ⟨fun i H => ∃ (xs ys : List V), SqL K H a xs ∧ SqL K H b ys ∧ xs.length = ys.length ∧ i < xs.length,
   fun i H v H' => ∃ T x y, v = .ref T ∧ H T = none ∧ H' = upd H T (.tup [x, y]) ∧ (∀ xs, SqL K H a xs → xs[i]? = some x) ∧ ∀ ys, SqL K H b ys → ys[i]? = some y,
   fun i H => ∃ xs ys : List V, SqL K H a xs ∧ SqL K H b ys ∧ xs.length ≤ i⟩
theorem name_go {M : Model} {A : Around} {E : Value → Shared → Prop} {s : Shared} {x : Str} {p : Pos} {it v : Value} {Q : Unit → Shared → Prop} (h : Q () s) : wpAny M A (letOwnedTupleGo (.Name x p) it v) Q E s := by
  unfold letOwnedTupleGo
  exact wpAny_pure h
def ZSt (z TI TO : Addr) (h : Heap) : Prop := IsZip h z TI TO .none ∨ ∃ T f, IsZipHeld h z TI TO T f
theorem pyNext_gone_item {prog : Program} {w : World} {A : Around} {E : Value → Shared → Prop} {s : Shared} {z TI TO T i1 i2 l1 l2 : Addr} {f : Bool} {k : Nat} {xs ys : Array Value} {x y : Value} {Q : Option Value → Shared → Prop} (G : Gone s.heap z TI TO T f i1 i2 l1 l2 k xs ys) (hx : xs[k]? = some x) (hy : ys[k]? = some y)
    (q : ∀ h', IsZip h' z TI TO (rawInt s.heap.objs.size) → IsPair h' TO x y → h'.IsListIter i1 l1 (k + 1) → h'.IsListIter i2 l2 (k + 1) → IsPair h' s.heap.objs.size x y →
      (∀ c o, c ≠ z → c ≠ TO → c ≠ i1 → c ≠ i2 → s.heap.get? c = some o → h'.get? c = some o) → Q (some (.ref s.heap.objs.size)) { s with heap := h' }) :
    wpAny (model prog w) A (pyNext (.ref z)) Q E s := by
  have ty : s.TypeIs (.ref z) "zip" := ⟨_, G.hz, rfl⟩
  unfold pyNext
  refine wpAny_bind (wpAny_attempt (wpAny_callSpecial?_slot (name := Str.ofString "__next__") ty F.slot_zip_next (wpAny_call_entry F.slot_zip_next ty F.entry_zip_next ?_ (F.args_zip_next_1 _))))
  exact gone_item G hx hy fun h' a1 a2 a3 a4 a5 a6 => wpAny_pure (q h' a1 a2 a3 a4 a5 a6)
theorem pyNext_gone_end {prog : Program} {w : World} {A : Around} {E : Value → Shared → Prop} {s : Shared} {z TI TO T i1 i2 l1 l2 : Addr} {f : Bool} {k : Nat} {xs ys : Array Value} {Q : Option Value → Shared → Prop} (hh : A.handled = none) (G : Gone s.heap z TI TO T f i1 i2 l1 l2 k xs ys) (he : xs[k]? = none)
    (q : ∀ h', (∀ c o, c ≠ z → c ≠ TO → c ≠ i1 → c ≠ i2 → s.heap.get? c = some o → h'.get? c = some o) → Q none { s with heap := h' }) :
    wpAny (model prog w) A (pyNext (.ref z)) Q E s := by
  have ty : s.TypeIs (.ref z) "zip" := ⟨_, G.hz, rfl⟩
  unfold pyNext
  refine wpAny_bind (wpAny_attempt (wpAny_callSpecial?_slot (name := Str.ofString "__next__") ty F.slot_zip_next (wpAny_call_entry F.slot_zip_next ty F.entry_zip_next ?_ (F.args_zip_next_1 _))))
  refine gone_end hh G he fun h' e hk hs => ?_
  obtain ⟨o, ho, hc⟩ := hs
  exact wpAny_bind (wpAny_isInstance (T := "StopIteration") (b := true) ⟨o, ho, hc⟩ isSubtype_stop (wpAny_pure (q _ hk)))
theorem turn_zipN {P : Program} {w : World} {K : PySem.W.Frag} {nx : Str} {np : Pos} {a b z TI TO i1 i2 : Addr} (D : ZipApart z TI TO i1 i2 a b) :
    Turn P w K (.Name nx np) (ItzN K a b) [z, TI, TO, i1, i2] z (fun i h => ZSt z TI TO h ∧ IsPair h TI (.ref i1) (.ref i2) ∧ (∃ x y, IsPair h TO x y) ∧ h.IsListIter i1 a i ∧ h.IsListIter i2 b i) where
  mem := by simp
  obj := fun i h st c hc => by
    obtain ⟨hz, hTI, ⟨x, y, hTO⟩, ⟨o1, e1, _, d1⟩, ⟨o2, e2, _, d2⟩⟩ := st
    simp only [List.mem_cons, List.not_mem_nil, or_false] at hc
    rcases hc with rfl | rfl | rfl | rfl | rfl
    · rcases hz with hz | ⟨T, f, hz⟩ <;> exact ⟨_, hz, fun v q => nomatch q⟩
    · exact ⟨_, hTI, fun v q => nomatch q⟩
    · exact ⟨_, hTO, fun v q => nomatch q⟩
    · exact ⟨o1, e1, fun v q => by rw [d1] at q; cases q⟩
    · exact ⟨o2, e2, fun v q => by rw [d2] at q; cases q⟩
  keep := fun i h h' st k => by
    obtain ⟨hz, hTI, ⟨x, y, hTO⟩, h1, h2⟩ := st
    refine ⟨?_, k TI (by simp) _ hTI, ⟨x, y, k TO (by simp) _ hTO⟩, h1.at fun o q => k i1 (by simp) o q, h2.at fun o q => k i2 (by simp) o q⟩
    rcases hz with hz | ⟨T, f, hz⟩
    · exact .inl (k z (by simp) _ hz)
    · exact .inr ⟨T, f, k z (by simp) _ hz⟩
  item := by
    intro X hP hw hK hc i pins s σ H E I hf st hg
    subst hP hw hK
    obtain ⟨hz, hTI, ⟨x0, y0, hTO⟩, h1, h2⟩ := st
    obtain ⟨xs, ys, hqx, hqy, hlen, hlt⟩ := hg
    obtain ⟨its, rv, p, _⟩ := I.list hqx
    obtain ⟨its2, rv2, p2, _⟩ := I.list hqy
    obtain ⟨u, hu, ru⟩ := rv.get (List.getElem?_eq_getElem hlt)
    obtain ⟨u2, hu2, ru2⟩ := rv2.get (List.getElem?_eq_getElem (show i < ys.length by omega))
    have zl : z < s.heap.objs.size := by rcases hz with hz | ⟨_, _, hz⟩ <;> exact Heap.lt_size hz
    have core : ∀ h' : Heap, ZSt z TI TO h' → (∃ x y, IsPair h' TO x y) → h'.IsListIter i1 a (i + 1) → h'.IsListIter i2 b (i + 1) → IsPair h' s.heap.objs.size u u2 →
        (∀ c o, c ≠ z → c ≠ TO → c ≠ i1 → c ≠ i2 → s.heap.get? c = some o → h'.get? c = some o) →
        ∃ u', some (Value.ref s.heap.objs.size) = some u' ∧ wpAny (model X.prog X.w) X.A (letOwnedTupleGo (.Name nx np) (.ref z) u') (fun _ s2 => ∃ x H', Inv X pins σ H' s2 ∧ RelV x u' ∧ (ItzN X.K a b).yld i H x H' ∧
          (ZSt z TI TO s2.heap ∧ IsPair s2.heap TI (.ref i1) (.ref i2) ∧ (∃ x y, IsPair s2.heap TO x y) ∧ s2.heap.IsListIter i1 a (i + 1) ∧ s2.heap.IsListIter i2 b (i + 1)) ∧ ∀ c ∈ [z, TI, TO, i1, i2], H' c = none) E { s with heap := h' } := by
      intro h' z' to' n1 n2 hT hk
      refine ⟨_, rfl, name_go ?_⟩
      have new : ObjOk X.prog X.w (upd H s.heap.objs.size (.tup [xs[i], ys[i]])) h' s.heap.objs.size (.tup [xs[i], ys[i]]) :=
        ⟨by show 2 ≤ sizeLine; decide, [u, u2], .cons ru (.cons ru2 .nil), ⟨_, hT, rfl, _, rfl⟩⟩
      have I1 : Inv X pins σ (upd H s.heap.objs.size (.tup [xs[i], ys[i]])) { s with heap := h' } :=
        I.turnedNew (t' := s.toks) (ch := [z, TI, TO, i1, i2]) (fun c o hb q => by
          simp only [List.mem_cons, List.not_mem_nil, or_false, not_or] at hb
          exact hk c o hb.1 hb.2.2.1 hb.2.2.2.1 hb.2.2.2.2 q) hf (Nat.le_refl _) new
      refine ⟨.ref s.heap.objs.size, _, I1, rfl, ⟨_, xs[i], ys[i], rfl, I.hok.fresh (Nat.le_refl _), rfl, fun l hl => by rw [I.list_inj hl hqx]; exact List.getElem?_eq_getElem hlt, fun l hl => by rw [I.list_inj hl hqy]; exact List.getElem?_eq_getElem _⟩,
        ⟨z', hk _ _ D.TIz D.TITO D.TIi1 D.TIi2 hTI, to', n1, n2⟩, fun c hcm => ?_⟩
      have lt : c < s.heap.objs.size := by
        simp only [List.mem_cons, List.not_mem_nil, or_false] at hcm
        rcases hcm with rfl | rfl | rfl | rfl | rfl
        · exact zl
        · exact Heap.lt_size hTI
        · exact Heap.lt_size hTO
        · obtain ⟨_, e1, _⟩ := h1; exact Heap.lt_size e1
        · obtain ⟨_, e2, _⟩ := h2; exact Heap.lt_size e2
      rw [upd_ne (Nat.ne_of_lt lt)]
      exact (hf c hcm).1
    rcases hz with hz | ⟨T, f, hz⟩
    · exact wpAny_pyNext_zip_item D hz hTI hTO h1 h2 p.isList p2.isList (x := u) (y := u2) (by simpa using hu) (by simpa using hu2) fun h' a1 a2 a3 a4 a5 _ a7 => core h' (.inr ⟨_, _, a1⟩) ⟨_, _, a2⟩ a3 a4 a5 a7
    · cases al : s.heap.get? T with
      | some oT => exact wpAny_pyNext_zip_item_held D hz al hTI h1 h2 p.isList p2.isList (x := u) (y := u2) (by simpa using hu) (by simpa using hu2) fun h' a1 a3 a4 a5 _ a7 => core h' (.inr ⟨_, _, a1⟩) ⟨_, _, a7 TO _ D.TOz D.TOi1 D.TOi2 hTO⟩ a3 a4 a5 fun c o c1 _ c3 c4 e => a7 c o c1 c3 c4 e
      | none => exact pyNext_gone_item ⟨D, hz, al, hTI, ⟨_, _, hTO⟩, h1, h2, p.isList, p2.isList⟩ (x := u) (y := u2) (by simpa using hu) (by simpa using hu2) fun h' a1 a2 a3 a4 a5 a6 => core h' (.inr ⟨_, _, a1⟩) ⟨_, _, a2⟩ a3 a4 a5 a6
  done := by
    intro X hP hw hK hc i pins s σ H E I hf st hg
    subst hP hw hK
    obtain ⟨hz, hTI, ⟨x0, y0, hTO⟩, h1, h2⟩ := st
    obtain ⟨xs, ys, hqx, hqy, hend⟩ := hg
    obtain ⟨its, rv, p, _⟩ := I.list hqx
    obtain ⟨its2, rv2, p2, _⟩ := I.list hqy
    have l1 := rv.length
    have he : its.toArray[i]? = none := by simp; omega
    have core : ∀ h' : Heap, (∀ c o, c ≠ z → c ≠ TO → c ≠ i1 → c ≠ i2 → s.heap.get? c = some o → h'.get? c = some o) → (none : Option Value) = none ∧ Inv X pins σ H { s with heap := h' } := fun h' hk =>
      ⟨rfl, I.turnedL (t' := s.toks) (ch := [z, TI, TO, i1, i2]) (fun c o hb q => by
        simp only [List.mem_cons, List.not_mem_nil, or_false, not_or] at hb
        exact hk c o hb.1 hb.2.2.1 hb.2.2.2.1 hb.2.2.2.2 q) hf⟩
    rcases hz with hz | ⟨T, f, hz⟩
    · exact wpAny_pyNext_zip_end (I.ok.hd hc) D hz hTI hTO h1 h2 p.isList p2.isList (.inl he) fun h' hk => core h' hk
    · cases al : s.heap.get? T with
      | some oT => exact wpAny_pyNext_zip_end_held (I.ok.hd hc) D hz al hTI h1 h2 p.isList p2.isList (.inl he) fun h' hk => core h' fun c o c1 _ c3 c4 e => hk c o c1 c3 c4 e
      | none => exact pyNext_gone_end (I.ok.hd hc) ⟨D, hz, al, hTI, ⟨_, _, hTO⟩, h1, h2, p.isList, p2.isList⟩ he fun h' hk => core h' hk
  self := fun A i s Q E st h => by
    have ty : s.TypeIs (.ref z) "zip" := by rcases st.1 with hz | ⟨T, f, hz⟩ <;> exact ⟨_, hz, rfl⟩
    refine wpAny_pyIter_slot ty F.slot_zip_iter (wpAny_call_entry F.slot_zip_iter ty F.entry_zip_iter ?_ (F.args_zip_iter_1 _)); show wpAny _ _ (ret (.ref z)) _ _ s
    exact wpAny_pure ⟨.ref z, rfl, "zip", _, ty, F.slot_zip_next.lookup, h⟩
def iZipN (K : PySem.W.Frag) (ta : TA) : TI := fun σ H R => ta σ H fun vs H1 => ∃ a b xs ys, vs = [.ref a, .ref b] ∧ SqL K H1 a xs ∧ SqL K H1 b ys ∧ R (ItzN K a b) H1
theorem pi_zipN {X : Cx} {e e2 : Expr} {ta : TA} {p pos np : Pos} {nx : Str} (hg : Gl X "zip") (hm : X.mg "zip" = none) (ha : PA X [e, e2] ta)
    (hs : starEach [e, e2] X.env = (false, eval e X.env) :: starEach [e2] X.env := by rfl) (hpl : (backTo pos (starEach [e2] X.env)).any (·.1) = false := by rfl) :
    PI X (.Name nx np) (.Call (.Name "zip" p) [e, e2] [] pos) (iZipN X.K ta) := by
  refine ⟨fun pins s σ H R I h => ?_⟩
  refine Call_ (ld_blt I hg hm PyProof.Rows.boot_zip (PyProof.Rows.callWith_type1 (thn (ha.run pos pins s σ H _ I h) fun us s1 ⟨vs, G, J, r1, q1⟩ => ?_) hs hpl))
  obtain ⟨a, b, xs, ys, ex, hqx, hqy, q⟩ := q1
  subst ex
  cases r1 with
  | cons r rr =>
    cases rr with
    | cons r' rr =>
      cases rr
      cases r
      cases r'
      obtain ⟨its, rv, p1, _⟩ := J.list hqx
      obtain ⟨its2, rv2, p2, _⟩ := J.list hqy
      refine call_zip_2 p1.isList p2.isList fun h' hz hTI hTO h1 h2 hsz hk => wpAny_pyIter_zip hz ?_
      have J2 : Inv X pins σ G { s1 with heap := h' } := J.kept (t' := s1.toks) hk
      refine ⟨s1.heap.objs.size + 4, [s1.heap.objs.size + 4, s1.heap.objs.size + 2, s1.heap.objs.size + 3, s1.heap.objs.size, s1.heap.objs.size + 1], _, _, G, rfl, J2,
        turn_zipN (PySem.W.ktu_apart s1.heap.objs.size a b p1.lt p2.lt), ⟨.inl hz, hTI, ⟨_, _, hTO⟩, h1, h2⟩, fun c hc => ?_, q⟩
      have le : s1.heap.objs.size ≤ c := by
        simp only [List.mem_cons, List.not_mem_nil, or_false] at hc
        rcases hc with rfl | rfl | rfl | rfl | rfl <;> omega
      exact J.fpOk le (J.hok.fresh le)
/-- a comprehension over zip of two lists of one length, its name one -/
theorem lc_zipN {K : PySem.W.Frag} {a b : Addr} {xs ys : List V} {g : TG} {tt : TT} {te : TE} {vs : List Nat} {σ : L2.St} {H1 : Hp} {D : Addr} {Qd : Hp → Prop} (hl : xs.length = ys.length) (Pv : Nat → Hp → Prop) (h0 : Pv 0 (upd H1 D (.lst [])))
    (hq : ∀ i H, Pv i H → SqL K H a xs ∧ SqL K H b ys)
    (hs : ∀ (i : Nat) (x y : V) (T : Addr) (H : Hp), xs[i]? = some x → ys[i]? = some y → Pv i H → H T = none → g (.ref T) (wipe σ vs) (upd H T (.tup [x, y])) fun σ2 H2 => wipe σ2 vs = wipe σ vs ∧ tt σ2 H2 fun b H3 =>
      if b = true then te σ2 H3 fun y H4 => ∃ acc, H4 D = some (.lst acc) ∧ acc.length < sizeLine ∧ Pv (i + 1) (upd H4 D (.lst (acc ++ [y]))) else Pv (i + 1) H3) (hd : ∀ H, Pv xs.length H → Qd H) :
    ∃ W : Nat → Nat → Hp → Prop, (∃ m, W 0 m (upd H1 D (.lst []))) ∧ ∀ i m H, W i m H →
      ((ItzN K a b).stop i H ∧ Qd H) ∨ ((ItzN K a b).go i H ∧ ∃ Nx : Hp → Prop, (∀ H', Nx H' → ∃ m', m' < m ∧ W (i + 1) m' H') ∧ ∀ x H', (ItzN K a b).yld i H x H' → g x (wipe σ vs) H' fun σ2 H2 => wipe σ2 vs = wipe σ vs ∧ tt σ2 H2 fun b H3 =>
        if b = true then te σ2 H3 fun y H4 => ∃ acc, H4 D = some (.lst acc) ∧ acc.length < sizeLine ∧ Nx (upd H4 D (.lst (acc ++ [y]))) else Nx H3) := by
  refine ⟨fun i m H => m = xs.length - i ∧ i ≤ xs.length ∧ Pv i H, ⟨xs.length, by simp, Nat.zero_le _, h0⟩, ?_⟩
  rintro i m H ⟨rfl, hi, p⟩
  obtain ⟨qx, qy⟩ := hq i H p
  by_cases lt : i < xs.length
  · refine .inr ⟨⟨xs, ys, qx, qy, hl, lt⟩, Pv (i + 1), fun H' p' => ⟨xs.length - (i + 1), by omega, rfl, lt, p'⟩, fun v H' y => ?_⟩
    obtain ⟨T, x', y', rfl, hT, rfl, f1, f2⟩ := y
    exact hs i x' y' T H (f1 xs qx) (f2 ys qy) p hT
  · have e : i = xs.length := by omega
    subst e
    exact .inl ⟨⟨xs, ys, qx, qy, Nat.le_refl _⟩, hd H p⟩
end VK
namespace VK
open PySem PySem.Spec PyProof.Rows L2
/-! ### a def of the text: where it stands, and what it promises -/
structure Def (P : Program) (w : World) (K : PySem.W.Frag) (mg : Str → Option Value) (base : Heap) (CX : CXT) (k : Nat) (x : Str) (ps : List Str) (sp : Sp) : Prop where
  ex : ∃ (f : Addr) (fd : FuncData), mg x = some (.ref f) ∧ PySem.W.keepIn K (.ref f) = true ∧ Binds K fd ps [] ∧ FnOk P w K mg base CX k f fd ps sp
section
variable {X : Cx} {CX : CXT} {k : Nat} {x : Str} {ps : List Str} {sp : Sp} {E : XK} {e : Expr} {es : List Expr} {t : TA} {p pos : Pos}
theorem pe_callD (D : Def X.prog X.w X.K X.mg X.base CX k x ps sp) (hr : Room k X.A) (hg : Gl X x) (hx : Passes CX X E) (ha : PA X (e :: es) t) (hdb : (x == ("__debug__" : Str)) = false := by decide)
    (he : starEach (e :: es) X.env = (false, eval e X.env) :: starEach es X.env := by rfl) (hpl : (backTo pos (starEach es X.env)).any (·.1) = false := by rfl) :
    PE X (.Call (.Name x p) (e :: es) [] pos) (tCall sp [] E t) := by
  obtain ⟨f, fd, hm, hk, hb, F⟩ := D.ex
  exact pe_call F hr hg hm hk hb .nil hx ha hdb he hpl
theorem pe_callDS {E : L2.St → XK} (D : Def X.prog X.w X.K X.mg X.base CX k x ps sp) (hr : Room k X.A) (hg : Gl X x) (hx : ∀ σ, PassesAt CX X σ (E σ)) (ha : PA X (e :: es) t) (hdb : (x == ("__debug__" : Str)) = false := by decide)
    (he : starEach (e :: es) X.env = (false, eval e X.env) :: starEach es X.env := by rfl) (hpl : (backTo pos (starEach es X.env)).any (·.1) = false := by rfl) :
    PE X (.Call (.Name x p) (e :: es) [] pos) (tCallS sp E t) := by
  obtain ⟨f, fd, hm, hk, hb, F⟩ := D.ex
  exact pe_callS F hr hg hm hk hb hx ha hdb he hpl
end
theorem pi_or {X : Cx} {tg it : Expr} {w1 w2 : TI} (h1 : PI X tg it w1) (h2 : PI X tg it w2) : PI X tg it (fun σ H R => w1 σ H R ∨ w2 σ H R) :=
  ⟨fun pins s σ H R I h => h.elim (fun q => h1.run pins s σ H R I q) fun q => h2.run pins s σ H R I q⟩
theorem u65 {k : Nat} {A : Around} (r : Room k A) : A.units + 65 < cLine := by
  have := r.un
  omega
theorem u1 {k : Nat} {A : Around} (r : Room k A) : A.units + 1 < cLine := by
  have := r.un
  omega
/-! ### heaps that keep all but one -/
def But (f : Addr) (H H' : Hp) : Prop := ∀ b o, H b = some o → b ≠ f → H' b = some o
theorem upd_new {H : Hp} {a q : Addr} {o o' : HO} (hq : H q = none) (h : H a = some o) : upd H q o' a = some o := by
  rw [upd_ne (ne_of_none h hq)]
  exact h
theorem upd_old {H : Hp} {a f : Addr} {o o' : HO} (hf : a ≠ f) (h : H a = some o) : upd H f o' a = some o := by
  rw [upd_ne hf]
  exact h
theorem same_new {H : Hp} {q : Addr} {o' : HO} (hq : H q = none) : Same H (upd H q o') := fun _ _ h => upd_new hq h
theorem sqT_same {K : PySem.W.Frag} {H H' : Hp} {a : Addr} {xs : List V} (e : Same H H') (h : SqT K H a xs) : SqT K H' a xs := by
  rcases h with (h | ⟨o, h⟩) | h
  · exact .inl (.inl (e _ _ h))
  · exact .inl (.inr ⟨o, e _ _ h⟩)
  · exact .inr h
theorem but_same {f : Addr} {H H' : Hp} (e : Same H H') : But f H H' := fun b o h _ => e b o h
theorem but_trans {f : Addr} {H H1 H2 : Hp} (a : But f H H1) (b : But f H1 H2) : But f H H2 := fun c o h ne => b c o (a c o h ne) ne
theorem but_upd {f : Addr} {H : Hp} {o : HO} : But f H (upd H f o) := fun b u h ne => upd_old ne h
theorem sqT_but {K : PySem.W.Frag} {f : Addr} {H H' : Hp} {a : Addr} {xs : List V} {u : List V} (e : But f H H') (hf : H f = some (.lst u)) (h : SqT K H a xs) : SqT K H' a xs := by
  rcases h with (h | ⟨o, h⟩) | h
  · exact .inl (.inl (e _ _ h (ne_of h hf (by intro z; cases z))))
  · exact .inl (.inr ⟨o, e _ _ h (ne_of h hf (by intro z; cases z))⟩)
  · exact .inr h
theorem sqL_but {K : PySem.W.Frag} {f : Addr} {H H' : Hp} {a : Addr} {xs : List V} (e : But f H H') (ne : a ≠ f) (h : SqL K H a xs) : SqL K H' a xs := by
  rcases h with (h | ⟨o, h⟩) | h
  · exact .inl (.inl (e _ _ h ne))
  · exact .inl (.inr ⟨o, e _ _ h ne⟩)
  · exact .inr h
end VK
namespace VK
open PySem PySem.Spec PyProof.Rows L2
/-! ### steps of readings, each concluding the form in which a reading opens -/
variable {K : PySem.W.Frag} {H : Hp} {p q : Addr} {xs ys : List V} {v x y : V} {i j : Int}
theorem v_I {C : Int → Int → Prop} {R : Int → Int → Prop} (hc : C i j) (r : R i j) : ∃ i' j', V.int i = V.int i' ∧ V.int j = V.int j' ∧ C i' j' ∧ R i' j' := ⟨i, j, rfl, rfl, hc, r⟩
theorem v_ixL {R : V → Prop} (h : SqL K H p xs) (ha : atI xs i = some v) (r : R v) : ∃ p' xs' i' v', V.ref p = V.ref p' ∧ V.int i = V.int i' ∧ SqL K H p' xs' ∧ atI xs' i' = some v' ∧ R v' := ⟨p, xs, i, v, rfl, rfl, h, ha, r⟩
theorem v_ixT {R : V → Prop} (h : SqT K H p xs) (ha : atI xs i = some v) (r : R v) : ∃ p' xs' i' v', V.ref p = V.ref p' ∧ V.int i = V.int i' ∧ SqT K H p' xs' ∧ atI xs' i' = some v' ∧ R v' := ⟨p, xs, i, v, rfl, rfl, h, ha, r⟩
theorem v_setL {R : Addr → List V → Nat → Prop} {n : Nat} (h : H p = some (.lst xs)) (ha : ixN xs.length i = some n) (r : R p xs n) :
    ∃ p' xs' k j, V.ref p = V.ref p' ∧ V.int i = V.int k ∧ H p' = some (.lst xs') ∧ ixN xs'.length k = some j ∧ R p' xs' j := ⟨p, xs, i, n, rfl, rfl, h, ha, r⟩
theorem v_lenL {R : List V → Prop} (h : SqL K H p xs) (r : R xs) : ∃ p' ys, [V.ref p] = [.ref p'] ∧ (SqL K H p' ys ∨ SqT K H p' ys) ∧ R ys := ⟨p, xs, rfl, .inl h, r⟩
theorem v_lenT {R : List V → Prop} (h : SqT K H p xs) (r : R xs) : ∃ p' ys, [V.ref p] = [.ref p'] ∧ (SqL K H p' ys ∨ SqT K H p' ys) ∧ R ys := ⟨p, xs, rfl, .inr h, r⟩
theorem v_app {R : Addr → List V → V → Prop} (h : H p = some (.lst xs)) (hz : xs.length < sizeLine) (r : R p xs v) :
    ∃ l xs' y, V.ref p = .ref l ∧ [v] = [y] ∧ H l = some (.lst xs') ∧ xs'.length < sizeLine ∧ R l xs' y := ⟨p, xs, v, rfl, rfl, h, hz, r⟩
theorem v_cat {R : List V → List V → Prop} (h1 : H p = some (.lst xs)) (h2 : H q = some (.lst ys)) (hz : xs.length + ys.length ≤ sizeLine) (r : R xs ys) :
    ∃ l b xs' zs, V.ref p = .ref l ∧ V.ref q = .ref b ∧ H l = some (.lst xs') ∧ H b = some (.lst zs) ∧ xs'.length + zs.length ≤ sizeLine ∧ R xs' zs := ⟨p, q, xs, ys, rfl, rfl, h1, h2, hz, r⟩
theorem v_ext {R : Addr → List V → List V → Prop} (h1 : H p = some (.lst xs)) (h2 : H q = some (.lst ys)) (hz : xs.length + ys.length ≤ sizeLine) (r : R p xs ys) :
    ∃ l b xs' zs, V.ref p = .ref l ∧ [V.ref q] = [.ref b] ∧ H l = some (.lst xs') ∧ H b = some (.lst zs) ∧ xs'.length + zs.length ≤ sizeLine ∧ R l xs' zs := ⟨p, q, xs, ys, rfl, rfl, h1, h2, hz, r⟩
theorem v_slL {R : List V → Prop} (h : SqL K H p xs) (r : R xs) : ∃ a xs', V.ref p = .ref a ∧ SqL K H a xs' ∧ R xs' := ⟨p, xs, rfl, h, r⟩
theorem v_slT {R : Addr → List V → Prop} (h : SqT K H p xs) (r : R p xs) : ∃ a xs', V.ref p = .ref a ∧ SqT K H a xs' ∧ R a xs' := ⟨p, xs, rfl, h, r⟩
theorem v_catT {R : Addr → Addr → List V → List V → Prop} (h1 : SqT K H p xs) (h2 : SqT K H q ys) (r : R p q xs ys) :
    ∃ a b xs' ys', V.ref p = .ref a ∧ V.ref q = .ref b ∧ SqT K H a xs' ∧ SqT K H b ys' ∧ R a b xs' ys' := ⟨p, q, xs, ys, rfl, rfl, h1, h2, r⟩
theorem small {n : Nat} (h : n ≤ 100000) : n ≤ sizeLine := Nat.le_trans h (by decide)
theorem small' {n : Nat} (h : n < 100000) : n < sizeLine := Nat.lt_of_lt_of_le h (by decide)
theorem v_ifd {c : Prop} [Decidable c] {A B : Prop} (h1 : c → A) (h2 : ¬ c → B) : if decide c = true then A else B := by
  by_cases h : c
  · rw [decide_eq_true h]
    exact h1 h
  · rw [decide_eq_false h, if_neg Bool.false_ne_true]
    exact h2 h
theorem v_ifn {c : Prop} [Decidable c] {A B : Prop} (h1 : ¬ c → A) (h2 : c → B) : if (!decide c) = true then A else B := by
  by_cases h : c
  · rw [decide_eq_true h]
    exact h2 h
  · rw [decide_eq_false h]
    exact h1 h
theorem v_ifb {b : Bool} {A B : Prop} (h1 : b = true → A) (h2 : b = false → B) : if b = true then A else B := by
  cases b with
  | true => exact h1 rfl
  | false => exact h2 rfl
theorem v_ift {b : Bool} {A B : Prop} (hb : b = true) (h : A) : if b = true then A else B := by
  rw [hb]
  exact h
theorem v_iff {b : Bool} {A B : Prop} (hb : b = false) (h : B) : if b = true then A else B := by
  rw [hb]
  exact h
end VK
namespace VK
open PySem PySem.Spec PyProof.Rows L2
/-- a loop over enumerate of a list -/
theorem for_enumL {K : PySem.W.Frag} {a : Addr} {xs : List V} {g : TG} {tb : TS} {D : Ends} {σ : L2.St} {H : Hp} (Pv : Nat → L2.St → Hp → Prop) (h0 : Pv 0 σ H) (hq : ∀ i σ H, Pv i σ H → SqL K H a xs)
    (hs : ∀ (i : Nat) (x : V) (T : Addr) (σ : L2.St) (H : Hp), xs[i]? = some x → Pv i σ H → H T = none → g (.ref T) σ (upd H T (.tup [.int (i : Nat), x])) fun σ2 H2 => tb { D with nx := Pv (i + 1), ct := Pv (i + 1), bk := D.nx } σ2 H2)
    (hd : ∀ σ H, Pv xs.length σ H → D.nx σ H) :
    ∃ W : Nat → Nat → L2.St → Hp → Prop, (∃ m, W 0 m σ H) ∧ ∀ i m σ H, W i m σ H →
      ((Ite K a).stop i H ∧ D.nx σ H) ∨ ((Ite K a).go i H ∧ ∃ N : L2.St → Hp → Prop, (∀ σ' H', N σ' H' → ∃ m', m' < m ∧ W (i + 1) m' σ' H') ∧ ∀ v H', (Ite K a).yld i H v H' → g v σ H' fun σ2 H2 => tb { D with nx := N, ct := N, bk := D.nx } σ2 H2) := by
  refine ⟨fun i m σ H => m = xs.length - i ∧ i ≤ xs.length ∧ Pv i σ H, ⟨xs.length, rfl, Nat.zero_le _, h0⟩, ?_⟩
  rintro i m σ H ⟨rfl, hi, p⟩
  have qx := hq i σ H p
  by_cases lt : i < xs.length
  · refine .inr ⟨⟨xs, _, qx, List.getElem?_eq_getElem lt⟩, Pv (i + 1), fun σ' H' p' => ⟨xs.length - (i + 1), by omega, rfl, lt, p'⟩, fun v H' y => ?_⟩
    obtain ⟨T, x', rfl, hT, rfl, f⟩ := y
    exact hs i x' T σ H (f xs qx) p hT
  · have e : i = xs.length := by omega
    subst e
    exact .inl ⟨⟨xs, qx, Nat.le_refl _⟩, hd σ H p⟩
theorem same_mut {H H' : Hp} {p : Addr} {o : HO} (hp : H p = none) (e : Same H H') : Same H (upd H' p o) := fun b u hb => upd_old (fun z => by rw [z, hp] at hb; cases hb) (e b u hb)
/-! ### rules whose reading hangs on the written part, said of K itself (within a comprehension) -/
theorem kOp {X : Cx} {f : Value → Value → Sem Value} (r : PySem.W.Frag → R2) (K : PySem.W.Frag) (h : OpR X f (r X.K)) (e : X.K = K := by rfl) : OpR X f (r K) := e ▸ h
theorem kCall {X : Cx} {f : Value} (r : PySem.W.Frag → List V → Hp → VK → Prop) (K : PySem.W.Frag) (h : CallR X f (r X.K)) (e : X.K = K := by rfl) : CallR X f (r K) := e ▸ h
theorem kIx {X : Cx} (r : PySem.W.Frag → R2) (K : PySem.W.Frag) (h : IxR X (r X.K)) (e : X.K = K := by rfl) : IxR X (r K) := e ▸ h
theorem pg_tupK {X : Cx} (K : PySem.W.Frag) {es : List Expr} {kk : Nat} {pos : Pos} {t : TGs} {n : Nat} (h : PG X (.Tuple es kk pos) (gTup X.K n t)) (e : X.K = K := by rfl) : PG X (.Tuple es kk pos) (gTup K n t) := e ▸ h
/-! ### values and data -/
def vn (n : Nat) : V := .int (n : Int)
abbrev vns (ns : List Nat) : List V := ns.map vn
theorem vns_inj : ∀ {as bs : List Nat}, vns as = vns bs → as = bs
  | [], [], _ => rfl
  | [], _ :: _, h => by simp [vns] at h
  | _ :: _, [], h => by simp [vns] at h
  | a :: as, b :: bs, h => by
    simp only [vns, List.map_cons, List.cons.injEq] at h
    have h1 : (a : Int) = b := by
      have := h.1
      unfold vn at this
      injection this
    rw [vns_inj h.2, show a = b by omega]
theorem tyX_same {K : PySem.W.Frag} {H H' : Hp} (e : Same H H') {x : V} {t : Value} (h : TyX K H x t) : TyX K H' x t := by
  cases h with
  | base b =>
    refine .base ?_
    cases b with
    | non => exact .non
    | bl => exact .bl _
    | int => exact .int _
    | str => exact .str _
    | flt => exact .flt _
    | lst h => exact .lst (e _ _ h)
    | frz h => exact .frz (e _ _ h)
    | tup h => exact .tup (e _ _ h)
    | dK h => exact .dK (e _ _ h)
    | dT h => exact .dT (e _ _ h)
    | ins h a b c d f => exact .ins (e _ _ h) a b c d f
  | byt => exact .byt _
  | set h => exact .set (e _ _ h)
  | kList h c => exact .kList h c
  | kTuple h c => exact .kTuple h c
  | kDict h c => exact .kDict h c
  | fTuple h => exact .fTuple (e _ _ h)
  | fDict h => exact .fDict (e _ _ h)
def kinds : List String := ["NoneType", "bool", "int", "str", "list", "tuple", "dict"]
/-- a value of one of the kinds that the document names -/
structure OkT (K : PySem.W.Frag) (H : Hp) (x : V) (n : String) : Prop where
  ty : TyX K H x (.type n)
  kd : n ∈ kinds
theorem OkT.same {K : PySem.W.Frag} {H H' : Hp} {x : V} {n : String} (e : Same H H') (h : OkT K H x n) : OkT K H' x n := ⟨tyX_same e h.ty, h.kd⟩
theorem kit_int {n : String} (h : n ∈ kinds) : kitB n "int" = some (n == "int" || n == "bool") := by
  simp only [kinds, List.mem_cons, List.not_mem_nil, or_false] at h
  rcases h with rfl | rfl | rfl | rfl | rfl | rfl | rfl <;> decide +kernel
theorem kit_bool {n : String} (h : n ∈ kinds) : kitB n "bool" = some (n == "bool") := by
  simp only [kinds, List.mem_cons, List.not_mem_nil, or_false] at h
  rcases h with rfl | rfl | rfl | rfl | rfl | rfl | rfl <;> decide +kernel
theorem kit_tuple {n : String} (h : n ∈ kinds) : kitB n "tuple" = some (n == "tuple") := by
  simp only [kinds, List.mem_cons, List.not_mem_nil, or_false] at h
  rcases h with rfl | rfl | rfl | rfl | rfl | rfl | rfl <;> decide +kernel
theorem kit_list {n : String} (h : n ∈ kinds) : kitB n "list" = some (n == "list") := by
  simp only [kinds, List.mem_cons, List.not_mem_nil, or_false] at h
  rcases h with rfl | rfl | rfl | rfl | rfl | rfl | rfl <;> decide +kernel
theorem int_of' {K : PySem.W.Frag} {H : Hp} {x : V} {t : Value} (h : TyX K H x t) (e : t = .type "int") : ∃ i, x = .int i := by
  cases h with
  | base b =>
    cases b with
    | int i => exact ⟨i, rfl⟩
    | _ => first | (injection e with e; exact absurd e (by decide)) | cases e
  | _ => injection e with e; exact absurd e (by decide)
theorem int_of {K : PySem.W.Frag} {H : Hp} {x : V} (h : TyX K H x (.type "int")) : ∃ i, x = .int i := int_of' h rfl
theorem int_ty {K : PySem.W.Frag} {H : Hp} {i : Int} {t : Value} (h : TyX K H (.int i) t) : t = .type "int" := by
  cases h with
  | base b => cases b with
    | int i => rfl
theorem v_isi {K : PySem.W.Frag} {H : Hp} {x : V} {n c : String} {b : Bool} {R : Bool → Prop} (h : OkT K H x n) (e : kitB n c = some b) (r : R b) :
    ∃ (x' c' : V) (t u : Value) (b' : Bool), [x, V.ty c] = [x', c'] ∧ ClsV c' u ∧ TyX K H x' t ∧ PySem.W.kitOne K t u = some b' ∧ R b' :=
  ⟨x, .ty c, .type n, .type c, b, rfl, .ty c, h.ty, kit_ty e, r⟩
/-- whether a value is a level -/
def lvl (top : Nat) : V → Bool
  | .int i => decide (0 ≤ i ∧ i ≤ (top : Int))
  | _ => false
theorem lvl_not {K : PySem.W.Frag} {H : Hp} {x : V} {n : String} (h : TyX K H x (.type n)) (hn : n ≠ "int") (top : Nat) : lvl top x = false := by
  cases x with
  | int i =>
    have := int_ty h
    injection this with e
    exact absurd e hn
  | _ => rfl
def natV : V → Nat
  | .int i => i.toNat
  | _ => 0
theorem all_lvl {top : Nat} : ∀ {xs : List V}, xs.all (lvl top) = true → xs = vns (xs.map natV) ∧ ∀ n ∈ xs.map natV, n ≤ top
  | [], _ => ⟨rfl, by simp⟩
  | x :: r, h => by
    simp only [List.all_cons, Bool.and_eq_true] at h
    obtain ⟨e, f⟩ := all_lvl h.2
    cases x with
    | int i =>
      have h1 : 0 ≤ i ∧ i ≤ (top : Int) := by simpa [lvl] using h.1
      refine ⟨?_, ?_⟩
      · show V.int i :: r = vn i.toNat :: vns (r.map natV)
        rw [← e]
        unfold vn
        rw [Int.toNat_of_nonneg h1.1]
      · intro n hn
        simp only [List.map_cons, List.mem_cons] at hn
        rcases hn with rfl | hn
        · show i.toNat ≤ top
          omega
        · exact f n hn
    | _ => simp [lvl] at h
theorem lvl_vns {top : Nat} : ∀ {ns : List Nat}, (∀ n ∈ ns, n ≤ top) → (vns ns).all (lvl top) = true
  | [], _ => rfl
  | n :: r, h => by
    simp only [vns, List.map_cons, List.all_cons, Bool.and_eq_true]
    refine ⟨?_, lvl_vns fun m hm => h m (by simp [hm])⟩
    have := h n (by simp)
    simp only [lvl, vn, decide_eq_true_eq]
    omega
theorem nat_vns (ns : List Nat) : (vns ns).map natV = ns := by
  induction ns with
  | nil => rfl
  | cons n r ih =>
    simp only [vns, List.map_cons, List.cons.injEq]
    exact ⟨by simp [vn, natV], ih⟩
/-- whether a tuple of these items is a memory -/
def isMem (top : Nat) (xs : List V) : Bool := xs.all (lvl top) && decide (VM.followed [] (xs.map natV) = xs.map natV)
def pint (n : Nat) : PyData := .int (n : Int)
theorem dp_vns {K : PySem.W.Frag} {H : Hp} : ∀ ns : List Nat, DpAll K H (vns ns) (ns.map pint)
  | [] => .nil
  | n :: r => .cons (.int _) (dp_vns r)
/-- tuples of naturals as data, lists of such -/
def ptup (ns : List Nat) : PyData := .tuple (ns.map pint)
def plist (nss : List (List Nat)) : PyData := .list (nss.map ptup)
theorem lay_ints : ∀ ns : List Nat, PyData.canLayAll0 (ns.map pint) = true
  | [] => rfl
  | _ :: r => lay_ints r
theorem lay_tups : ∀ nss : List (List Nat), PyData.canLayAll0 (nss.map ptup) = true
  | [] => rfl
  | n :: r => by
    show (PyData.canLayAll0 (n.map pint) && PyData.canLayAll0 (r.map ptup)) = true
    rw [lay_ints, lay_tups r]
    rfl
theorem dep_ints : ∀ ns : List Nat, PyData.depthAll (ns.map pint) = 0
  | [] => rfl
  | _ :: r => by
    show max 0 (PyData.depthAll (r.map pint)) = 0
    rw [dep_ints r]
    rfl
theorem dep_tups : ∀ nss : List (List Nat), PyData.depthAll (nss.map ptup) ≤ 1
  | [] => Nat.zero_le _
  | n :: r => by
    show max (PyData.depthAll (n.map pint) + 1) (PyData.depthAll (r.map ptup)) ≤ 1
    have := dep_tups r
    rw [dep_ints]
    omega
theorem shaped_tup (ns : List Nat) : SeqAt.shaped (ptup ns) = true := by
  show (PyData.canLayAll0 (ns.map pint) && decide (PyData.depthAll (ns.map pint) + 1 ≤ 64)) = true
  rw [lay_ints, dep_ints]
  rfl
theorem shaped_ilist (ns : List Nat) : SeqAt.shaped (.list (ns.map pint)) = true := by
  show (PyData.canLayAll0 (ns.map pint) && decide (PyData.depthAll (ns.map pint) + 1 ≤ 64)) = true
  rw [lay_ints, dep_ints]
  rfl
theorem shaped_list (nss : List (List Nat)) : SeqAt.shaped (plist nss) = true := by
  have := dep_tups nss
  show (PyData.canLayAll0 (nss.map ptup) && decide (PyData.depthAll (nss.map ptup) + 1 ≤ 64)) = true
  rw [lay_tups, decide_eq_true (by omega)]
  rfl
theorem eqv_ints : ∀ as bs : List Nat, PyData.eqvAll (as.map pint) (bs.map pint) = decide (as = bs)
  | [], [] => rfl
  | [], _ :: _ => rfl
  | _ :: _, [] => rfl
  | a :: as, b :: bs => by
    show (((a : Int) == (b : Int)) && PyData.eqvAll (as.map pint) (bs.map pint)) = _
    rw [eqv_ints as bs, Bool.eq_iff_iff]
    simp only [Bool.and_eq_true, beq_iff_eq, decide_eq_true_eq, List.cons.injEq]
    exact ⟨fun h => ⟨by omega, h.2⟩, fun h => ⟨by omega, h.2⟩⟩
theorem eqv_tup (as bs : List Nat) : PyData.eqv (ptup as) (ptup bs) = decide (as = bs) := eqv_ints as bs
theorem eqv_ilist (as bs : List Nat) : PyData.eqv (.list (as.map pint)) (.list (bs.map pint)) = decide (as = bs) := eqv_ints as bs
theorem eqv_tups : ∀ as bs : List (List Nat), PyData.eqvAll (as.map ptup) (bs.map ptup) = decide (as = bs)
  | [], [] => rfl
  | [], _ :: _ => rfl
  | _ :: _, [] => rfl
  | a :: as, b :: bs => by
    show (PyData.eqv (ptup a) (ptup b) && PyData.eqvAll (as.map ptup) (bs.map ptup)) = _
    rw [eqv_tups as bs, eqv_tup, Bool.eq_iff_iff]
    simp only [Bool.and_eq_true, decide_eq_true_eq, List.cons.injEq]
theorem eqv_list (as bs : List (List Nat)) : PyData.eqv (plist as) (plist bs) = decide (as = bs) := eqv_tups as bs
theorem any_tups (nss : List (List Nat)) (ns : List Nat) : ((nss.map ptup).any fun z => PyData.eqv z (ptup ns)) = nss.contains ns := by
  induction nss with
  | nil => rfl
  | cons n r ih =>
    simp only [List.map_cons, List.any_cons, ih, eqv_tup, List.contains_cons]
    congr 1
    rw [Bool.eq_iff_iff]
    simp only [decide_eq_true_eq, beq_iff_eq]
    exact eq_comm
/-- references to tuples of naturals -/
inductive Tups (K : PySem.W.Frag) (H : Hp) : List V → List (List Nat) → Prop
  | nil : Tups K H [] []
  | cons {a : Addr} {ns : List Nat} {xs : List V} {nss : List (List Nat)} : SqT K H a (vns ns) → Tups K H xs nss → Tups K H (.ref a :: xs) (ns :: nss)
theorem Tups.len {K : PySem.W.Frag} {H : Hp} : ∀ {xs : List V} {nss : List (List Nat)}, Tups K H xs nss → xs.length = nss.length
  | _, _, .nil => rfl
  | _, _, .cons _ t => congrArg (· + 1) t.len
theorem Tups.but {K : PySem.W.Frag} {H H' : Hp} (f : ∀ a ns, SqT K H a (vns ns) → SqT K H' a (vns ns)) : ∀ {xs : List V} {nss : List (List Nat)}, Tups K H xs nss → Tups K H' xs nss
  | _, _, .nil => .nil
  | _, _, .cons h t => .cons (f _ _ h) (t.but f)
theorem Tups.same {K : PySem.W.Frag} {H H' : Hp} (e : Same H H') {xs : List V} {nss : List (List Nat)} (t : Tups K H xs nss) : Tups K H' xs nss := t.but fun _ _ h => sqT_same e h
theorem Tups.get {K : PySem.W.Frag} {H : Hp} : ∀ {xs : List V} {nss : List (List Nat)} {i : Nat} {x : V}, Tups K H xs nss → xs[i]? = some x → ∃ a ns, x = .ref a ∧ nss[i]? = some ns ∧ SqT K H a (vns ns)
  | _, _, i, _, .nil, h => by simp at h
  | _, _, 0, x, .cons h t, e => by
    have e' := Option.some.inj (show some _ = some x from e)
    subst e'
    exact ⟨_, _, rfl, rfl, h⟩
  | _, _, i + 1, x, .cons h t, e => by
    obtain ⟨a, ns, h1, h2, h3⟩ := t.get (i := i) (x := x) (by simpa using e)
    exact ⟨a, ns, h1, by simpa using h2, h3⟩
theorem Tups.mem {K : PySem.W.Frag} {H : Hp} {xs : List V} {nss : List (List Nat)} {x : V} (t : Tups K H xs nss) (h : x ∈ xs) : ∃ a ns, x = .ref a ∧ ns ∈ nss ∧ SqT K H a (vns ns) := by
  obtain ⟨i, hi, e⟩ := List.mem_iff_getElem.mp h
  obtain ⟨a, ns, h1, h2, h3⟩ := t.get (i := i) (x := x) (by rw [← e]; simp)
  exact ⟨a, ns, h1, List.mem_of_getElem? h2, h3⟩
theorem Tups.append {K : PySem.W.Frag} {H : Hp} : ∀ {xs ys : List V} {nss mss : List (List Nat)}, Tups K H xs nss → Tups K H ys mss → Tups K H (xs ++ ys) (nss ++ mss)
  | _, _, _, _, .nil, u => u
  | _, _, _, _, .cons h t, u => .cons h (t.append u)
theorem Tups.one {K : PySem.W.Frag} {H : Hp} {a : Addr} {ns : List Nat} (h : SqT K H a (vns ns)) : Tups K H [.ref a] [ns] := .cons h .nil
theorem Tups.dp {K : PySem.W.Frag} {H : Hp} : ∀ {xs : List V} {nss : List (List Nat)}, Tups K H xs nss → DpAll K H xs (nss.map ptup)
  | _, _, .nil => .nil
  | _, _, .cons h t => .cons (.tup h (dp_vns _)) t.dp
theorem dp_tup {K : PySem.W.Frag} {H : Hp} {a : Addr} {ns : List Nat} (h : SqT K H a (vns ns)) : Dp K H (.ref a) (ptup ns) := .tup h (dp_vns ns)
theorem dp_list {K : PySem.W.Frag} {H : Hp} {a : Addr} {xs : List V} {nss : List (List Nat)} (h : SqL K H a xs) (t : Tups K H xs nss) : Dp K H (.ref a) (plist nss) := .lst h t.dp
end VK
namespace VK
open PySem PySem.Spec PyProof.Rows L2
/-! ### an own error that keeps an index -/
def spIndex (C : Addr) : Sp := fun vs H Q _ => ∃ (a : Addr) (y : V), vs = [.ref a, y] ∧ H a = some (exo a C none) ∧ ∀ d, H d = none → d ≠ a → Q .non (upd (upd H d (exd d [("index", y)])) a (exo a C (some d)))
theorem own_index {P : Program} {w : World} {K : PySem.W.Frag} {mg : Str → Option Value} {base : Heap} {q : Str} {st : Stmt} {f C : Addr} {fd : FuncData} (F : Fun K "__init__" q st f fd) (S : FnScope ["self", "index"] ["self", "index"] (defScope st))
    (hb : ∃ p1 p2 p3 p4, defBody st = [.Assign [.Attribute (.Name "self" p1) "index" p2] (.Name "index" p3) p4]) (l1 : (defScope st).names.lookup ("self" : Str) = some NameKind.local) (l2 : (defScope st).names.lookup ("index" : Str) = some NameKind.local) (T : OexC K C) (no : PySem.W.findIn K (.ref C) "index" = some none) :
    FnOk P w K mg base CX0 1 f fd ["self", "index"] (spIndex C) := by
  obtain ⟨p1, p2, p3, p4, hb⟩ := hb
  refine F.ok S (fun vs H Q E h => ?_) (fun cdv A outer s H vs Q E hr h => ?_)
  · obtain ⟨a, y, rfl, _⟩ := h
    rfl
  · obtain ⟨a, y, rfl, ha, k⟩ := h
    refine ⟨_, by rw [hb]; exact pss_one (ps_ost (pv 0 (hv := .inl l1)) (pv 1 (hv := .inl l2))), ?_⟩
    refine ⟨_, rfl, _, rfl, a, C, rfl, T, no, .inl ⟨ha, fun d hd hn => ?_⟩⟩
    exact k d hd hn
/-- C(e): the error with a new dict of its own -/
theorem mk_index {C : Addr} {H1 : Hp} {y : V} {Q : XK} (h : ∀ d H', Same H1 H' → H' d = some (.xd [("index", y)]) → Q (.ref C) (some d) H') :
    [y].length ≤ 1000 ∧ ∀ a, H1 a = none → spIndex C (.ref a :: ([y] ++ [])) (upd H1 a (exo a C none))
      (fun v H2 => v = .non ∧ ∃ (d : Addr) (fs : List (Str × V)), H2 a = some (exo a C (some d)) ∧ H2 d = some (exd d fs) ∧ H1 d = none ∧ Q (.ref C) (some d) (upd (del H2 a) d (.xd fs))) (fun _ _ _ => False) := by
  refine ⟨(by show 1 ≤ 1000; decide), fun a ha => ⟨a, y, rfl, upd_same, fun d hd hn => ⟨rfl, d, [("index", y)], upd_same, upd_old hn upd_same, ?_, h d _ (fun b o e => ?_) upd_same⟩⟩⟩
  · rw [← hd, upd_ne hn]
  · have ba : b ≠ a := ne_of_none e ha
    have hd' : H1 d = none := by rw [← hd, upd_ne hn]
    have bd : b ≠ d := ne_of_none e hd'
    refine upd_old bd ?_
    rw [del_ne ba]
    exact upd_old ba (upd_old bd (upd_old ba e))
theorem pmk_ix {X : Cx} {x : Str} {e : Expr} {ta : TA} {p pos : Pos} {C fI : Addr} {fd : FuncData} (T : OexC X.K C) (iC : PySem.W.findIn X.K (.ref C) "__init__" = some (some (.ref fI))) (tI : PySem.W.typeIn X.K (.ref fI) = some (.type "function"))
    (F : FnOk X.prog X.w X.K X.mg X.base CX0 1 fI fd ["self", "index"] (spIndex C)) (hr : Room 2 X.A) (hb : Binds X.K fd ["self", "index"] []) (hg : Gl X x) (hm : X.mg x = some (.ref C)) (ha : PA X [e] ta)
    (hdb : (x == ("__debug__" : Str)) = false := by decide) (he : starEach [e] X.env = (false, eval e X.env) :: starEach [] X.env := by rfl) (hpl : (backTo pos (starEach [] X.env)).any (·.1) = false := by rfl) :
    PMk X (.Call (.Name x p) [e] [] pos) (tMkO C (spIndex C) [] ta) := pmk_oex (p := p) (pos := pos) T iC tI F hr hb .nil pass0 hg hm ha hdb he hpl
end VK
namespace VK
open PySem PySem.Spec PyProof.Rows L2
/-- the class, as the top has left it, and its maker's promise -/
structure OwnIx (P : Program) (w : World) (K : PySem.W.Frag) (mg : Str → Option Value) (base : Heap) (x : Str) (C : Addr) : Prop where
  ex : ∃ (fI : Addr) (fd : FuncData), OexC K C ∧ PySem.W.findIn K (.ref C) "__init__" = some (some (.ref fI)) ∧ PySem.W.typeIn K (.ref fI) = some (.type "function") ∧ FnOk P w K mg base CX0 1 fI fd ["self", "index"] (spIndex C) ∧ Binds K fd ["self", "index"] []
  gm : mg x = some (.ref C)
theorem OwnIx.pmk {X : Cx} {x : Str} {e : Expr} {ta : TA} {p pos : Pos} {C : Addr} (D : OwnIx X.prog X.w X.K X.mg X.base x C) (hr : Room 2 X.A) (hg : Gl X x) (ha : PA X [e] ta)
    (hdb : (x == ("__debug__" : Str)) = false := by decide) (he : starEach [e] X.env = (false, eval e X.env) :: starEach [] X.env := by rfl) (hpl : (backTo pos (starEach [] X.env)).any (·.1) = false := by rfl) :
    PMk X (.Call (.Name x p) [e] [] pos) (tMkO C (spIndex C) [] ta) := by
  obtain ⟨fI, fd, T, iC, tI, F, hb⟩ := D.ex
  exact pmk_ix T iC tI F hr hb hg D.gm ha hdb he hpl
end VK
namespace VK
open PySem PySem.Spec PyProof.Rows L2
/-- turns over a range, whatever a turn is (for comprehensions of two loops) -/
theorem it_range {lo : Int} {n : Nat} {B : V → Hp → (Hp → Prop) → Prop} {Qd : Hp → Prop} {H0 : Hp} (Pv : Nat → Hp → Prop) (h0 : Pv 0 H0) (hs : ∀ i H, i < n → Pv i H → B (.int (lo + i)) H (Pv (i + 1))) (hd : ∀ H, Pv n H → Qd H) :
    ∃ W : Nat → Nat → Hp → Prop, (∃ m, W 0 m H0) ∧ ∀ i m H, W i m H →
      ((Itr lo n).stop i H ∧ Qd H) ∨ ((Itr lo n).go i H ∧ ∃ Nx : Hp → Prop, (∀ H', Nx H' → ∃ m', m' < m ∧ W (i + 1) m' H') ∧ ∀ x H', (Itr lo n).yld i H x H' → B x H' Nx) := by
  let W : Nat → Nat → Hp → Prop := fun i m H => m + i = n ∧ Pv i H
  refine ⟨W, ⟨n, by omega, h0⟩, ?_⟩
  rintro i m H ⟨e, p⟩
  by_cases c : i < n
  · refine Or.inr ⟨c, Pv (i + 1), fun H' q => ⟨m - 1, by omega, by omega, q⟩, ?_⟩
    rintro x H' ⟨rfl, rfl⟩
    exact hs i _ c p
  · have z : i = n := by omega
    subst z
    exact Or.inl ⟨Nat.le_refl _, hd H p⟩
end VK
namespace VK
open PySem PySem.Spec PyProof.Rows L2
/-! ### repr, where no repr is under way -/
abbrev NoG (A : Around) : Prop := A.guards = some []
mutual
theorem dp_plain {K : PySem.W.Frag} {H : Hp} : ∀ (d : PyData) (v : V), Dp K H v d → d.hasDict = false
  | .none, _, _ => rfl
  | .bool _, _, _ => rfl
  | .int _, _, _ => rfl
  | .str _, _, _ => rfl
  | .list ds, _, h => by
    cases h with
    | lst _ a =>
      show PyData.hasDictAll ds = false
      exact dp_plains ds _ a
  | .tuple ds, _, h => by
    cases h with
    | tup _ a =>
      show PyData.hasDictAll ds = false
      exact dp_plains ds _ a
  | .dict _, _, h => by cases h
theorem dp_plains {K : PySem.W.Frag} {H : Hp} : ∀ (ds : List PyData) (vs : List V), DpAll K H vs ds → PyData.hasDictAll ds = false
  | [], _, _ => rfl
  | d :: ds, _, h => by
    cases h with
    | cons a b =>
      simp only [PyData.hasDictAll, Bool.or_eq_false_iff]
      exact ⟨dp_plain d _ a, dp_plains ds _ b⟩
end
/-- what repr of data asks and gives -/
structure Shows (d : PyData) : Prop where
  able : d.showable = true
  deep : d.depth ≤ 50
  fits : d.shown.length ≤ sizeLine
def rShow (K : PySem.W.Frag) : List V → Hp → VK → Prop := fun xs H Q => ∃ (x : V) (d : PyData), xs = [x] ∧ Dp K H x d ∧ Shows d ∧ Q (.str d.shown) H
theorem cr_rep {X : Cx} (hg : NoG X.A) (hu : X.A.units + 64 < cLine) : CallR X (.builtin "repr") (rShow X.K) := by
  intro pins s σ H xs us Q I r h
  obtain ⟨x, d, rfl, hd, ⟨able, deep, fits⟩, q⟩ := h
  obtain ⟨u, rfl, ru⟩ := vals1 r
  obtain ⟨as, rd⟩ := Dp.reads I d x u hd ru
  cases rd with
  | none => exact P.repr_of_none ⟨.str _, H, I.tok _, ⟨_, rfl⟩, q⟩
  | bool b =>
    have e : PyData.shown (.bool b) = (if b then ("True" : Str) else ("False" : Str)) := rfl
    refine P.repr_of_bool ⟨.str _, H, I.tok _, ⟨_, rfl⟩, ?_⟩
    rw [← e]
    exact q
  | int i t =>
    have z : i.natAbs.log2 < 1920 := of_decide_eq_true able
    exact P.repr_of_int z ⟨.str _, H, I.tok _, ⟨_, rfl⟩, q⟩
  | str x t => exact P.repr_of_str ⟨.str _, H, I.tok _, ⟨_, rfl⟩, q⟩ fits
  | list h1 h2 h3 h4 =>
    refine repr_of_reads' (.list h1 h2 h3 h4) able (PyData.noDict_hsm (dp_plain _ _ hd)) hg (by omega) (fun _ _ e => e) (fun h' u tk kp => ?_) fits
    exact ⟨.str _, H, I.kept kp, ⟨_, rfl⟩, q⟩
  | tuple h1 h2 h3 h4 =>
    refine repr_of_reads' (.tuple h1 h2 h3 h4) able (PyData.noDict_hsm (dp_plain _ _ hd)) hg (by omega) (fun _ _ e => e) (fun h' u tk kp => ?_) fits
    exact ⟨.str _, H, I.kept kp, ⟨_, rfl⟩, q⟩
  | dict h1 h2 h3 h4 h5 => cases hd
/-! ### a def that is called where no repr is under way -/
structure FnG (P : Program) (w : World) (K : PySem.W.Frag) (mg : Str → Option Value) (base : Heap) (CX : CXT) (k : Nat) (f : Addr) (fd : FuncData) (ps : List Str) (sp : Sp) : Prop where
  len : ∀ vs H Q E, sp vs H Q E → vs.length = ps.length
  at_ : ∀ (A : Around), NoG A → Room k A → ∀ (outer : List Env) (s : Shared) (H : Hp) (args : Args) (us : List Value) (vs : List V) (Q : VK) (E : XK), Env0 P w K mg base A outer s H →
    BindsTo s fd args (ps.zip us) → Vals vs us → sp vs H Q E → codeAny (model P w) A (.call (.ref f) args) (CR CX outer P w H s Q E) s
section
variable {P : Program} {w : World} {K : PySem.W.Frag} {mg : Str → Option Value} {base : Heap} {CX : CXT} {k : Nat} {f : Addr}
theorem FnG.of {fd : FuncData} {ps : List Str} {sp : Sp} (F : FnOk P w K mg base CX k f fd ps sp) : FnG P w K mg base CX k f fd ps sp :=
  ⟨F.len, fun A _ hr outer s H args us vs Q E e b r h => F.run A outer s H args us vs Q E hr e b r h⟩
/-- by its body, read where no repr is under way -/
theorem fng_body {x qual : Str} {st : Stmt} {fd : FuncData} {N ps : List Str} {sp : Sp} (F : Fun K x qual st f fd) (S : FnScope N ps (defScope st)) (len : ∀ vs H Q E, sp vs H Q E → vs.length = ps.length)
    (body : ∀ (cdv : Value) (A : Around) (outer : List Env) (s : Shared) (H : Hp) (vs : List V) (Q : VK) (E : XK), NoG A → Room k (A.deeper (envOfC qual (defScope st) s.heap.objs.size f cdv)) → sp vs H Q E →
      ∃ t, PSs (cxOf CX P w K mg base N qual (defScope st) f cdv A outer s H E) (defBody st) t ∧ t { nx := fun _ H' => Q .non H', rt := Q } (start N vs) H) :
    FnG P w K mg base CX (k + 1) f fd ps sp := by
  obtain ⟨oc, od, kV, doc, pm, an, cdv, ct, osl, efd, lk, codes⟩ := F.ex
  subst efd
  refine ⟨len, fun A guard hr outer s H args us vs Q E env0 binds r hsp => ?_⟩
  have lenV := len vs H Q E hsp
  have inK : K.In s.heap := env0.mod.kin.keeps (fun b o e => (env0.bs b o e).1)
  have noLim : s.heap.NoLimit := env0.mod.nolimit.keeps (fun b o e => (env0.bs b o e).1)
  have kinds : ∀ y ∈ ps.zip us, (defScope st).names.lookup y.1 = some .local ∨ ((defScope st).names.lookup y.1 = some .cell ∧ ((cellsFrom (s.heap.objs.size + 1) (defScope st).names []).lookup y.1).isSome = true) := by
    rintro ⟨n, v⟩ hy
    have hn : n ∈ ps := (List.of_mem_zip hy).1
    cases S.par n hn with
    | inl q => exact Or.inl q
    | inr q => exact Or.inr ⟨q, PySem.W.cellsFrom_some _ _ _ (Or.inl q)⟩
  apply codeAny_call_function hr.depth (inK _ _ lk) rfl S.co S.gen rfl (PySem.W.codeRec_of inK codes)
  apply binds
  apply wpAny_newFunctionEnv_cells S.kind kinds
  intro env henv s1 laid
  subst henv
  refine ⟨noLim.keeps laid.toInCall.keep, codeAny_func ?_⟩
  obtain ⟨t, reads, hq⟩ := body cdv A outer s H vs Q E guard (hr.deeper _) hsp
  have I : Inv (cxOf CX P w K mg base N qual (defScope st) f cdv A outer s H E) [] (start N vs) H s1 := inv_start S hr.hd env0 lenV r laid
  have ended : ∀ {σ' : L2.St} {H' : Hp} {v : V} {u : Value} {s' : Shared}, Inv (cxOf CX P w K mg base N qual (defScope st) f cdv A outer s H E) [] σ' H' s' → RelV v u → Q v H' → CE outer P w H s Q u s' := by
    intro σ' H' v u s' J rv q
    exact ⟨v, H', J.os, J.bare, J.base, J.hok, rv, q⟩
  refine wpAny_mono (reads.run [] s1 (start N vs) H _ I hq) ?_ (fun e s' z => z)
  rintro (_ | _ | _ | u) s' hs
  · obtain ⟨σ', H', J, q⟩ := hs
    exact ended (v := .non) (u := Value.none) J rfl q
  · obtain ⟨_, _, _, q⟩ := hs
    exact q.elim
  · obtain ⟨_, _, _, q⟩ := hs
    exact q.elim
  · obtain ⟨v, σ', H', J, rv, q⟩ := hs
    exact ended J rv q
/-- .. of a def that lets nothing out -/
theorem fng_mk {x qual : Str} {st : Stmt} {fd : FuncData} {N ps : List Str} {sp : Sp} (F : Fun K x qual st f fd) (S : FnScope N ps (defScope st)) (len : ∀ vs H Q E, sp vs H Q E → vs.length = ps.length)
    (body : ∀ (cdv : Value) (A : Around) (outer : List Env) (s : Shared) (H : Hp) (vs : List V) (Q : VK) (E : XK), NoG A → Room k (A.deeper (envOfC qual (defScope st) s.heap.objs.size f cdv)) → sp vs H Q E →
      ∃ t, PSs (cxOf CX0 P w K mg base N qual (defScope st) f cdv A outer s H E).nox (defBody st) t ∧ t { nx := fun _ H' => Q .non H', rt := Q } (start N vs) H) :
    FnG P w K mg base CX0 (k + 1) f fd ps sp := fng_body F S len fun cdv A outer s H vs Q E guard hr h =>
  let ⟨t, reads, q⟩ := body cdv A outer s H vs Q E guard hr h
  ⟨t, reads.nox, q⟩
end
end VK
namespace VK
open PySem PySem.Spec PyProof.Rows L2
/-! ### the caller's own call: no repr is under way -/
section
variable {P : Program} {w : World} {K : PySem.W.Frag} {mg mb : Str → Option Value} {CX : CXT} {k : Nat} {fa a : Addr} {fd : FuncData} {x : Str} {sp : Sp} {s1 : Shared} {us : List Value} {ns : List Int}
/-- what the call gives in the end -/
abbrev Ended (s1 : Shared) (r : Result) (s' : Shared) : Prop := r = .ok (.ret (.bool true)) ∧ OldK s1.heap s'.heap ∧ s'.os = s1.os ∧ AllBare s'.gens
/-- from a heap in which at most the script is known -/
theorem asked_at {H : Hp} (inK : K.In s1.heap) (nsM : s1.heap.Ns mainGlobals mg) (nsB : s1.heap.Ns builtinsNs mb) (boot : ∀ x : Str, x ≠ "__name__" → mb x = bootBuiltins x) (noLim : s1.heap.NoLimit) (noGen : s1.gens = #[])
    (obj : s1.heap.get? a = some { cls := .type "list", data := .seq us.toArray }) (hr : Room k callerA)
    (F : ∀ base : Heap, K.In base → base.Ns mainGlobals mg → FnG P w K mg base CX k fa fd [x] sp) (binds : ∀ (s : Shared) (u : Value), BindsTo s fd ⟨[u], []⟩ [(x, u)])
    (hsp : sp [.ref a] H (fun v _ => v = .bl true) fun _ _ _ => False) (hCX : ∀ H e s', CX [] H s1 (fun _ _ _ => False) e s' → False)
    (only : Only H) (ok : HOk P w H s1.heap) (self : ∀ b, H b ≠ none → b = a) (free : H a ≠ none → K.lookup a = none) :
    codeAny (model P w) callerA (.call (.ref fa) ⟨[.ref a], []⟩) (Ended s1) s1 := by
  have plainly : ∀ {b : Addr} {o : Obj}, s1.heap.get? b = some o → b ≠ a → (hidT s1.heap H).get? b = some o := by
    intro b o e ne
    refine hidT_get e ?_
    cases q : H b with
    | none => rfl
    | some u => exact absurd (self b (by rw [q]; exact Option.some_ne_none u)) ne
  have spaces : ∀ {b : Addr} {m : Str → Option Value}, s1.heap.Ns b m → (hidT s1.heap H).Ns b m := by
    rintro b m ⟨o, es, ep, e, d, rest⟩
    refine ⟨o, es, ep, plainly e ?_, d, rest⟩
    intro z
    subst z
    have same : (some o : Option Obj) = some { cls := .type "list", data := .seq us.toArray } := e.symm.trans obj
    injection same with same
    rw [same] at d
    cases (show Data.seq us.toArray _ = Data.dict es ep from d)
  have inB : K.In (hidT s1.heap H) := by
    intro b o e
    cases q : H b with
    | none => exact hidT_get (inK b o e) q
    | some u =>
      have z : b = a := self b (by rw [q]; exact Option.some_ne_none u)
      subst z
      rw [free (by rw [q]; exact Option.some_ne_none u)] at e
      cases e
  obtain ⟨mc, l1, l2⟩ := noLim
  have modB : Mod K mg (hidT s1.heap H) := ⟨inB, spaces nsM, ⟨mb, spaces nsB, boot⟩, ⟨mc, spaces l1, l2⟩⟩
  have env0 : Env0 P w K mg (hidT s1.heap H) callerA [] s1 H :=
    { frames := rfl, mod := modB, bs := fun b o e => of_hidT e, bsz := Nat.le_of_eq (hidT_size _ _), funs := trivial, frf := (by intro b hb; cases hb), hok := ok, bare := AllBare.of_eq noGen }
  have run := (F _ inB (spaces nsM)).at_ callerA rfl hr [] s1 H ⟨[.ref a], []⟩ [.ref a] [.ref a] _ _ env0 (binds s1 (.ref a)) (.cons rfl .nil) hsp
  refine codeAny_mono run ?_
  rintro (e | (_ | _ | _ | u)) s' h
  · exact (hCX H e s' h).elim
  · exact h.elim
  · exact h.elim
  · exact h.elim
  · obtain ⟨v, H', os, bare, un, ok', rv, hv⟩ := h
    have hv' : v = .bl true := hv
    subst hv'
    have eu : u = Value.bool true := rv
    subst eu
    refine ⟨rfl, OldK.of_keep (fun b o e => ?_), os, bare⟩
    rcases only b with q | ⟨ob, xs, q⟩
    · refine un.keep b o e q (fun z => ?_) (fun z => ?_)
      · cases z
      · cases z
    · have before := (ok b _ q).1
      have after := (ok' b _ (un.frzs b ob _ q)).1
      rw [e] at before
      injection before with before
      rw [before]
      exact after
theorem asked {n : Nat} (inK : K.In s1.heap) (nsM : s1.heap.Ns mainGlobals mg) (nsB : s1.heap.Ns builtinsNs mb) (boot : ∀ x : Str, x ≠ "__name__" → mb x = bootBuiltins x) (noLim : s1.heap.NoLimit) (noGen : s1.gens = #[])
    (obj : s1.heap.get? a = some { cls := .type "list", data := .seq us.toArray }) (hi : IntsAre us ns) (fits : ns.length ≤ sizeLine) (hr : Room k callerA)
    (F : ∀ base : Heap, K.In base → base.Ns mainGlobals mg → FnG P w K mg base CX k fa fd [x] sp) (binds : ∀ (s : Shared) (u : Value), BindsTo s fd ⟨[u], []⟩ [(x, u)])
    (hsp : ∀ H : Hp, Only H → SqL K H a (ns.map V.int) → sp [.ref a] H (fun v _ => v = .bl true) fun _ _ _ => False) (hCX : ∀ H e s', CX [] H s1 (fun _ _ _ => False) e s' → False) :
    codeAny (model P w) callerA (.call (.ref fa) ⟨[.ref a], []⟩) (Ended s1) s1 := by
  have rv := vals_ints hi
  have many := hi.length
  by_cases known : ∃ o, K.lookup a = some o
  · obtain ⟨o, ho⟩ := known
    have e : o = { cls := .type "list", data := .seq us.toArray } := by
      have := (inK a o ho).symm.trans obj
      injection this
    subst e
    have sq : SqL K (fun _ => Option.none) a (ns.map V.int) :=
      Or.inr ⟨_, us.toArray, _, ho, rfl, rfl, rfl, (by rw [List.size_toArray, many]; exact fits), (by simpa using rv)⟩
    refine asked_at inK nsM nsB boot noLim noGen obj hr F binds (hsp (fun _ => Option.none) (fun _ => Or.inl rfl) sq) hCX (fun _ => Or.inl rfl) ?_ ?_ ?_
    · intro b u z
      cases z
    · intro b z
      exact absurd rfl z
    · intro z
      exact absurd rfl z
  · have out : K.lookup a = none := by
      cases q : K.lookup a with
      | none => rfl
      | some o => exact absurd ⟨o, q⟩ known
    let H : Hp := fun b => if b = a then some (.frz { cls := .type "list", data := .seq us.toArray } (.lst (ns.map V.int))) else none
    have Ha : H a = some (.frz { cls := .type "list", data := .seq us.toArray } (.lst (ns.map V.int))) := if_pos rfl
    have Hb : ∀ b, b ≠ a → H b = none := fun b z => if_neg z
    have only : Only H := by
      intro b
      by_cases z : b = a
      · subst z
        exact Or.inr ⟨_, _, Ha⟩
      · exact Or.inl (Hb b z)
    refine asked_at (H := H) inK nsM nsB boot noLim noGen obj hr F binds (hsp H only (Or.inl (Or.inr ⟨_, Ha⟩))) hCX only ?_ ?_ (fun _ => out)
    · intro b u z
      by_cases e : b = a
      · subst e
        rw [Ha] at z
        injection z with z
        subst z
        refine ⟨obj, ?_, us, _, rv, obj⟩
        rw [List.length_map]
        exact fits
      · rw [Hb b e] at z
        cases z
    · intro b z
      by_cases e : b = a
      · exact e
      · exact absurd (Hb b e) z
end
/-- a law's row, from its promise where no repr is under way -/
theorem walk_g {l : PySem.W.OpenLaw} {n k : Nat} {q : Program} {loose : List Str} {XP : (Str → Option Value) → Heap → Prop} {YP : World → Heap → Prop} {d : DefRec} {K : PySem.Params → PySem.W.Frag} {CX : World → CXT} {sp : World → Sp} {x : Str}
    (most : l.most = some n) (fits : n ≤ sizeLine) (plain : d.params.defaults = []) (hr : Room k callerA)
    (inK : ∀ (w : World) (h : Heap), YP w h → (K w.params).In h)
    (F : ∀ (w : World) (mg : Str → Option Value) (fa : Addr) (h : Heap), (K w.params).In h → h.Ns mainGlobals mg → mg d.name = some (.ref fa) →
      ∃ fd : FuncData, (∀ (s : Shared) (u : Value), BindsTo s fd ⟨[u], []⟩ [(x, u)]) ∧ ∀ base : Heap, (K w.params).In base → base.Ns mainGlobals mg → FnG l.prog w (K w.params) mg base (CX w) k fa fd [x] (sp w))
    (hsp : ∀ (w : World) (H : Hp) (a : Addr) (ns : List Int), ns.length ≤ n → Only H → SqL (K w.params) H a (ns.map V.int) → sp w [.ref a] H (fun v _ => v = .bl true) fun _ _ _ => False)
    (hCX : ∀ (w : World) (H : Hp) (s : Shared) (e : Value) (s' : Shared), CX w [] H s (fun _ _ _ => False) e s' → False) :
    PySem.W.WalkO q loose XP YP l.row.toRowW d [] (fun f vs => PySem.call f vs) := by
  apply Att.attach_call most plain
  intro w s₀ s1 mg mb fa o pm cd doc a us ns G Y ho hd hcd hmg obj whole len noGen
  have kin := inK w _ Y
  obtain ⟨fd, binds, F'⟩ := F w mg fa _ kin G.T.g hmg
  exact asked (n := n) kin G.T.g G.T.b G.T.builtins G.T.nolimit noGen obj whole (Nat.le_trans len fits) hr F' binds (fun H h1 h2 => hsp w H a ns len h1 h2) (fun H e s' => hCX w H s1 e s')
end VK
namespace VK
open PySem PySem.Spec PyProof.Rows L2
/-! ### data of small numbers is shown -/
/-- all that repr asks, by a rough size -/
structure Lean (d : PyData) (n : Nat) : Prop where
  able : d.showable = true
  short : d.leavesShort 13 = true
  deep : d.depth ≤ 40
  bulk : d.bulk ≤ n
structure LeanAll (ds : List PyData) (n : Nat) : Prop where
  able : PyData.showableAll ds = true
  short : PyData.leavesShortAll 13 ds = true
  deep : PyData.depthAll ds ≤ 40
  bulk : PyData.bulkAll ds ≤ n
theorem Lean.shows {d : PyData} {n : Nat} (h : Lean d n) (hn : n ≤ 1000000) : Shows d := by
  refine ⟨h.able, Nat.le_trans h.deep (by decide), ?_⟩
  refine PyData.shown_fits_bulk (B := 13) (by decide) (by decide) h.short (Nat.le_trans h.bulk (Nat.le_trans hn (by decide)))
theorem lean_nil : LeanAll [] 0 := ⟨rfl, rfl, Nat.zero_le _, Nat.le_refl _⟩
theorem lean_cons {d : PyData} {ds : List PyData} {n m : Nat} (a : Lean d n) (b : LeanAll ds m) : LeanAll (d :: ds) (n + 1 + m) := by
  refine ⟨?_, ?_, ?_, ?_⟩
  · show (d.showable && PyData.showableAll ds) = true
    rw [a.able, b.able]
    rfl
  · show (d.leavesShort 13 && PyData.leavesShortAll 13 ds) = true
    rw [a.short, b.short]
    rfl
  · show max d.depth (PyData.depthAll ds) ≤ 40
    exact Nat.max_le.mpr ⟨a.deep, b.deep⟩
  · show d.bulk + 1 + PyData.bulkAll ds ≤ n + 1 + m
    have := a.bulk
    have := b.bulk
    omega
theorem lean_int {n : Nat} (h : n ≤ 9) : Lean (pint n) 0 := by
  have all : ∀ n, n ≤ 9 → PyData.showable (pint n) = true ∧ PyData.leavesShort 13 (pint n) = true := by decide +kernel
  exact ⟨(all n h).1, (all n h).2, Nat.zero_le _, Nat.le_refl _⟩
theorem lean_ints : ∀ {ns : List Nat}, (∀ n ∈ ns, n ≤ 9) → LeanAll (ns.map pint) ns.length ∧ PyData.depthAll (ns.map pint) = 0
  | [], _ => ⟨lean_nil, rfl⟩
  | n :: r, h => by
    have a := lean_ints (ns := r) fun x hx => h x (by simp [hx])
    refine ⟨?_, dep_ints _⟩
    have q := lean_cons (lean_int (h n (by simp))) a.1
    rw [show 0 + 1 + r.length = (n :: r).length by simp; omega] at q
    exact q
theorem lean_tup {ns : List Nat} (h : ∀ n ∈ ns, n ≤ 9) : Lean (ptup ns) ns.length := by
  obtain ⟨a, b⟩ := lean_ints h
  refine ⟨a.able, a.short, ?_, a.bulk⟩
  show PyData.depthAll (ns.map pint) + 1 ≤ 40
  omega
theorem lean_il {ns : List Nat} (h : ∀ n ∈ ns, n ≤ 9) : Lean (.list (ns.map pint)) ns.length := by
  obtain ⟨a, b⟩ := lean_ints h
  refine ⟨a.able, a.short, ?_, a.bulk⟩
  show PyData.depthAll (ns.map pint) + 1 ≤ 40
  omega
theorem lean_tups {c : Nat} : ∀ {nss : List (List Nat)}, (∀ ns ∈ nss, ns.length ≤ c ∧ ∀ n ∈ ns, n ≤ 9) → LeanAll (nss.map ptup) (nss.length * (c + 1))
  | [], _ => by
    have q := lean_nil
    simpa using q
  | ns :: r, h => by
    have a := lean_tups (nss := r) fun x hx => h x (by simp [hx])
    obtain ⟨h1, h2⟩ := h ns (by simp)
    have q := lean_cons (lean_tup h2) a
    refine ⟨q.able, q.short, q.deep, Nat.le_trans q.bulk ?_⟩
    rw [List.length_cons, Nat.add_mul]
    omega
theorem lean_list {nss : List (List Nat)} {c : Nat} (h : ∀ ns ∈ nss, ns.length ≤ c ∧ ∀ n ∈ ns, n ≤ 9) : Lean (plist nss) (nss.length * (c + 1)) := by
  have a := lean_tups h
  refine ⟨a.able, a.short, ?_, a.bulk⟩
  show PyData.depthAll (nss.map ptup) + 1 ≤ 40
  have := dep_tups nss
  omega
theorem shows_tup {ns : List Nat} (h : ∀ n ∈ ns, n ≤ 9) (hz : ns.length ≤ 1000000) : Shows (ptup ns) := (lean_tup h).shows hz
theorem shows_il {ns : List Nat} (h : ∀ n ∈ ns, n ≤ 9) (hz : ns.length ≤ 1000000) : Shows (.list (ns.map pint)) := (lean_il h).shows hz
theorem shows_list {nss : List (List Nat)} {c : Nat} (h : ∀ ns ∈ nss, ns.length ≤ c ∧ ∀ n ∈ ns, n ≤ 9) (hz : nss.length * (c + 1) ≤ 1000000) : Shows (plist nss) := (lean_list h).shows hz
/-- two lists of numbers in a list -/
theorem shows_two {as bs : List Nat} (ha : ∀ n ∈ as, n ≤ 9) (hb : ∀ n ∈ bs, n ≤ 9) (hz : as.length + bs.length ≤ 100000) : Shows (.list [.list (as.map pint), .list (bs.map pint)]) := by
  have q := lean_cons (lean_il ha) (lean_cons (lean_il hb) lean_nil)
  refine Lean.shows (n := as.length + 1 + (bs.length + 1 + 0)) ⟨q.able, q.short, ?_, q.bulk⟩ (by omega)
  show max (PyData.depthAll (as.map pint) + 1) (max (PyData.depthAll (bs.map pint) + 1) 0) + 1 ≤ 40
  rw [dep_ints, dep_ints]
  decide
theorem v_rep {K : PySem.W.Frag} {H : Hp} {σ : L2.St} {x : V} {d : PyData} {Q : VK} (hd : Dp K H x d) (hs : Shows d) (q : Q (.str d.shown) H) : tNil σ H (fun xs H2 => rShow K (x :: xs) H2 Q) := ⟨x, d, rfl, hd, hs, q⟩
end VK
namespace My
open PySem L2 VK
def top (i : Nat) : Stmt := PySem.Challenge.pw_turnweights_k12_switches_on_and_parting.main.body.getD i (.Pass ⟨0, 0, 0, 0⟩)
abbrev sis_integer : Stmt := top 5
abbrev nis_integer : List Str := ["value"]
theorem scis_integer : FnScope nis_integer ["value"] (defScope sis_integer) := ⟨rfl, rfl, rfl, by decide +kernel, rfl, by decide +kernel, by decide +kernel⟩
abbrev smemory_of : Stmt := top 7
abbrev nmemory_of : List Str := ["top", "history"]
theorem scmemory_of : FnScope nmemory_of ["top", "history"] (defScope smemory_of) := ⟨rfl, rfl, rfl, by decide +kernel, rfl, by decide +kernel, by decide +kernel⟩
abbrev smemory_after : Stmt := top 8
abbrev nmemory_after : List Str := ["top", "memory", "levels"]
theorem scmemory_after : FnScope nmemory_after ["top", "memory", "levels"] (defScope smemory_after) := ⟨rfl, rfl, rfl, by decide +kernel, rfl, by decide +kernel, by decide +kernel⟩
abbrev sswitches_on : Stmt := top 9
abbrev nswitches_on : List Str := ["top", "memory", "heights", "switch"]
theorem scswitches_on : FnScope nswitches_on ["top", "memory"] (defScope sswitches_on) := ⟨rfl, rfl, rfl, by decide +kernel, rfl, by decide +kernel, by decide +kernel⟩
abbrev sparting_switch : Stmt := top 10
abbrev nparting_switch : List Str := ["top", "first", "second", "on_first", "on_second", "switch"]
theorem scparting_switch : FnScope nparting_switch ["top", "first", "second"] (defScope sparting_switch) := ⟨rfl, rfl, rfl, by decide +kernel, rfl, by decide +kernel, by decide +kernel⟩
abbrev sswitches : Stmt := top 11
abbrev nswitches : List Str := ["top", "up", "down"]
theorem scswitches : FnScope nswitches ["top"] (defScope sswitches) := ⟨rfl, rfl, rfl, by decide +kernel, rfl, by decide +kernel, by decide +kernel⟩
abbrev sis_level : Stmt := top 12
abbrev nis_level : List Str := ["top", "value"]
theorem scis_level : FnScope nis_level ["top", "value"] (defScope sis_level) := ⟨rfl, rfl, rfl, by decide +kernel, rfl, by decide +kernel, by decide +kernel⟩
abbrev sis_memory : Stmt := top 13
abbrev nis_memory : List Str := ["top", "value", "entry"]
theorem scis_memory : FnScope nis_memory ["top", "value"] (defScope sis_memory) := ⟨rfl, rfl, rfl, by decide +kernel, rfl, by decide +kernel, by decide +kernel⟩
abbrev scheck_levels : Stmt := top 14
abbrev ncheck_levels : List Str := ["top", "levels", "index", "level"]
theorem sccheck_levels : FnScope ncheck_levels ["top", "levels"] (defScope scheck_levels) := ⟨rfl, rfl, rfl, by decide +kernel, rfl, by decide +kernel, by decide +kernel⟩
abbrev scheck_memory : Stmt := top 15
abbrev ncheck_memory : List Str := ["top", "memory"]
theorem sccheck_memory : FnScope ncheck_memory ["top", "memory"] (defScope scheck_memory) := ⟨rfl, rfl, rfl, by decide +kernel, rfl, by decide +kernel, by decide +kernel⟩
abbrev smoved : Stmt := top 16
abbrev nmoved : List Str := ["memory", "level", "place", "entry", "is_wiped"]
theorem scmoved : FnScope nmoved ["memory", "level"] (defScope smoved) := ⟨rfl, rfl, rfl, by decide +kernel, rfl, by decide +kernel, by decide +kernel⟩
abbrev s_followed : Stmt := top 17
abbrev n_followed : List Str := ["memory", "levels", "level"]
theorem sc_followed : FnScope n_followed ["memory", "levels"] (defScope s_followed) := ⟨rfl, rfl, rfl, by decide +kernel, rfl, by decide +kernel, by decide +kernel⟩
abbrev s_heights : Stmt := top 18
abbrev n_heights : List Str := ["top", "memory", "down"]
theorem sc_heights : FnScope n_heights ["top", "memory"] (defScope s_heights) := ⟨rfl, rfl, rfl, by decide +kernel, rfl, by decide +kernel, by decide +kernel⟩
abbrev s_height : Stmt := top 19
abbrev n_height : List Str := ["memory", "down", "height", "level"]
theorem sc_height : FnScope n_height ["memory", "down"] (defScope s_height) := ⟨rfl, rfl, rfl, by decide +kernel, rfl, by decide +kernel, by decide +kernel⟩
abbrev s_law_feed : Stmt := top 21
abbrev n_law_feed : List Str := ["script", "k", "seed", "digits"]
theorem sc_law_feed : FnScope n_law_feed ["script", "k"] (defScope s_law_feed) := ⟨rfl, rfl, rfl, by decide +kernel, rfl, by decide +kernel, by decide +kernel⟩
abbrev s_law_take : Stmt := top 22
abbrev n_law_take : List Str := ["feed", "size", "digit"]
theorem sc_law_take : FnScope n_law_take ["feed", "size"] (defScope s_law_take) := ⟨rfl, rfl, rfl, by decide +kernel, rfl, by decide +kernel, by decide +kernel⟩
abbrev s_law_pick : Stmt := top 23
abbrev n_law_pick : List Str := ["feed", "things"]
theorem sc_law_pick : FnScope n_law_pick ["feed", "things"] (defScope s_law_pick) := ⟨rfl, rfl, rfl, by decide +kernel, rfl, by decide +kernel, by decide +kernel⟩
abbrev s_law_switches : Stmt := top 24
abbrev n_law_switches : List Str := ["top", "found", "up", "down"]
theorem sc_law_switches : FnScope n_law_switches ["top"] (defScope s_law_switches) := ⟨rfl, rfl, rfl, by decide +kernel, rfl, by decide +kernel, by decide +kernel⟩
abbrev s_law_history : Stmt := top 25
abbrev n_law_history : List Str := ["feed", "top", "most", "turn"]
theorem sc_law_history : FnScope n_law_history ["feed", "top", "most"] (defScope s_law_history) := ⟨rfl, rfl, rfl, by decide +kernel, rfl, by decide +kernel, by decide +kernel⟩
abbrev s_law_is_on : Stmt := top 26
abbrev n_law_is_on : List Str := ["switch", "levels", "found", "level"]
theorem sc_law_is_on : FnScope n_law_is_on ["switch", "levels"] (defScope s_law_is_on) := ⟨rfl, rfl, rfl, by decide +kernel, rfl, by decide +kernel, by decide +kernel⟩
abbrev s_law_memories : Stmt := top 27
abbrev n_law_memories : List Str := ["top", "lots", "found", "level", "lot", "left", "entries", "many"]
theorem sc_law_memories : FnScope n_law_memories ["top"] (defScope s_law_memories) := ⟨rfl, rfl, rfl, by decide +kernel, rfl, by decide +kernel, by decide +kernel⟩
abbrev s_law_changed : Stmt := top 28
abbrev n_law_changed : List Str := ["feed", "top", "history", "at", "way", "ahead", "level"]
theorem sc_law_changed : FnScope n_law_changed ["feed", "top", "history"] (defScope s_law_changed) := ⟨rfl, rfl, rfl, by decide +kernel, rfl, by decide +kernel, by decide +kernel⟩
abbrev s_law_parted : Stmt := top 29
abbrev n_law_parted : List Str := ["top", "first", "second", "one"]
theorem sc_law_parted : FnScope n_law_parted ["top", "first", "second"] (defScope s_law_parted) := ⟨rfl, rfl, rfl, by decide +kernel, rfl, by decide +kernel, by decide +kernel⟩
abbrev s_law_asked : Stmt := top 30
abbrev n_law_asked : List Str := ["top", "first", "second", "found", "error"]
theorem sc_law_asked : FnScope n_law_asked ["top", "first", "second"] (defScope s_law_asked) := ⟨rfl, rfl, rfl, by decide +kernel, rfl, by decide +kernel, by decide +kernel⟩
abbrev slaw : Stmt := top 31
abbrev nlaw : List Str := ["script", "k", "feed", "top", "turn", "memory", "told", "first", "second", "shown", "parted", "at", "bad", "odd", "one"]
theorem sclaw : FnScope nlaw ["script"] (defScope slaw) := ⟨rfl, rfl, rfl, by decide +kernel, rfl, by decide +kernel, by decide +kernel⟩

/-- what the top has left -/
structure Txt (K : PySem.W.Frag) (mg : Str → Option Value) (C : Addr) : Prop where
  len_ : mg "len" = none
  int_ : mg "int" = none
  bool_ : mg "bool" = none
  tuple_ : mg "tuple" = none
  list_ : mg "list" = none
  abs_ : mg "abs" = none
  max_ : mg "max" = none
  min_ : mg "min" = none
  range_ : mg "range" = none
  zip_ : mg "zip" = none
  enumerate_ : mg "enumerate" = none
  isinstance_ : mg "isinstance" = none
  sorted_ : mg "sorted" = none
  all_ : mg "all" = none
  repr_ : mg "repr" = none
  gC : mg "BadMemory" = some (.ref C)
  xC : PySem.W.excIn K C [.type "ValueError", .type "Exception", .type "BaseException", .type "object"] "ValueError.__new__" = true
  kC : PySem.W.keepIn K (.ref C) = true
  bC : PySem.W.subIn K (.ref C) (.type "BaseException") = some true
  tC : PySem.W.typeIn K (.ref C) = some (.type "type")
  eC : PySem.W.exmOne K (.ref C) (.ref C) = some true
theorem Txt.BadMemory_pmk {X : Cx} {C : Addr} {p pos : Pos} (T : Txt X.K X.mg C) (hg : Gl X "BadMemory" := by rfl) : PMk X (.Call (.Name "BadMemory" p) [] [] pos) (fun _ H Q => Q (.ref C) none H) :=
  pmk_own0 PySem.F.excBase_ValueError T.xC T.gC T.kC (raises_own T.bC T.tC) hg
theorem Txt.BadMemory_names {X : Cx} {C : Addr} (T : Txt X.K X.mg C) (hg : Gl X "BadMemory" := by rfl) : Names X "BadMemory" (.ref C) := ⟨hg, by decide, .inl T.gC⟩
/-- .. of BadLevels -/
structure TxtL (K : PySem.W.Frag) (mg : Str → Option Value) (D : Addr) : Prop where
  gL : mg "BadLevels" = some (.ref D)
  eL : PySem.W.exmOne K (.ref D) (.ref D) = some true
  xBadLevels : XfC K D
  noBadLevels : PySem.W.findIn K (.ref D) "index" = some none
theorem TxtL.BadLevels_names {X : Cx} {D : Addr} (T : TxtL X.K X.mg D) (hg : Gl X "BadLevels" := by rfl) : Names X "BadLevels" (.ref D) := ⟨hg, by decide, .inl T.gL⟩
abbrev sinit : Stmt := inClass (top 2) 0
theorem scinit : FnScope ["self", "index"] ["self", "index"] (defScope sinit) := ⟨rfl, rfl, rfl, by decide +kernel, rfl, by decide +kernel, by decide +kernel⟩
theorem own_mk {P : Program} {w : World} {K : PySem.W.Frag} {mg : Str → Option Value} {base : Heap} {f D : Addr} {fd : FuncData} (F : Fun K "__init__" "BadLevels.__init__" sinit f fd) (b : Binds K fd ["self", "index"] []) (T : OexC K D) (no : PySem.W.findIn K (.ref D) "index" = some none)
    (iC : PySem.W.findIn K (.ref D) "__init__" = some (some (.ref f))) (tI : PySem.W.typeIn K (.ref f) = some (.type "function")) (gm : mg "BadLevels" = some (.ref D)) : OwnIx P w K mg base "BadLevels" D :=
  ⟨⟨f, fd, T, iC, tI, own_index F scinit ⟨_, _, _, _, rfl⟩ (by decide +kernel) (by decide +kernel) T no, b⟩, gm⟩
/-! ### readings answered step by step -/
local macro_rules | `(tactic| walk_at "hp") => `(tactic| first
  | assumption | exact upd_same | (refine upd_new (by assumption) ?_; walk_at "hp") | (refine upd_old (by assumption) ?_; walk_at "hp"))
local macro_rules | `(tactic| walk_at "sq") => `(tactic| first
  | assumption | (apply SqL.of; walk_at "hp") | (apply SqT.of; walk_at "hp"))
local macro_rules | `(tactic| walk_at "side") => `(tactic| first
  | omega | (show (0 : Int) < _; omega) | exact .inr ⟨by decide, by decide⟩ | exact .inl ⟨by decide, by decide⟩ | exact .inl ⟨by omega, by omega⟩ | exact .inr ⟨by omega, by omega⟩ | exact ⟨by decide, by decide⟩ | exact ⟨by omega, by omega⟩
  | (refine ⟨by decide, by decide, ?_⟩; decide))
local macro_rules | `(tactic| walk_at "size") => `(tactic| (refine small ?_; first | omega | decide | (simp only [List.length_cons, List.length_nil, List.length_append, List.length_map] at *; omega)))
local macro_rules | `(tactic| walk_at "v") => `(tactic| first
  | refine ⟨_, rfl, ?_⟩
  | (apply v_I; (walk_at "side"))
  | refine ⟨_, _, rfl, rfl, ?_⟩
  | (apply v_ixL; (walk_at "sq"); rfl)
  | (apply v_ixT; (walk_at "sq"); rfl)
  | (apply v_setL; (walk_at "hp"); rfl)
  | (apply v_lenL; (walk_at "sq"))
  | (apply v_lenT; (walk_at "sq"))
  | refine .inl ⟨_, rfl, ?_⟩
  | refine ⟨rfl, _, rfl, ?_⟩
  | refine ⟨_, _, rfl, ?_⟩)
local macro_rules | `(tactic| walk_at "vs") => `(tactic| repeat (walk_at "v"))

section
variable {P : Program} {w : World} {K : PySem.W.Frag} {mg : Str → Option Value} {base : Heap} {C : Addr}
/-! ### is_integer, is_level -/
def isI : V → Bool
  | .int _ => true
  | _ => false
theorem isI_lvl {x : V} (h : isI x = false) (top : Nat) : lvl top x = false := by
  cases x with
  | int i => cases h
  | _ => rfl
theorem isI_not {K : PySem.W.Frag} {H : Hp} {x : V} {n : String} (h : TyX K H x (.type n)) (hn : n ≠ "int") : isI x = false := by
  cases x with
  | int i =>
    have := int_ty h
    simp at this
    exact absurd this hn
  | _ => rfl
def spIsInteger (K : PySem.W.Frag) : Sp := fun vs H Q _ => ∃ (x : V) (n : String), vs = [x] ∧ OkT K H x n ∧ Q (.bl (isI x)) H
theorem ok_is_integer {f : Addr} {fd : FuncData} (F : Fun K "is_integer" "is_integer" sis_integer f fd) (T : Txt K mg C) : FnOk P w K mg base CX0 1 f fd ["value"] (spIsInteger K) := by
  have nd := scis_integer.nd
  refine F.ok scis_integer (fun vs H Q E h => ?_) (fun cdv A outer s H vs Q E hr h => ?_)
  · obtain ⟨x, n, rfl, _⟩ := h
    rfl
  · obtain ⟨x, n, rfl, ok, k⟩ := h
    refine ⟨_, (pss_one (ps_ret (pe_and (pe_callB call_isi (by rfl) T.isinstance_ (by decide +kernel) (pa_cons (pv 0) (pa_cons (pe_bltn (v := .ty "int") (by rfl) T.int_ (by decide +kernel) rfl) pa_nil))) (pe_one (pe_not (pe_callB call_isi (by rfl) T.isinstance_ (by decide +kernel) (pa_cons (pv 0) (pa_cons (pe_bltn (v := .ty "bool") (by rfl) T.bool_ (by decide +kernel) rfl) pa_nil)))))))), ?_⟩
    refine ⟨_, rfl, ?_⟩
    apply v_isi ok (kit_int ok.kd)
    refine ⟨_, rfl, ?_⟩
    refine v_ifb (fun e1 => ?_) (fun e1 => ?_)
    · refine ⟨_, rfl, ?_⟩
      apply v_isi ok (kit_bool ok.kd)
      refine ⟨_, rfl, ?_⟩
      by_cases hn : n = "int"
      · subst hn
        obtain ⟨i, rfl⟩ := int_of ok.ty
        exact k
      · have e2 : n = "bool" := by
          simp only [Bool.or_eq_true, beq_iff_eq] at e1
          rcases e1 with e1 | e1
          · exact absurd e1 hn
          · exact e1
        subst e2
        rw [isI_not ok.ty hn] at k
        exact k
    · have hn : n ≠ "int" := by
        rintro rfl
        simp at e1
      show Q (.bl false) H
      rw [← isI_not ok.ty hn]
      exact k
def spIsLevel (K : PySem.W.Frag) : Sp := fun vs H Q _ => ∃ (top : Nat) (x : V) (n : String), vs = [vn top, x] ∧ OkT K H x n ∧ Q (.bl (lvl top x)) H
theorem ok_is_level {f : Addr} {fd : FuncData} (F : Fun K "is_level" "is_level" sis_level f fd) (T : Txt K mg C) (Dis_integer : Def P w K mg base CX0 1 "is_integer" ["value"] (spIsInteger K)) : FnOk P w K mg base CX0 2 f fd ["top", "value"] (spIsLevel K) := by
  have nd := scis_level.nd
  refine F.ok scis_level (fun vs H Q E h => ?_) (fun cdv A outer s H vs Q E hr h => ?_)
  · obtain ⟨top, x, n, rfl, _⟩ := h
    rfl
  · obtain ⟨top, x, n, rfl, ok, k⟩ := h
    refine ⟨_, (pss_one (ps_ret (pe_and (pe_callD Dis_integer (hr.mono (by decide)) rfl pass0 (pa_cons (pv 1) pa_nil)) (pe_one (pe_chain op_le op_le pe_int (pv 1) (pv 0)))))), ?_⟩
    refine ⟨_, rfl, x, n, rfl, ok, _, rfl, ?_⟩
    refine v_ifb (fun e1 => ?_) (fun e1 => ?_)
    · obtain ⟨i, rfl⟩ : ∃ i, x = .int i := by
        cases x with
        | int i => exact ⟨i, rfl⟩
        | _ => cases e1
      refine ⟨_, rfl, _, _, rfl, rfl, _, rfl, ?_⟩
      refine v_ifd (fun hc => ?_) (fun hc => ?_)
      · refine ⟨_, rfl, _, _, rfl, rfl, ?_⟩
        have e : decide (i ≤ (top : Int)) = lvl top (.int i) := by
          unfold lvl
          rw [Bool.eq_iff_iff]
          simp only [decide_eq_true_eq]
          omega
        show Q (.bl (decide (i ≤ (top : Int)))) H
        rw [e]
        exact k
      · have e : false = lvl top (.int i) := by
          unfold lvl
          rw [Bool.eq_iff_iff]
          simp only [decide_eq_true_eq]
          constructor
          · intro z; cases z
          · intro z; exact absurd z.1 hc
        show Q (.bl false) H
        rw [e]
        exact k
    · show Q (.bl false) H
      rw [← isI_lvl e1 top]
      exact k
/-! ### moved -/
def spMoved (K : PySem.W.Frag) : Sp := fun vs H Q _ => ∃ (a : Addr) (m : List Nat) (l : Nat), vs = [.ref a, vn l] ∧ SqT K H a (vns m) ∧ m.length ≤ 50000 ∧
  ∀ p H', Same H H' → SqT K H' p (vns (VM.moved m l)) → Q (.ref p) H'
theorem truth_mod (i : Nat) : ((((i : Nat) : Int) % 2) != 0) = decide (i % 2 = 1) := by
  rw [Bool.eq_iff_iff]
  simp only [bne_iff_ne, ne_eq, decide_eq_true_eq]
  omega
theorem okmoved {f : Addr} {fd : FuncData} (F : Fun K "moved" "moved" smoved f fd) (T : Txt K mg C) : FnOk P w K mg base CX0 1 f fd ["memory", "level"] (spMoved K) := by
  have nd := scmoved.nd
  refine F.ok scmoved (fun vs H Q E h => ?_) (fun cdv A outer s H vs Q E hr h => ?_)
  · obtain ⟨a, m, l, rfl, _⟩ := h
    rfl
  · obtain ⟨a, m, l, rfl, ha, hm, k⟩ := h
    refine ⟨_, (pss_cons (ps_if (pt_cmpR op_eq (pv 1) pe_int (nomark _)) (pss_one (ps_ret (pe_tup pa_nil))) pss_nil) (pss_cons (ps_for PassesOwn.never rfl (pi_enumT (by rfl) T.enumerate_ (pa_cons (pv 0) pa_nil)) (pg_tup rfl (pgs_cons (pg_name (i := 2) nd rfl (Or.inl rfl)) (pgs_cons (pg_name (i := 3) nd rfl (Or.inl rfl)) pgs_nil))) (pss_cons (ps_set (i := 4) nd rfl (Or.inl rfl) (pe_ifExp (pt_truth (pe_op op_mod (pv 2) pe_int) (by intro _; rfl)) (pe_cmpR op_ge (pv 3) (pv 1) (nomark _)) (pe_cmpR op_le (pv 3) (pv 1) (nomark _)))) (pss_one (ps_if (pt_val (pv 4)) (pss_one (ps_ret (pe_op op_catA (pe_slice sl_tupA (pv 0) po_none (po_some (pv 2))) (pe_tup (pa_cons (pv 1) pa_nil))))) pss_nil)))) (pss_one (ps_ret (pe_op op_catA (pv 0) (pe_tup (pa_cons (pv 1) pa_nil))))))), ?_⟩
    refine ⟨_, rfl, rfl, _, rfl, ?_⟩
    refine v_ifd (fun hc => ?_) (fun hc => ?_)
    · refine ⟨by decide, fun p hp => ?_⟩
      refine k p _ (same_new hp) ?_
      have e : l = 0 := by
        have h0 : (vn l) = V.int 0 := hc
        unfold vn at h0
        injection h0 with h1
        omega
      subst e
      exact SqT.of upd_same
    · have hl : l ≠ 0 := by
        rintro rfl
        exact hc rfl
      refine ⟨_, rfl, a, vns m, rfl, ha, for_enumT (K := K) (a := a) (xs := vns m) (fun i σ H' => (∃ v2 v3 v4, σ = [some (.ref a), some (vn l), v2, v3, v4]) ∧ Same H H' ∧ ∀ j x, j < i → m[j]? = some x → VM.wiped (0 + j) x l = false)
        ⟨⟨_, _, _, rfl⟩, Same.refl _, fun j x hj => by omega⟩ (fun i σ H' ⟨_, e, _⟩ => sqT_same e ha) ?_ ?_⟩
      · rintro i x Tt σ H' hx ⟨⟨v2, v3, v4, rfl⟩, e, hn⟩ hT
        obtain ⟨y, hy, rfl⟩ : ∃ y, m[i]? = some y ∧ x = vn y := by
          rw [List.getElem?_map] at hx
          cases q : m[i]? with
          | none => rw [q] at hx; cases hx
          | some y => rw [q] at hx; exact ⟨y, rfl, (Option.some.inj hx).symm⟩
        refine ⟨Tt, _, rfl, SqT.of upd_same, rfl, _, _, rfl, _, _, rfl, rfl, ?_⟩
        have e1 : Same H (upd H' Tt (.tup [.int (i : Nat), vn y])) := e.trans (same_new hT)
        -- is_wiped
        refine ⟨_, rfl, _, _, rfl, rfl, (by show (0 : Int) < 2; decide), _, rfl, ?_⟩
        have hlen : i < m.length := (List.getElem?_eq_some_iff.mp hy).1
        have hcut : cutV (vns m) none (some ((i : Nat) : Int)) = vns (m.take i) := by
          unfold cutV
          rw [HT.sIx_none, HT.sIx_nat, List.length_map, Nat.min_eq_left (by omega)]
          simp [vns, List.map_take]
        have fin : ∀ (H2 : Hp) (Q' : VK), Same H H2 → SqT K H2 a (vns m) → VM.wiped (0 + i) y l = true → (∀ p H', Same H H' → SqT K H' p (vns (VM.moved m l)) → Q' (.ref p) H') →
            tOp (rCatA K) (tSl (rSlA K) (tVar 0) tNoPart (tPart (tVar 2))) (tTup (tCons (tVar 1) tNil)) [some (.ref a), some (vn l), some (.int (i : Nat)), some (vn y), some (.bl true)] H2 Q' := by
          intro H2 Q' s2 a2 hw k2
          have em : VM.moved m l = m.take i ++ [l] := by
            unfold VM.moved
            rw [if_neg hl]
            exact VM.cut_at m 0 i y l hn hy hw
          refine ⟨_, rfl, _, rfl, _, rfl, ?_⟩
          apply v_slT a2
          refine ⟨fun hh => ?_, fun _ p hp => ?_⟩
          · have := hh.2
            rw [HT.sIx_nat, List.length_map, Nat.min_eq_left (by omega)] at this
            omega
          rw [hcut]
          refine ⟨_, rfl, (show 1 ≤ sizeLine by decide), fun q hq => ?_⟩
          apply v_catT (SqT.of (upd_new hq upd_same)) (SqT.of upd_same)
          have s3 := (s2.trans (same_new (o' := .tup (vns (m.take i))) hp)).trans (same_new (o' := .tup [vn l]) hq)
          refine ⟨?_, fun e0 => k2 q _ s3 ?_, fun _ e0 => (by cases e0), fun _ _ r hr => k2 r _ (s3.trans (same_new hr)) ?_⟩
          · refine small ?_
            simp only [List.length_map, List.length_take, List.length_cons, List.length_nil]
            omega
          · have : m.take i = [] := by simpa [vns] using e0
            rw [em, this]
            exact SqT.of upd_same
          · rw [em]
            refine SqT.of (upd_same.trans ?_)
            simp [vns]
        have s1 : SqT K (upd H' Tt (.tup [.int (i : Nat), vn y])) a (vns m) := sqT_same e1 ha
        have step : VM.wiped (0 + i) y l = false → ∀ j x, j < i + 1 → m[j]? = some x → VM.wiped (0 + j) x l = false := by
          intro hw j x hj hjx
          by_cases c : j < i
          · exact hn j x c hjx
          · have : j = i := by omega
            subst this
            rw [hy] at hjx
            cases hjx
            exact hw
        refine v_ifb (fun ep => ?_) (fun ep => ?_)
        · have ep' : i % 2 = 1 := by
            rw [truth_mod] at ep
            simpa using ep
          refine ⟨_, rfl, _, rfl, _, _, rfl, rfl, _, rfl, _, rfl, ?_⟩
          refine v_ifd (fun hw => ?_) (fun hw => ?_)
          · have hw' : VM.wiped (0 + i) y l = true := by
              unfold VM.wiped
              rw [Nat.zero_add, if_pos ep']
              exact decide_eq_true (by omega)
            have q := fin _ Q e1 s1 hw' k
            show tOp (rCatA K) (tSl (rSlA K) (tVar 0) tNoPart (tPart (tVar 2))) (tTup (tCons (tVar 1) tNil)) [some (.ref a), some (vn l), some (.int (i : Nat)), some (vn y), some (.bl (decide ((l : Int) ≤ (y : Int))))] _ Q
            rw [decide_eq_true hw]
            exact q
          · have hw' : VM.wiped (0 + i) y l = false := by
              unfold VM.wiped
              rw [Nat.zero_add, if_pos ep']
              exact decide_eq_false (by omega)
            exact ⟨⟨_, _, _, rfl⟩, e1, step hw'⟩
        · have ep' : ¬ i % 2 = 1 := by
            rw [truth_mod] at ep
            simpa using ep
          refine ⟨_, rfl, _, rfl, _, _, rfl, rfl, _, rfl, _, rfl, ?_⟩
          refine v_ifd (fun hw => ?_) (fun hw => ?_)
          · have hw' : VM.wiped (0 + i) y l = true := by
              unfold VM.wiped
              rw [Nat.zero_add, if_neg ep']
              exact decide_eq_true (by omega)
            have q := fin _ Q e1 s1 hw' k
            show tOp (rCatA K) (tSl (rSlA K) (tVar 0) tNoPart (tPart (tVar 2))) (tTup (tCons (tVar 1) tNil)) [some (.ref a), some (vn l), some (.int (i : Nat)), some (vn y), some (.bl (decide ((y : Int) ≤ (l : Int))))] _ Q
            rw [decide_eq_true hw]
            exact q
          · have hw' : VM.wiped (0 + i) y l = false := by
              unfold VM.wiped
              rw [Nat.zero_add, if_neg ep']
              exact decide_eq_false (by omega)
            exact ⟨⟨_, _, _, rfl⟩, e1, step hw'⟩
      · rintro σ H' ⟨⟨v2, v3, v4, rfl⟩, e, hn⟩
        have em : VM.moved m l = m ++ [l] := by
          unfold VM.moved
          rw [if_neg hl]
          exact VM.cut_none m 0 l fun j x hx => hn j x (by rw [List.length_map]; exact (List.getElem?_eq_some_iff.mp hx).1) hx
        refine ⟨_, rfl, _, rfl, (show 1 ≤ sizeLine by decide), fun q hq => ?_⟩
        have s3 := e.trans (same_new (o' := .tup [vn l]) hq)
        apply v_catT (sqT_same s3 ha) (SqT.of upd_same)
        refine ⟨?_, fun e0 => k q _ s3 ?_, fun _ e0 => (by cases e0), fun _ _ r hr => k r _ (s3.trans (same_new hr)) ?_⟩
        · refine small ?_
          simp only [List.length_map, List.length_cons, List.length_nil]
          omega
        · have : m = [] := by simpa [vns] using e0
          rw [em, this]
          exact SqT.of upd_same
        · rw [em]
          refine SqT.of (upd_same.trans ?_)
          simp [vns]
end

section
variable {P : Program} {w : World} {K : PySem.W.Frag} {mg : Str → Option Value} {base : Heap} {C : Addr}
theorem vns_get {ns : List Nat} {i : Nat} {x : V} (h : (vns ns)[i]? = some x) : ∃ n, ns[i]? = some n ∧ x = vn n := by
  rw [List.getElem?_map] at h
  cases q : ns[i]? with
  | none => rw [q] at h; cases h
  | some n => rw [q] at h; exact ⟨n, rfl, (Option.some.inj h).symm⟩
/-! ### _followed -/
def spFollowed (K : PySem.W.Frag) : Sp := fun vs H Q _ => ∃ (a b : Addr) (m ls : List Nat), vs = [.ref a, .ref b] ∧ SqT K H a (vns m) ∧ (SqL K H b (vns ls) ∨ SqT K H b (vns ls)) ∧ m.length + ls.length ≤ 50000 ∧
  ∀ p H', Same H H' → SqT K H' p (vns (VM.followed m ls)) → Q (.ref p) H'
theorem ok_followed {f : Addr} {fd : FuncData} (F : Fun K "_followed" "_followed" s_followed f fd) (T : Txt K mg C) (Dmoved : Def P w K mg base CX0 1 "moved" ["memory", "level"] (spMoved K)) : FnOk P w K mg base CX0 2 f fd ["memory", "levels"] (spFollowed K) := by
  have nd := sc_followed.nd
  refine F.ok sc_followed (fun vs H Q E h => ?_) (fun cdv A outer s H vs Q E hr h => ?_)
  · obtain ⟨a, b, m, ls, rfl, _⟩ := h
    rfl
  · obtain ⟨a, b, m, ls, rfl, ha, hb, hm, k⟩ := h
    refine ⟨_, (pss_cons (ps_for PassesOwn.never rfl (pi_or (pi_list (pv 1)) (pi_tup (pv 1))) (pg_name (i := 2) nd rfl (Or.inl rfl)) (pss_one (ps_set (i := 0) nd rfl (Or.inl rfl) (pe_callD Dmoved (hr.mono (by decide)) rfl pass0 (pa_cons (pv 0) (pa_cons (pv 2) pa_nil)))))) (pss_one (ps_ret (pv 0)))), ?_⟩
    have turn : ∀ (i : Nat) (x : V) (σ : L2.St) (H' : Hp) (D : Ends), (vns ls)[i]? = some x → (∃ p v, σ = [some (.ref p), some (.ref b), v] ∧ SqT K H' p (vns (VM.followed m (ls.take i)))) ∧ Same H H' →
        (∀ σ H', (∃ p v, σ = [some (.ref p), some (.ref b), v] ∧ SqT K H' p (vns (VM.followed m (ls.take (i + 1))))) ∧ Same H H' → D.nx σ H') →
        tAsg (tCall (spMoved K) [] E0 (tCons (tVar 0) (tCons (tVar 2) tNil))) (gName 0) D (σ.set 2 (some x)) H' := by
      rintro i x σ H' D hx ⟨⟨p, v, rfl, hp⟩, e⟩ kk
      obtain ⟨l, hl, rfl⟩ := vns_get hx
      refine ⟨_, rfl, _, rfl, p, _, l, rfl, hp, ?_, fun q H2 e2 hq => ?_⟩
      · have h1 := VM.followed_len (ls.take i) m
        have h2 : (ls.take i).length ≤ ls.length := by
          rw [List.length_take]
          omega
        omega
      · refine kk _ _ ⟨⟨q, _, rfl, ?_⟩, e.trans e2⟩
        rw [VM.followed_take hl]
        exact hq
    rcases hb with hb | hb
    · refine .inl ⟨_, rfl, b, rfl, ⟨_, hb⟩, for_list (K := K) (a := b) (xs := vns ls) (fun i σ H' => (∃ p v, σ = [some (.ref p), some (.ref b), v] ∧ SqT K H' p (vns (VM.followed m (ls.take i)))) ∧ Same H H')
        ⟨⟨a, _, rfl, ha⟩, Same.refl _⟩ (fun i σ H' _ h => h.2.seq hb) (fun i x σ H' hx h => turn i x σ H' _ hx h fun _ _ q => q) ?_⟩
      rintro σ H' ⟨⟨p, v, rfl, hp⟩, e⟩
      rw [List.length_map, List.take_length] at hp
      exact ⟨_, rfl, k p _ e hp⟩
    · refine .inr ⟨_, rfl, b, rfl, ⟨_, hb⟩, for_tup (K := K) (a := b) (xs := vns ls) (fun i σ H' => (∃ p v, σ = [some (.ref p), some (.ref b), v] ∧ SqT K H' p (vns (VM.followed m (ls.take i)))) ∧ Same H H')
        ⟨⟨a, _, rfl, ha⟩, Same.refl _⟩ (fun i σ H' _ h => sqT_same h.2 hb) (fun i x σ H' hx h => turn i x σ H' _ hx h fun _ _ q => q) ?_⟩
      rintro σ H' ⟨⟨p, v, rfl, hp⟩, e⟩
      rw [List.length_map, List.take_length] at hp
      exact ⟨_, rfl, k p _ e hp⟩
/-! ### _height, _heights -/
def spHeight (K : PySem.W.Frag) : Sp := fun vs H Q _ => ∃ (a : Addr) (m : List Nat) (d : Nat), vs = [.ref a, vn d] ∧ SqT K H a (vns m) ∧ Q (vn (VM.height m d)) H
theorem ok_height {f : Addr} {fd : FuncData} (F : Fun K "_height" "_height" s_height f fd) (T : Txt K mg C) : FnOk P w K mg base CX0 1 f fd ["memory", "down"] (spHeight K) := by
  have nd := sc_height.nd
  refine F.ok sc_height (fun vs H Q E h => ?_) (fun cdv A outer s H vs Q E hr h => ?_)
  · obtain ⟨a, m, d, rfl, _⟩ := h
    rfl
  · obtain ⟨a, m, d, rfl, ha, k⟩ := h
    refine ⟨_, (pss_cons (ps_set (i := 2) nd rfl (Or.inl rfl) pe_int) (pss_cons (ps_for PassesOwn.never rfl (pi_tup (pv 0)) (pg_name (i := 3) nd rfl (Or.inl rfl)) (pss_one (ps_set (i := 2) nd rfl (Or.inl rfl) (pe_ifExp (pt_cmpR op_gt (pv 3) (pv 1) (nomark _)) (pe_callB (call_max2 rfl) (by rfl) T.max_ (by decide +kernel) (pa_cons (pv 2) (pa_cons (pv 3) pa_nil))) pe_int)))) (pss_one (ps_ret (pv 2))))), ?_⟩
    refine ⟨_, rfl, a, rfl, ⟨_, ha⟩, for_tup (K := K) (a := a) (xs := vns m) (fun i σ H' => (∃ v, σ = [some (.ref a), some (vn d), some (vn (VM.height (m.take i) d)), v]) ∧ H' = H)
        ⟨⟨_, rfl⟩, rfl⟩ (fun i σ H' _ h => by rw [h.2]; exact ha) ?_ ?_⟩
    · rintro i x σ H' hx ⟨⟨v, rfl⟩, rfl⟩
      obtain ⟨l, hl, rfl⟩ := vns_get hx
      refine ⟨_, rfl, _, rfl, _, _, rfl, rfl, _, rfl, ?_⟩
      have e := VM.height_take (d := d) hl
      refine v_ifd (fun hc => ?_) (fun hc => ?_)
      · refine ⟨_, rfl, _, rfl, _, _, rfl, ?_⟩
        refine ⟨⟨some (vn l), ?_⟩, rfl⟩
        rw [e]
        have : (if (l : Int) > (VM.height (m.take i) d : Int) then (l : Int) else (VM.height (m.take i) d : Int)) = ((VM.hstep d (VM.height (m.take i) d) l : Nat) : Int) := by
          unfold VM.hstep
          rw [if_pos (show d < l by omega)]
          split <;> split <;> omega
        rw [this]
        rfl
      · refine ⟨⟨some (vn l), ?_⟩, rfl⟩
        rw [e]
        have : VM.hstep d (VM.height (m.take i) d) l = 0 := by
          unfold VM.hstep
          rw [if_neg (show ¬ d < l by omega)]
        rw [this]
        rfl
    · rintro σ H' ⟨⟨v, rfl⟩, rfl⟩
      refine ⟨_, rfl, ?_⟩
      rw [List.length_map, List.take_length]
      exact k
def spHeights (K : PySem.W.Frag) : Sp := fun vs H Q _ => ∃ (a : Addr) (m : List Nat) (top : Nat), vs = [vn top, .ref a] ∧ SqT K H a (vns m) ∧ top ≤ 100 ∧
  ∀ p H', H p = none → Same H H' → H' p = some (.lst (vns (VM.heights top m))) → Q (.ref p) H'
theorem ok_heights {f : Addr} {fd : FuncData} (F : Fun K "_heights" "_heights" s_heights f fd) (T : Txt K mg C) (D_height : Def P w K mg base CX0 1 "_height" ["memory", "down"] (spHeight K)) : FnOk P w K mg base CX0 2 f fd ["top", "memory"] (spHeights K) := by
  have nd := sc_heights.nd
  refine F.ok sc_heights (fun vs H Q E h => ?_) (fun cdv A outer s H vs Q E hr h => ?_)
  · obtain ⟨a, m, top, rfl, _⟩ := h
    rfl
  · obtain ⟨a, m, top, rfl, ha, ht, k⟩ := h
    refine ⟨_, (pss_one (ps_ret (pe_lc (own := [("down", 2)]) (by rfl) nd (pi_range1 (by rfl) T.range_ (pa_cons (pv 0) pa_nil)) (blkOk_by (own := [("down", 2)]) (N := n_heights) (sc := defScope s_heights) (by decide +kernel)) (fun _ _ _ _ _ => (pg_name (i := 2) nd rfl (Or.inl rfl))) (fun _ _ _ _ _ => pts_nil) (fun _ _ _ _ _ => (pe_callD D_height (hr.mono (by decide)) rfl pass0 (pa_cons (pv 1) (pa_cons (pv 2) pa_nil))))))), ?_⟩
    refine ⟨_, rfl, _, rfl, by omega, by omega, fun D hD => lc_range (lo := 0) (n := ((top : Nat) : Int).toNat) (fun i H' => Same H H' ∧ H' D = some (.lst (vns ((List.range i).map (VM.height m)))))
      ⟨same_new hD, upd_same⟩ ?_ ?_⟩
    · rintro i H' hi ⟨e, hd⟩
      refine ⟨rfl, _, rfl, _, rfl, a, m, i, ?_, sqT_same e ha, _, hd, ?_, ?_, ?_⟩
      · simp [vn]
      · refine small' ?_
        simp only [List.length_map, List.length_range]
        simp at hi
        omega
      · intro b o hb
        exact upd_old (fun z => by rw [z, hD] at hb; cases hb) (e _ _ hb)
      · rw [upd_same]
        simp [List.range_succ, vns]
    · rintro H' ⟨e, hd⟩
      rw [Int.toNat_natCast] at hd
      exact k D H' hD e hd
end

section
variable {P : Program} {w : World} {K : PySem.W.Frag} {mg : Str → Option Value} {base : Heap} {C : Addr}
/-! ### is_memory, check_memory -/
/-- a value that a caller may hand in as a memory, and whether it is one -/
inductive MemV (K : PySem.W.Frag) (H : Hp) (top : Nat) : V → Bool → Prop
  | tup {a : Addr} {xs : List V} (h : SqT K H a xs) (ht : OkT K H (.ref a) "tuple") (hi : ∀ x ∈ xs, ∃ n, OkT K H x n) (hz : xs.length ≤ 1000) : MemV K H top (.ref a) (isMem top xs)
  | other {x : V} {n : String} (h : OkT K H x n) (hn : n ≠ "tuple") : MemV K H top x false
theorem MemV.same {H H' : Hp} {top : Nat} (e : Same H H') {x : V} {b : Bool} (h : MemV K H top x b) : MemV K H' top x b := by
  cases h with
  | tup h ht hi hz => exact .tup (sqT_same e h) (ht.same e) (fun x hx => let ⟨n, q⟩ := hi x hx; ⟨n, q.same e⟩) hz
  | other h hn => exact .other (h.same e) hn
def spIsMemory (K : PySem.W.Frag) : Sp := fun vs H Q _ => ∃ (top : Nat) (x : V) (b : Bool), vs = [vn top, x] ∧ MemV K H top x b ∧ ∀ H', Same H H' → Q (.bl b) H'
theorem ok_is_memory {f : Addr} {fd : FuncData} (F : Fun K "is_memory" "is_memory" sis_memory f fd) (T : Txt K mg C) (Dis_level : Def P w K mg base CX0 2 "is_level" ["top", "value"] (spIsLevel K))
    (D_followed : Def P w K mg base CX0 2 "_followed" ["memory", "levels"] (spFollowed K)) : FnOk P w K mg base CX0 3 f fd ["top", "value"] (spIsMemory K) := by
  have nd := scis_memory.nd
  refine F.ok scis_memory (fun vs H Q E h => ?_) (fun cdv A outer s H vs Q E hr h => ?_)
  · obtain ⟨top, x, b, rfl, _⟩ := h
    rfl
  · obtain ⟨top, x, b, rfl, hm, k⟩ := h
    refine ⟨_, (pss_cons (ps_if (PW.pt (pw_or (pt_not (pt_val (pe_callB call_isi (by rfl) T.isinstance_ (by decide +kernel) (pa_cons (pv 1) (pa_cons (pe_bltn (v := .ty "tuple") (by rfl) T.tuple_ (by decide +kernel) rfl) pa_nil))))) (pw_or1 (pt_not (pt_val (pe_callB (cr_all rfl) (by rfl) T.all_ (by decide +kernel) (pa_cons (pe_lc (own := [("entry", 2)]) (by rfl) nd (pi_tup (pv 1)) (blkOk_by (own := [("entry", 2)]) (N := nis_memory) (sc := defScope sis_memory) (by decide +kernel)) (fun _ _ _ _ _ => (pg_name (i := 2) nd rfl (Or.inl rfl))) (fun _ _ _ _ _ => pts_nil) (fun _ _ _ _ _ => (pe_callD Dis_level (hr.mono (by decide)) rfl pass0 (pa_cons (pv 0) (pa_cons (pv 2) pa_nil))))) pa_nil))))))) (pss_one (ps_ret pe_bl)) pss_nil) (pss_one (ps_ret (pe_cmpR (op_eqD hr.units) (pe_callD D_followed (hr.mono (by decide)) rfl pass0 (pa_cons (pe_tup pa_nil) (pa_cons (pv 1) pa_nil))) (pv 1) (nomark _))))), ?_⟩
    cases hm with
    | other ok hn =>
      refine ⟨_, rfl, ?_⟩
      apply v_isi ok (kit_tuple ok.kd)
      refine ⟨_, rfl, ?_⟩
      refine v_ift ?_ ?_
      · simp [hn]
      · exact k H (Same.refl _)
    | @tup a xs h ht hi hz =>
      refine ⟨_, rfl, ?_⟩
      apply v_isi ht (kit_tuple ht.kd)
      refine ⟨_, rfl, ?_⟩
      refine v_iff (by rfl) ?_
      refine ⟨_, rfl, a, rfl, ⟨_, h⟩, fun D hD => lc_tup (K := K) (a := a) (xs := xs) (fun i H' => Same H H' ∧ H' D = some (.lst (((xs.take i).map (lvl top)).map V.bl)))
        ⟨same_new hD, upd_same⟩ (fun i H' _ h' => sqT_same h'.1 h) ?_ ?_⟩
      · rintro i x H' hx ⟨e, hd⟩
        obtain ⟨n, ok⟩ := hi x (List.mem_of_getElem? hx)
        refine ⟨rfl, _, rfl, _, rfl, top, x, n, rfl, ok.same e, _, hd, ?_, ?_, ?_⟩
        · refine small' ?_
          simp only [List.length_map, List.length_take]
          omega
        · exact same_mut hD e
        · rw [upd_same, VM.take_succ hx]
          simp
      · rintro H' ⟨e, hd⟩
        rw [List.take_length] at hd
        refine ⟨D, xs.map (lvl top), rfl, SqL.of hd, _, rfl, ?_⟩
        have eall : (xs.map (lvl top)).all id = xs.all (lvl top) := by
          rw [List.all_map]
          rfl
        rw [eall]
        refine v_ifb (fun hb => ?_) (fun hb => ?_)
        · have hf : xs.all (lvl top) = false := by simpa using hb
          have q := k H' e
          unfold isMem at q
          rw [hf] at q
          exact q
        · have hf : xs.all (lvl top) = true := by simpa using hb
          obtain ⟨ex, hle⟩ := all_lvl hf
          have h' : SqT K H' a (vns (xs.map natV)) := by
            rw [← ex]
            exact sqT_same e h
          refine ⟨(by show 0 ≤ sizeLine; decide), fun t ht => ⟨_, rfl, t, a, [], xs.map natV, rfl, SqT.of upd_same, .inr (sqT_same (same_new ht) h'), ?_, fun p H2 e2 h2 => ?_⟩⟩
          · simp only [List.length_map, List.length_nil]
            omega
          · have e3 := (e.trans (same_new ht)).trans e2
            refine ⟨_, rfl, _, _, dp_tup h2, dp_tup (sqT_same ((same_new ht).trans e2) h'), shaped_tup _, shaped_tup _, ?_⟩
            rw [eqv_tup]
            have q := k H2 e3
            unfold isMem at q
            rw [hf] at q
            exact q
def spCheckMemory (K : PySem.W.Frag) (C : Addr) : Sp := fun vs H Q E => ∃ (top : Nat) (x : V) (b : Bool), vs = [vn top, x] ∧ MemV K H top x b ∧ (b = true → ∀ H', Same H H' → Q .non H') ∧ (b = false → ∀ H', Same H H' → E (.ref C) none H')
theorem ok_check_memory {f : Addr} {fd : FuncData} (F : Fun K "check_memory" "check_memory" scheck_memory f fd) (T : Txt K mg C) (Dis_memory : Def P w K mg base CX0 3 "is_memory" ["top", "value"] (spIsMemory K)) :
    FnOk P w K mg base (L2.CX P w) 4 f fd ["top", "memory"] (spCheckMemory K C) := by
  have nd := sccheck_memory.nd
  refine F.okX sccheck_memory (fun vs H Q E h => ?_) (fun cdv A outer s H vs Q E hr h => ?_)
  · obtain ⟨top, x, b, rfl, _⟩ := h
    rfl
  · obtain ⟨top, x, b, rfl, hm, k1, k2⟩ := h
    refine ⟨_, (pss_one (ps_if (pt_not (pt_val (pe_callD Dis_memory (hr.mono (by decide)) rfl pass0 (pa_cons (pv 0) (pa_cons (pv 1) pa_nil))))) (pss_one (ps_raise rfl (takes_of rfl rfl rfl rfl) T.BadMemory_pmk)) pss_nil)), ?_⟩
    refine ⟨_, rfl, _, rfl, top, x, b, rfl, hm, fun H' e => ⟨_, rfl, ?_⟩⟩
    cases b with
    | true => exact k1 rfl H' e
    | false => exact k2 rfl H' e
theorem isMem_nat {top : Nat} {xs : List V} (h : isMem top xs = true) : xs = vns (xs.map natV) := by
  unfold isMem at h
  simp only [Bool.and_eq_true] at h
  exact (all_lvl h.1).1
theorem MemV.true {H : Hp} {top : Nat} {x : V} {b : Bool} (h : MemV K H top x b) (hb : b = true) : ∃ p m, x = .ref p ∧ SqT K H p (vns m) := by
  cases h with
  | @tup a xs h ht hi hz => exact ⟨a, xs.map natV, rfl, by rw [← isMem_nat hb]; exact h⟩
  | other => cases hb
end

section
variable {P : Program} {w : World} {K : PySem.W.Frag} {mg : Str → Option Value} {base : Heap} {C : Addr}
/-! ### the draws -/
def spTake : Sp := fun vs H Q _ => ∃ (f : Addr) (a b n : Int), vs = [.ref f, .int n] ∧ H f = some (.lst [.int a, .int b]) ∧ 0 ≤ a ∧ 0 ≤ b ∧ 0 < n ∧ n < 1000000 ∧
  ∀ (r a' b' : Int), 0 ≤ r → r < n → 0 ≤ a' → 0 ≤ b' → Q (.int r) (upd H f (.lst [.int a', .int b']))
theorem ok_take {f : Addr} {fd : FuncData} (F : Fun K "_law_take" "_law_take" s_law_take f fd) (T : Txt K mg C) : FnOk P w K mg base CX0 1 f fd ["feed", "size"] spTake := by
  have nd := sc_law_take.nd
  refine F.ok sc_law_take (fun vs H Q E h => ?_) (fun cdv A outer s H vs Q E hr h => ?_)
  · obtain ⟨f, a, b, n, rfl, _⟩ := h
    rfl
  · obtain ⟨f, a, b, n, rfl, hf, ha, hb, h0, h1, k⟩ := h
    refine ⟨_, (pss_cons (ps_if (pt_cmpR op_gt (pe_ix ix_list (pv 0) pe_int (fun _ _ => rfl)) pe_int (nomark _)) (pss_cons (ps_set (i := 2) nd rfl (Or.inl rfl) (pe_op op_mod (pe_callTy call_int1 (by rfl) T.int_ (by decide +kernel) (pa_cons (pe_ix ix_list (pv 0) pe_int (fun _ _ => rfl)) pa_nil)) (pv 1))) (pss_cons (ps_asg (pe_op op_fdiv (pe_ix ix_list (pv 0) pe_int (fun _ _ => rfl)) (pv 1)) (pg_sub (pv 0) pe_int set_list)) (pss_one (ps_ret (pv 2))))) pss_nil) (pss_cons (ps_asg (pe_op op_mod (pe_callTy call_int1 (by rfl) T.int_ (by decide +kernel) (pa_cons (pe_op op_add (pe_op op_mul (pe_ix ix_list (pv 0) pe_int (fun _ _ => rfl)) pe_int) pe_int) pa_nil)) pe_int) (pg_sub (pv 0) pe_int set_list)) (pss_one (ps_ret (pe_op op_mod (pe_callTy call_int1 (by rfl) T.int_ (by decide +kernel) (pa_cons (pe_op op_fdiv (pe_ix ix_list (pv 0) pe_int (fun _ _ => rfl)) pe_int) pa_nil)) (pv 1)))))), ?_⟩
    walk_at "vs"
    refine v_ifd (fun hc => ?_) (fun hc => ?_)
    · walk_at "vs"
      exact k (a % n) (a / n) b (Int.emod_nonneg _ (by omega)) (Int.emod_lt_of_pos _ h0) (Int.ediv_nonneg ha (by omega)) hb
    · walk_at "vs"
      exact k _ a _ (Int.emod_nonneg _ (by omega)) (Int.emod_lt_of_pos _ h0) ha (Int.emod_nonneg _ (by omega))
def spPick (K : PySem.W.Frag) : Sp := fun vs H Q _ => ∃ (f t : Addr) (a b : Int) (xs : List V), vs = [.ref f, .ref t] ∧ H f = some (.lst [.int a, .int b]) ∧ 0 ≤ a ∧ 0 ≤ b ∧ SqL K H t xs ∧ t ≠ f ∧ 0 < xs.length ∧ xs.length < 100000 ∧
  ∀ (v : V) (a' b' : Int), v ∈ xs → 0 ≤ a' → 0 ≤ b' → Q v (upd H f (.lst [.int a', .int b']))
theorem ok_pick {f : Addr} {fd : FuncData} (F : Fun K "_law_pick" "_law_pick" s_law_pick f fd) (T : Txt K mg C) (D_law_take : Def P w K mg base CX0 1 "_law_take" ["feed", "size"] spTake) : FnOk P w K mg base CX0 2 f fd ["feed", "things"] (spPick K) := by
  have nd := sc_law_pick.nd
  refine F.ok sc_law_pick (fun vs H Q E h => ?_) (fun cdv A outer s H vs Q E hr h => ?_)
  · obtain ⟨f, t, a, b, xs, rfl, _⟩ := h
    rfl
  · obtain ⟨f, t, a, b, xs, rfl, hf, ha, hb, ht, hne, h0, h1, k⟩ := h
    refine ⟨_, (pss_one (ps_ret (pe_ix ix_list (pv 1) (pe_callD D_law_take (hr.mono (by decide)) rfl pass0 (pa_cons (pv 0) (pa_cons (pe_callB call_len_seq (by rfl) T.len_ PySem.boot_len (pa_cons (pv 1) pa_nil)) pa_nil))) (fun _ _ => rfl)))), ?_⟩
    refine ⟨_, rfl, _, rfl, _, rfl, ?_⟩
    apply v_lenL ht
    refine ⟨f, a, b, _, rfl, hf, ha, hb, by omega, by omega, fun r a' b' hr0 hr1 ha' hb' => ?_⟩
    have hlt : r.toNat < xs.length := by omega
    have ht' : SqL K (upd H f (.lst [.int a', .int b'])) t xs := sqL_but but_upd hne ht
    apply v_ixL ht' (at_of (j := r.toNat) (by omega) (List.getElem?_eq_getElem hlt))
    exact k _ a' b' (List.getElem_mem hlt) ha' hb'
def spFeed (K : PySem.W.Frag) : Sp := fun vs H Q _ => ∃ (a : Addr) (ns : List Int) (k : Nat), vs = [.ref a, vn k] ∧ SqL K H a (ns.map V.int) ∧ ns.length ≤ 63 ∧ k ≤ 10 ∧
  ∀ p H' x y, H p = none → Same H H' → H' p = some (.lst [.int x, .int y]) → 0 ≤ x → 0 ≤ y → Q (.ref p) H'
theorem cut_one {ns : List Int} {k : Nat} : ∃ ms : List Int, cutV (ns.map V.int) (some (k : Int)) (some ((k : Int) + 1)) = ms.map V.int ∧ ms.length ≤ 1 := by
  refine ⟨(ns.drop (HT.sIx ns.length 0 (some (k : Int)))).take (HT.sIx ns.length ns.length (some ((k + 1 : Nat) : Int)) - HT.sIx ns.length 0 (some (k : Int))), ?_, ?_⟩
  · unfold cutV
    rw [show ((k : Int) + 1) = ((k + 1 : Nat) : Int) by omega]
    simp [List.map_take, List.map_drop]
  · rw [HT.sIx_nat, HT.sIx_nat, List.length_take]
    omega
theorem ok_feed {f : Addr} {fd : FuncData} (F : Fun K "_law_feed" "_law_feed" s_law_feed f fd) (T : Txt K mg C) : FnOk P w K mg base CX0 1 f fd ["script", "k"] (spFeed K) := by
  have nd := sc_law_feed.nd
  refine F.ok sc_law_feed (fun vs H Q E h => ?_) (fun cdv A outer s H vs Q E hr h => ?_)
  · obtain ⟨a, ns, k, rfl, _⟩ := h
    rfl
  · obtain ⟨a, ns, k, rfl, ha, hz, hk, kk⟩ := h
    refine ⟨_, (pss_cons (ps_set (i := 2) nd rfl (Or.inl rfl) (pe_ix ix_list (pe_op op_cat (pe_callTy call_list_of (by rfl) T.list_ (by decide +kernel) (pa_cons (pe_slice sl_list (pv 0) (po_some (pv 1)) (po_some (pe_op op_add (pv 1) pe_int))) pa_nil)) (pe_lst (pa_cons (pe_op op_add (pe_op op_mul pe_int (pv 1)) pe_int) pa_nil))) pe_int (fun _ _ => rfl))) (pss_cons (ps_set (i := 3) nd rfl (Or.inl rfl) (pe_callB (call_max2 rfl) (by rfl) T.max_ (by decide +kernel) (pa_cons pe_int (pa_cons (pe_op op_sub (pe_callB call_abs (by rfl) T.abs_ (by decide +kernel) (pa_cons (pv 2) pa_nil)) (pe_op op_pow pe_int pe_int)) pa_nil)))) (pss_one (ps_ret (pe_lst (pa_cons (pv 3) (pa_cons (pe_op op_mod (pe_callTy call_int1 (by rfl) T.int_ (by decide +kernel) (pa_cons (pe_op op_add (pe_op op_add (pe_op op_mul (pe_op op_mod (pe_callTy call_int1 (by rfl) T.int_ (by decide +kernel) (pa_cons (pe_callB call_abs (by rfl) T.abs_ (by decide +kernel) (pa_cons (pv 2) pa_nil)) pa_nil)) pe_int) pe_int) (pe_op op_mul pe_int (pv 1))) pe_int) pa_nil)) pe_int) pa_nil))))))), ?_⟩
    refine ⟨_, rfl, _, rfl, _, rfl, _, rfl, _, _, rfl, rfl, _, rfl, ?_⟩
    apply v_slL ha
    intro p hp
    obtain ⟨ms, em, hm⟩ := cut_one (ns := ns) (k := k)
    have up : (upd H p (.lst (cutV (ns.map V.int) (some (k : Int)) (some ((k : Int) + 1))))) p = some (.lst (ms.map V.int)) := by
      rw [upd_same, em]
    refine ⟨p, _, rfl, .inl (SqL.of up), fun q hq => ?_⟩
    refine ⟨_, rfl, ?_⟩
    apply v_I
    · exact .inl ⟨by decide, by decide⟩
    refine ⟨_, _, rfl, rfl, (by show 1 ≤ sizeLine; decide), fun r hr' => ?_⟩
    apply v_cat (upd_new hr' upd_same) upd_same
    · refine small ?_
      simp only [List.length_map, List.length_cons, List.length_nil]
      omega
    intro t ht
    obtain ⟨c, rest, ec⟩ : ∃ (c : Int) (rest : List Int), ms.map V.int ++ [V.int (71 * (k : Int) + 23)] = V.int c :: rest.map V.int := by
      cases ms with
      | nil => exact ⟨_, [], rfl⟩
      | cons m r => exact ⟨m, r ++ [71 * (k : Int) + 23], by simp⟩
    apply v_ixL (SqL.of (upd_same.trans (by rw [show (List.map V.int ms ++ [V.int ((fun i j => i + j) ((fun i j => i * j) 71 (k : Int)) 23)]) = V.int c :: rest.map V.int from ec]))) (at_of (j := 0) rfl rfl)
    walk_at "vs"
    refine ⟨(by show 2 ≤ sizeLine; decide), fun u hu => ?_⟩
    refine kk u _ _ _ (((((same_new hp).trans (same_new hq)).trans (same_new hr')).trans (same_new ht)).free hu) (((((same_new hp).trans (same_new hq)).trans (same_new hr')).trans (same_new ht)).trans (same_new hu)) upd_same ?_ (Int.emod_nonneg _ (by decide))
    split <;> omega
/-! ### switches -/
def spIsOn (K : PySem.W.Frag) : Sp := fun vs H Q _ => ∃ (s a : Addr) (u d : Nat) (ls : List Nat), vs = [.ref s, .ref a] ∧ SqT K H s (vns [u, d]) ∧ (SqL K H a (vns ls) ∨ SqT K H a (vns ls)) ∧ Q (.bl (VM.isOn u d ls)) H
theorem ok_is_on {f : Addr} {fd : FuncData} (F : Fun K "_law_is_on" "_law_is_on" s_law_is_on f fd) (T : Txt K mg C) : FnOk P w K mg base CX0 1 f fd ["switch", "levels"] (spIsOn K) := by
  have nd := sc_law_is_on.nd
  refine F.ok sc_law_is_on (fun vs H Q E h => ?_) (fun cdv A outer s H vs Q E hr h => ?_)
  · obtain ⟨s, a, u, d, ls, rfl, _⟩ := h
    rfl
  · obtain ⟨s, a, u, d, ls, rfl, hs, ha, k⟩ := h
    refine ⟨_, (pss_cons (ps_set (i := 2) nd rfl (Or.inl rfl) pe_bl) (pss_cons (ps_for PassesOwn.never rfl (pi_or (pi_list (pv 1)) (pi_tup (pv 1))) (pg_name (i := 3) nd rfl (Or.inl rfl)) (pss_cons (ps_if (pt_cmpR op_ge (pv 3) (pe_ix ix_tup (pv 0) pe_int (fun _ _ => rfl)) (nomark _)) (pss_one (ps_set (i := 2) nd rfl (Or.inl rfl) pe_bl)) pss_nil) (pss_one (ps_if (pt_cmpR op_le (pv 3) (pe_ix ix_tup (pv 0) pe_int (fun _ _ => rfl)) (nomark _)) (pss_one (ps_set (i := 2) nd rfl (Or.inl rfl) pe_bl)) pss_nil)))) (pss_one (ps_ret (pv 2))))), ?_⟩
    let PV : Nat → L2.St → Hp → Prop := fun i σ H' => (∃ v, σ = [some (.ref s), some (.ref a), some (.bl (VM.isOn u d (ls.take i))), v]) ∧ H' = H
    rcases ha with ha | ha
    · refine .inl ⟨_, rfl, a, rfl, ⟨_, ha⟩, for_list (K := K) (a := a) (xs := vns ls) PV ⟨⟨_, rfl⟩, rfl⟩ (fun i σ H' _ h => by rw [h.2]; exact ha) ?_ ?_⟩
      · rintro i x σ H' hx ⟨⟨v, rfl⟩, rfl⟩
        obtain ⟨l, hl, rfl⟩ := vns_get hx
        have e := VM.isOn_take (u := u) (d := d) hl
        refine ⟨_, rfl, _, rfl, ?_⟩
        apply v_ixT hs rfl
        refine ⟨_, _, rfl, rfl, _, rfl, ?_⟩
        refine v_ifd (fun hc => ?_) (fun hc => ?_)
        all_goals
          refine ⟨_, rfl, _, rfl, ?_⟩
          apply v_ixT hs rfl
          refine ⟨_, _, rfl, rfl, _, rfl, ?_⟩
          refine v_ifd (fun hd => ?_) (fun hd => ?_)
        all_goals
          have hc' := hc
          have hd' := hd
          refine ⟨⟨some (vn l), ?_⟩, rfl⟩
          rw [e]
          unfold VM.ostep
        · rw [if_pos (show l ≤ d by omega)]
          rfl
        · rw [if_neg (show ¬ l ≤ d by omega), if_pos (show u ≤ l by omega)]
          rfl
        · rw [if_pos (show l ≤ d by omega)]
          rfl
        · rw [if_neg (show ¬ l ≤ d by omega), if_neg (show ¬ u ≤ l by omega)]
          rfl
      · rintro σ H' ⟨⟨v, rfl⟩, rfl⟩
        refine ⟨_, rfl, ?_⟩
        rw [List.length_map, List.take_length]
        exact k
    · refine .inr ⟨_, rfl, a, rfl, ⟨_, ha⟩, for_tup (K := K) (a := a) (xs := vns ls) PV ⟨⟨_, rfl⟩, rfl⟩ (fun i σ H' _ h => by rw [h.2]; exact ha) ?_ ?_⟩
      · rintro i x σ H' hx ⟨⟨v, rfl⟩, rfl⟩
        obtain ⟨l, hl, rfl⟩ := vns_get hx
        have e := VM.isOn_take (u := u) (d := d) hl
        refine ⟨_, rfl, _, rfl, ?_⟩
        apply v_ixT hs rfl
        refine ⟨_, _, rfl, rfl, _, rfl, ?_⟩
        refine v_ifd (fun hc => ?_) (fun hc => ?_)
        all_goals
          refine ⟨_, rfl, _, rfl, ?_⟩
          apply v_ixT hs rfl
          refine ⟨_, _, rfl, rfl, _, rfl, ?_⟩
          refine v_ifd (fun hd => ?_) (fun hd => ?_)
        all_goals
          have hc' := hc
          have hd' := hd
          refine ⟨⟨some (vn l), ?_⟩, rfl⟩
          rw [e]
          unfold VM.ostep
        · rw [if_pos (show l ≤ d by omega)]
          rfl
        · rw [if_neg (show ¬ l ≤ d by omega), if_pos (show u ≤ l by omega)]
          rfl
        · rw [if_pos (show l ≤ d by omega)]
          rfl
        · rw [if_neg (show ¬ l ≤ d by omega), if_neg (show ¬ u ≤ l by omega)]
          rfl
      · rintro σ H' ⟨⟨v, rfl⟩, rfl⟩
        refine ⟨_, rfl, ?_⟩
        rw [List.length_map, List.take_length]
        exact k
def spSwitches (K : PySem.W.Frag) : Sp := fun vs H Q _ => ∃ (top : Nat), vs = [vn top] ∧ top ≤ 6 ∧ ∀ p H' xs, H p = none → Same H H' → H' p = some (.lst xs) → Tups K H' xs (VM.switches top) → Q (.ref p) H'
def swPart (u : Nat) : List (List Nat) := (List.range (u + 1)).map fun d => [u + 1, d]
theorem fl_succ {α : Type} (f : Nat → List α) (n : Nat) : ((List.range (n + 1)).map f).flatten = ((List.range n).map f).flatten ++ f n := by
  rw [List.range_succ, List.map_append, List.flatten_append]
  simp
theorem sw_succ (n : Nat) : VM.switches (n + 1) = VM.switches n ++ swPart n := fl_succ _ n
theorem sw_len (n : Nat) : (VM.switches n).length ≤ n * 7 ∨ 6 < n := by
  by_cases h : n ≤ 6
  · left
    rcases (show n = 0 ∨ n = 1 ∨ n = 2 ∨ n = 3 ∨ n = 4 ∨ n = 5 ∨ n = 6 by omega) with rfl | rfl | rfl | rfl | rfl | rfl | rfl <;> decide
  · right
    omega
theorem ok_switches {f : Addr} {fd : FuncData} (F : Fun K "_law_switches" "_law_switches" s_law_switches f fd) (T : Txt K mg C) : FnOk P w K mg base CX0 1 f fd ["top"] (spSwitches K) := by
  have nd := sc_law_switches.nd
  refine F.ok sc_law_switches (fun vs H Q E h => ?_) (fun cdv A outer s H vs Q E hr h => ?_)
  · obtain ⟨top, rfl, _⟩ := h
    rfl
  · obtain ⟨top, rfl, ht, k⟩ := h
    refine ⟨_, (pss_cons (ps_set (i := 1) nd rfl (Or.inl rfl) (pe_lst pa_nil)) (pss_cons (ps_for PassesOwn.never rfl (pi_range2 (by rfl) T.range_ (pa_cons pe_int (pa_cons (pe_op op_add (pv 0) pe_int) pa_nil))) (pg_name (i := 2) nd rfl (Or.inr rfl)) (pss_one (ps_set (i := 1) nd rfl (Or.inl rfl) (pe_op op_cat (pv 1) (pe_lc (own := [("down", 3)]) (by rfl) nd (pi_range1 (by rfl) T.range_ (pa_cons (pv 2) pa_nil)) (blkOk_by (own := [("down", 3)]) (N := n_law_switches) (sc := defScope s_law_switches) (by decide +kernel)) (fun _ _ _ _ _ => (pg_name (i := 3) nd rfl (Or.inl rfl))) (fun _ _ _ _ _ => pts_nil) (fun _ _ _ _ _ => (pe_tup (pa_cons (pv 2) (pa_cons (pv 3) pa_nil))))))))) (pss_one (ps_ret (pv 1))))), ?_⟩
    refine ⟨(by show 0 ≤ sizeLine; decide), fun p hp => ?_⟩
    refine ⟨_, rfl, _, _, rfl, rfl, _, _, rfl, ⟨by decide, by decide, by omega, by omega⟩, for_range (lo := 1) (n := (((top : Nat) : Int) + 1 - 1).toNat)
      (fun i σ H' => ∃ q xs v2 v3, σ = [some (vn top), some (.ref q), v2, v3] ∧ H q = none ∧ Same H H' ∧ H' q = some (.lst xs) ∧ Tups K H' xs (VM.switches i) ∧ i ≤ top) ?_ ?_ ?_⟩
    · exact ⟨p, [], _, _, rfl, hp, same_new hp, upd_same, .nil, Nat.zero_le _⟩
    · rintro i σ H' hi ⟨q, xs, v2, v3, rfl, hq, e, hlq, ht', hi'⟩
      have hi2 : i < top := by omega
      have hqx : ∀ (H2 : Hp) (o : HO) (r : Addr), H2 r = none → Same H' H2 → Same H' (upd H2 r o) := fun H2 o r h1 h2 => h2.trans (same_new h1)
      refine ⟨_, rfl, _, rfl, _, rfl, by omega, by omega, fun D hD => lc_range (lo := 0) (n := ((1 : Int) + (i : Int)).toNat)
        (fun j H2 => Same H' H2 ∧ ∃ ys, H2 D = some (.lst ys) ∧ Tups K H2 ys ((List.range j).map fun d => [i + 1, d])) ⟨same_new hD, [], upd_same, .nil⟩ ?_ ?_⟩
      · rintro j H2 hj ⟨e2, ys, hy, hty⟩
        refine ⟨rfl, _, rfl, _, rfl, (by show 2 ≤ sizeLine; decide), fun t ht => ⟨_, upd_new ht hy, ?_, ?_⟩⟩
        · have hl := hty.len
          refine small' ?_
          rw [hl, List.length_map, List.length_range]
          omega
        · have e3 : Same H' (upd H2 t (.tup [.int (1 + (i : Int)), .int (0 + (j : Int))])) := e2.trans (same_new ht)
          have nD : ∀ (H3 : Hp) (o : HO), Same H' H3 → Same H' (upd H3 D o) := fun H3 o h3 => same_mut hD h3
          refine ⟨nD _ _ e3, _, upd_same, ?_⟩
          rw [List.range_succ, List.map_append]
          have tD : t ≠ D := fun z => by rw [z, hy] at ht; cases ht
          have ht2 : Tups K (upd H2 t (.tup [.int (1 + (i : Int)), .int (0 + (j : Int))])) ys ((List.range j).map fun d => [i + 1, d]) := hty.same (same_new ht)
          have hy2 : (upd H2 t (.tup [.int (1 + (i : Int)), .int (0 + (j : Int))])) D = some (.lst ys) := upd_new ht hy
          refine Tups.append (ht2.but fun a ns h => ?_) (Tups.one (SqT.of ?_))
          · exact sqT_but (f := D) but_upd hy2 h
          · rw [upd_ne tD, upd_same]
            have h1 : ((1 : Int) + (i : Int)) = ((i + 1 : Nat) : Int) := by omega
            have h2 : ((0 : Int) + (j : Int)) = ((j : Nat) : Int) := by omega
            rw [h1, h2]
            rfl
      · rintro H2 ⟨e2, ys, hy, hty⟩
        have hs := ht'.len
        have hl := hty.len
        apply v_cat (e2 _ _ hlq) hy
        · have hw := sw_len i
          refine small ?_
          rw [hs, hl, List.length_map, List.length_range]
          omega
        · intro r hr2
          have e4 : Same H (upd H2 r (.lst (xs ++ ys))) := (e.trans e2).trans (same_new hr2)
          refine ⟨r, xs ++ ys, _, _, rfl, (e.trans e2).free hr2, e4, upd_same, ?_, hi2⟩
          rw [sw_succ]
          refine Tups.append ((ht'.same e2).same (same_new hr2)) ?_
          have : swPart i = (List.range ((1 : Int) + (i : Int)).toNat).map fun d => [i + 1, d] := by
            unfold swPart
            rw [show ((1 : Int) + (i : Int)).toNat = i + 1 by omega]
          rw [this]
          exact hty.same (same_new hr2)
    · rintro σ H' ⟨q, xs, v2, v3, rfl, hq, e, hl, ht', hi'⟩
      refine ⟨_, rfl, k q H' xs hq e hl ?_⟩
      have : (((top : Nat) : Int) + 1 - 1).toNat = top := by omega
      rw [this] at ht'
      exact ht'
end

/-! ### the law's memories: lists of lists, pairs of a length and a tuple -/
inductive Lsts (H : Hp) : List V → List (List Nat) → Prop
  | nil : Lsts H [] []
  | cons {a : Addr} {ns : List Nat} {xs : List V} {nss : List (List Nat)} : H a = some (.lst (vns ns)) → Lsts H xs nss → Lsts H (.ref a :: xs) (ns :: nss)
theorem Lsts.len {H : Hp} : ∀ {xs : List V} {nss : List (List Nat)}, Lsts H xs nss → xs.length = nss.length
  | _, _, .nil => rfl
  | _, _, .cons _ t => congrArg (· + 1) t.len
theorem Lsts.but {H H' : Hp} (f : ∀ a ns, H a = some (.lst (vns ns)) → H' a = some (.lst (vns ns))) : ∀ {xs : List V} {nss : List (List Nat)}, Lsts H xs nss → Lsts H' xs nss
  | _, _, .nil => .nil
  | _, _, .cons h t => .cons (f _ _ h) (t.but f)
theorem Lsts.same {H H' : Hp} (e : Same H H') {xs : List V} {nss : List (List Nat)} (t : Lsts H xs nss) : Lsts H' xs nss := t.but fun _ _ h => e _ _ h
theorem Lsts.get {H : Hp} : ∀ {xs : List V} {nss : List (List Nat)} {i : Nat} {x : V}, Lsts H xs nss → xs[i]? = some x → ∃ a ns, x = .ref a ∧ nss[i]? = some ns ∧ H a = some (.lst (vns ns))
  | _, _, i, _, .nil, h => by simp at h
  | _, _, 0, x, .cons h t, e => by
    have e' := Option.some.inj (show some _ = some x from e)
    subst e'
    exact ⟨_, _, rfl, rfl, h⟩
  | _, _, i + 1, x, .cons h t, e => by
    obtain ⟨a, ns, h1, h2, h3⟩ := t.get (i := i) (x := x) (by simpa using e)
    exact ⟨a, ns, h1, by simpa using h2, h3⟩
theorem Lsts.append {H : Hp} : ∀ {xs ys : List V} {nss mss : List (List Nat)}, Lsts H xs nss → Lsts H ys mss → Lsts H (xs ++ ys) (nss ++ mss)
  | _, _, _, _, .nil, u => u
  | _, _, _, _, .cons h t, u => .cons h (t.append u)
theorem ref_vns {a : Addr} {ns : List Nat} (h : V.ref a ∈ vns ns) : False := by
  obtain ⟨n, _, e⟩ := List.mem_map.mp h
  cases e
theorem Lsts.put {H : Hp} {D : Addr} {ys : List V} (hy : H D = some (.lst ys)) (o : HO) : ∀ {xs : List V} {nss : List (List Nat)}, Lsts H xs nss → (∀ x ∈ xs, x ∈ ys) → Lsts (upd H D o) xs nss
  | _, _, .nil, _ => .nil
  | _, _, .cons (a := a) (ns := ns) h t, f => by
    have ne : a ≠ D := fun z => by
      rw [z, hy] at h
      have e : ys = vns ns := by
        injection h with h1
        injection h1
      have := f (.ref a) (by simp)
      rw [e] at this
      exact ref_vns this
    exact .cons (upd_old ne h) (t.put hy o fun x hx => f x (by simp [hx]))
inductive Prs (K : PySem.W.Frag) (H : Hp) : List V → List (List Nat) → Prop
  | nil : Prs K H [] []
  | cons {t e : Addr} {ns : List Nat} {xs : List V} {nss : List (List Nat)} : SqT K H t [vn ns.length, .ref e] → SqT K H e (vns ns) → Prs K H xs nss → Prs K H (.ref t :: xs) (ns :: nss)
theorem Prs.len {K : PySem.W.Frag} {H : Hp} : ∀ {xs : List V} {nss : List (List Nat)}, Prs K H xs nss → xs.length = nss.length
  | _, _, .nil => rfl
  | _, _, .cons _ _ t => congrArg (· + 1) t.len
theorem Prs.but {K : PySem.W.Frag} {H H' : Hp} (f : ∀ a xs, SqT K H a xs → SqT K H' a xs) : ∀ {xs : List V} {nss : List (List Nat)}, Prs K H xs nss → Prs K H' xs nss
  | _, _, .nil => .nil
  | _, _, .cons h g t => .cons (f _ _ h) (f _ _ g) (t.but f)
theorem Prs.append {K : PySem.W.Frag} {H : Hp} : ∀ {xs ys : List V} {nss mss : List (List Nat)}, Prs K H xs nss → Prs K H ys mss → Prs K H (xs ++ ys) (nss ++ mss)
  | _, _, _, _, .nil, u => u
  | _, _, _, _, .cons h g t, u => .cons h g (t.append u)
theorem Prs.zip {K : PySem.W.Frag} {H : Hp} : ∀ {xs : List V} {nss : List (List Nat)}, Prs K H xs nss → ∀ x ns, (x, ns) ∈ xs.zip nss → ∃ t e, x = .ref t ∧ SqT K H t [vn ns.length, .ref e] ∧ SqT K H e (vns ns)
  | _, _, .nil, x, ns, h => by simp at h
  | _, _, .cons h g t, x, ns, hm => by
    simp only [List.zip_cons_cons, List.mem_cons, Prod.mk.injEq] at hm
    rcases hm with ⟨rfl, rfl⟩ | hm
    · exact ⟨_, _, rfl, h, g⟩
    · exact t.zip x ns hm
def penc (ns : List Nat) : PyData := .tuple [pint ns.length, ptup ns]
theorem Prs.dp {K : PySem.W.Frag} {H : Hp} : ∀ {xs : List V} {nss : List (List Nat)}, Prs K H xs nss → DpAll K H xs (nss.map penc)
  | _, _, .nil => .nil
  | _, _, .cons h g t => .cons (.tup h (.cons (.int _) (.cons (dp_tup g) .nil))) t.dp
theorem alike_pints : ∀ as bs : List Nat, PySem.W.alikeAll (as.map pint) (bs.map pint) = true
  | [], _ => by simp [PySem.W.alikeAll]
  | _ :: _, [] => by simp [PySem.W.alikeAll]
  | a :: as, b :: bs => by
    have := alike_pints as bs
    simp only [List.map_cons, PySem.W.alikeAll, this, Bool.and_true]
    rfl
theorem alike_penc (as bs : List Nat) : PySem.W.alike (penc as) (penc bs) = true := by
  unfold penc ptup
  simp only [PySem.W.alike, PySem.W.alikeAll, alike_pints, Bool.and_true]
  rfl
theorem srt_map (xs : List V) (nss : List (List Nat)) : ∃ M : List (V × List Nat), M.Perm (xs.zip nss) ∧ srt xs (nss.map penc) = M.map fun p => (p.1, penc p.2) := by
  refine ⟨(xs.zip nss).mergeSort fun p q => PySem.W.dataLe false Prod.snd (p.1, penc p.2) (q.1, penc q.2), List.mergeSort_perm _ _, ?_⟩
  unfold srt
  have e : xs.zip (nss.map penc) = (xs.zip nss).map fun p => (p.1, penc p.2) := by
    rw [List.zip_map_right]
    rfl
  rw [e]
  exact (List.map_mergeSort (f := fun p : V × List Nat => (p.1, penc p.2)) (r := fun p q => PySem.W.dataLe false Prod.snd (p.1, penc p.2) (q.1, penc q.2)) (s := PySem.W.dataLe false Prod.snd) (fun a _ b _ => rfl)).symm
theorem snd_zip2 : ∀ {xs : List V} {nss : List (List Nat)}, xs.length = nss.length → (xs.zip nss).map Prod.snd = nss
  | [], [], _ => rfl
  | x :: xs, n :: nss, h => by simp [snd_zip2 (xs := xs) (nss := nss) (by simpa using h)]
theorem lots_len : ∀ n, (VM.lots n).length = 2 ^ n
  | 0 => rfl
  | n + 1 => by
    show (VM.lots n ++ (VM.lots n).map (· ++ [n + 1])).length = _
    rw [List.length_append, List.length_map, lots_len n, Nat.pow_succ]
    omega
theorem lot_len : ∀ n, ∀ l ∈ VM.lots n, l.length ≤ n
  | 0, l, h => by
    have : l = [] := by simpa [VM.lots] using h
    subst this
    simp
  | n + 1, l, h => by
    have h' : l ∈ VM.lots n ++ (VM.lots n).map (· ++ [n + 1]) := h
    rcases List.mem_append.mp h' with h' | h'
    · have := lot_len n l h'
      omega
    · obtain ⟨m, hm, rfl⟩ := List.mem_map.mp h'
      have := lot_len n m hm
      simp
      omega
theorem two_pow {n : Nat} (h : n ≤ 6) : 2 ^ n ≤ 64 := Nat.pow_le_pow_right (by decide : 0 < 2) h
theorem at_last (n : Nat) : seqIndex? (-1) (n + 1) = some n := by
  unfold seqIndex?
  have e : ((-1 : Int) + ((n + 1 : Nat) : Int)) = (n : Int) := by omega
  simp only [e, show ((-1 : Int) < 0) from by decide, if_true]
  have h1 : (0 : Int) ≤ (n : Int) := by omega
  have h2 : (n : Int) < ((n + 1 : Nat) : Int) := by omega
  simp [h1]
  omega
theorem at_first (n : Nat) : seqIndex? 0 (n + 1) = some 0 := by
  unfold seqIndex?
  have h2 : (0 : Int) < ((n + 1 : Nat) : Int) := by omega
  simp
theorem erase_last : ∀ (l : List V) (v : V), (l ++ [v]).eraseIdx l.length = l
  | [], _ => rfl
  | a :: l, v => by simp [erase_last l v]
theorem entries_last (l : List Nat) (v i : Nat) (h : i % 2 = 0) : VM.entries (l ++ [v]).length i (l ++ [v]) = v :: VM.entries l.length (i + 1) l := by
  cases l with
  | nil => simp [VM.entries, h]
  | cons a r =>
    rw [show (a :: r ++ [v]).length = (a :: r).length + 1 by simp]
    show (if i % 2 = 0 then ((a :: (r ++ [v])).getLastD 0) :: VM.entries (a :: r).length (i + 1) ((a :: (r ++ [v])).dropLast) else a :: VM.entries (a :: r).length (i + 1) (r ++ [v])) = _
    rw [if_pos h]
    congr 1
    · exact List.getLastD_concat (a := 0) (b := v) (l := a :: r)
    · have : (a :: (r ++ [v])).dropLast = a :: r := by
        rw [show a :: (r ++ [v]) = (a :: r) ++ [v] from rfl, List.dropLast_concat]
      rw [this]
theorem entries_first (l : List Nat) (v i : Nat) (h : ¬ i % 2 = 0) : VM.entries (v :: l).length i (v :: l) = v :: VM.entries l.length (i + 1) l := by
  show (if i % 2 = 0 then _ else v :: VM.entries l.length (i + 1) l) = _
  rw [if_neg h]

section
variable {P : Program} {w : World} {K : PySem.W.Frag} {mg : Str → Option Value} {base : Heap} {C : Addr}
def spMemories (K : PySem.W.Frag) : Sp := fun vs H Q _ => ∃ (top : Nat), vs = [vn top] ∧ top ≤ 6 ∧ ∀ p H' ys nss, H p = none → Same H H' → H' p = some (.lst ys) → Tups K H' ys nss → nss.Perm (VM.msOf top) → Q (.ref p) H'
theorem ok_memories {f : Addr} {fd : FuncData} (F : Fun K "_law_memories" "_law_memories" s_law_memories f fd) (T : Txt K mg C) : FnOk P w K mg base CX0 1 f fd ["top"] (spMemories K) := by
  have nd := sc_law_memories.nd
  refine F.ok sc_law_memories (fun vs H Q E h => ?_) (fun cdv A outer s H vs Q E hr h => ?_)
  · obtain ⟨top, rfl, _⟩ := h
    rfl
  · obtain ⟨top, rfl, ht, k⟩ := h
    refine ⟨_, (pss_cons (ps_par (i := 1) (j := 2) (by rfl) nd rfl rfl (by decide) rfl rfl (pa_cons (pe_lst (pa_cons (pe_lst pa_nil) pa_nil)) (pa_cons (pe_lst pa_nil) pa_nil)) (by rfl)) (pss_cons (ps_for PassesOwn.never rfl (pi_range2 (by rfl) T.range_ (pa_cons pe_int (pa_cons (pe_op op_add (pv 0) pe_int) pa_nil))) (pg_name (i := 3) nd rfl (Or.inr rfl)) (pss_one (ps_set (i := 1) nd rfl (Or.inl rfl) (pe_op op_cat (pv 1) (pe_lc (own := [("lot", 4)]) (by rfl) nd (pi_list (pv 1)) (blkOk_by (own := [("lot", 4)]) (N := n_law_memories) (sc := defScope s_law_memories) (by decide +kernel)) (fun _ _ _ _ _ => (pg_name (i := 4) nd rfl (Or.inl rfl))) (fun _ _ _ _ _ => pts_nil) (fun _ _ _ _ _ => (pe_op op_cat (pv 4) (pe_lst (pa_cons (pv 3) pa_nil))))))))) (pss_cons (ps_for PassesOwn.never rfl (pi_list (pv 1)) (pg_name (i := 4) nd rfl (Or.inl rfl)) (pss_cons (ps_par (i := 5) (j := 6) (by rfl) nd rfl rfl (by decide) rfl rfl (pa_cons (pe_callTy call_list_of (by rfl) T.list_ (by decide +kernel) (pa_cons (pv 4) pa_nil)) (pa_cons (pe_lst pa_nil) pa_nil)) (by rfl)) (pss_cons (ps_while PassesOwn.never (pt_cmpR (op_neD hr.units) (pv 5) (pe_lst pa_nil) (nomark _)) (pss_one (ps_expr (pe_bm PySem.F.plainAttrs_list PySem.F.slot_list_append PySem.F.type_list_append mt_append (pv 6) (pa_cons (pe_ifExp (pt_cmpR op_eq (pe_op op_mod (pe_callTy call_int1 (by rfl) T.int_ (by decide +kernel) (pa_cons (pe_callB call_len_seq (by rfl) T.len_ PySem.boot_len (pa_cons (pv 6) pa_nil)) pa_nil)) pe_int) pe_int (nomark _)) (pe_bm PySem.F.plainAttrs_list PySem.F.slot_list_pop PySem.F.type_list_pop mt_popAt (pv 5) (pa_cons (pe_un un_neg pe_int) pa_nil)) (pe_bm PySem.F.plainAttrs_list PySem.F.slot_list_pop PySem.F.type_list_pop mt_popAt (pv 5) (pa_cons pe_int pa_nil))) pa_nil))))) (pss_one (ps_expr (pe_bm PySem.F.plainAttrs_list PySem.F.slot_list_append PySem.F.type_list_append mt_append (pv 2) (pa_cons (pe_tup (pa_cons (pe_callB call_len_seq (by rfl) T.len_ PySem.boot_len (pa_cons (pv 6) pa_nil)) (pa_cons (pe_callTy call_tuple_of (by rfl) T.tuple_ (by decide +kernel) (pa_cons (pv 6) pa_nil)) pa_nil))) pa_nil))))))) (pss_one (ps_ret (pe_lc (own := [("many", 7), ("entries", 6)]) (by rfl) nd (pi_list (pe_callB (cr_sortD hr.units) (by rfl) T.sorted_ (by decide +kernel) (pa_cons (pv 2) pa_nil))) (blkOk_by (own := [("many", 7), ("entries", 6)]) (N := n_law_memories) (sc := defScope s_law_memories) (by decide +kernel)) (fun _ _ _ _ _ => (pg_tupK K (pg_tup (n := 2) rfl (pgs_cons (pg_name (i := 7) nd rfl (Or.inl rfl)) (pgs_cons (pg_name (i := 6) nd rfl (Or.inl rfl)) pgs_nil))))) (fun _ _ _ _ _ => pts_nil) (fun _ _ _ _ _ => (pv 6)))))))), ?_⟩
    -- lots, found = [[]], []
    refine ⟨(by show 0 ≤ sizeLine; decide), fun p hp => ⟨(by show 1 ≤ sizeLine; decide), fun q hq => ⟨(by show 0 ≤ sizeLine; decide), fun fa hfa => ⟨_, _, rfl, ?_⟩⟩⟩⟩
    have e0 : Same H (upd (upd (upd H p (.lst [])) q (.lst [.ref p])) fa (.lst [])) := ((same_new hp).trans (same_new hq)).trans (same_new hfa)
    have nq : H q = none := (same_new hp).free hq
    have nfa : H fa = none := ((same_new hp).trans (same_new hq)).free hfa
    refine ⟨_, rfl, _, _, rfl, rfl, _, _, rfl, ⟨by decide, by decide, by omega, by omega⟩, for_range (lo := 1) (n := (((top : Nat) : Int) + 1 - 1).toNat)
      (fun i σ H' => ∃ q xs v3, σ = [some (vn top), some (.ref q), some (.ref fa), v3, none, none, none, none] ∧ H q = none ∧ Same H H' ∧ q ≠ fa ∧ H' fa = some (.lst []) ∧ H' q = some (.lst xs) ∧ Lsts H' xs (VM.lots i) ∧ (∀ x ∈ xs, x ≠ V.ref fa) ∧ i ≤ top) ?_ ?_ ?_⟩
    · refine ⟨q, [.ref p], _, rfl, nq, e0, ?_, upd_same, upd_new hfa upd_same, .cons (upd_new hfa (upd_new hq upd_same)) .nil, ?_, Nat.zero_le _⟩
      · rintro rfl
        rw [upd_same] at hfa
        cases hfa
      · intro x hx z
        have hx' : x = V.ref p := by simpa using hx
        rw [hx'] at z
        injection z with z
        have := upd_new (o' := .lst [.ref p]) hq (upd_same (H := H) (a := p) (o := .lst []))
        have h2 : upd (upd H p (.lst [])) q (.lst [.ref p]) p = none := by
          have h3 := hfa
          rw [← z] at h3
          exact h3
        rw [h2] at this
        cases this
    · rintro i σ H' hi ⟨q, xs, v3, rfl, hq, e, hne, hf, hl, hls, hxf, hi'⟩
      have hi2 : i < top := by omega
      have len1 := hls.len
      rw [lots_len] at len1
      have p64 := two_pow (show i ≤ 6 by omega)
      refine ⟨_, rfl, _, rfl, q, rfl, ⟨_, SqL.of hl⟩, fun D hD => lc_list (K := K) (a := q) (xs := xs) (fun j H2 => Same H' H2 ∧ ∃ ys, H2 D = some (.lst ys) ∧ Lsts H2 ys (((VM.lots i).take j).map (· ++ [i + 1])) ∧ ∀ y ∈ ys, y ≠ V.ref fa)
        ⟨same_new hD, [], upd_same, .nil, by simp⟩ (fun j H2 _ h => SqL.of (h.1 _ _ hl)) ?_ ?_⟩
      · rintro j x H2 hx ⟨e2, ys, hy, hly, hyf⟩
        obtain ⟨a, ns, rfl, hns, ha⟩ := hls.get hx
        have ln := lot_len i ns (List.mem_of_getElem? hns)
        refine ⟨rfl, _, rfl, _, rfl, (by show 1 ≤ sizeLine; decide), fun t ht => ?_⟩
        apply v_cat (upd_new ht (e2 _ _ ha)) upd_same
        · refine small ?_
          simp only [List.length_map, List.length_cons, List.length_nil]
          omega
        intro r hr
        have hy2 := upd_new (o' := .lst (vns ns ++ [.int (1 + (i : Int))])) hr (upd_new (o' := .lst [.int (1 + (i : Int))]) ht hy)
        have e3 := (e2.trans (same_new (o' := .lst [.int (1 + (i : Int))]) ht)).trans (same_new (o' := .lst (vns ns ++ [.int (1 + (i : Int))])) hr)
        have l2 := (hly.same (same_new (o' := .lst [.int (1 + (i : Int))]) ht)).same (same_new (o' := .lst (vns ns ++ [.int (1 + (i : Int))])) hr)
        have lj : ys.length = j := by
          rw [hly.len, List.length_map, List.length_take]
          have := (List.getElem?_eq_some_iff.mp hns).1
          omega
        have rD : r ≠ D := fun z => by rw [z, upd_new ht hy] at hr; cases hr
        refine ⟨ys, hy2, ?_, same_mut hD e3, _, upd_same, ?_, ?_⟩
        · have := (List.getElem?_eq_some_iff.mp hns).1
          rw [lots_len] at this
          refine small' ?_
          omega
        · rw [VM.take_succ hns, List.map_append]
          -- the new list at D: the old ones stand, the new one behind them
          have keep : Lsts (upd (upd (upd H2 t (.lst [.int (1 + (i : Int))])) r (.lst (vns ns ++ [.int (1 + (i : Int))]))) D (.lst (ys ++ [V.ref r]))) ys (((VM.lots i).take j).map (· ++ [i + 1])) := l2.put hy2 _ fun x hx => hx
          refine Lsts.append keep (.cons ?_ .nil)
          rw [upd_ne rD, upd_same]
          rw [show ((1 : Int) + (i : Int)) = ((i + 1 : Nat) : Int) by omega]
          simp [vns, vn]
        · intro y hy3 z
          rcases List.mem_append.mp hy3 with h | h
          · exact hyf y h z
          · have h' : y = V.ref r := by simpa using h
            rw [h'] at z
            injection z with z
            rw [z, upd_new ht (e2 _ _ hf)] at hr
            cases hr
      · rintro H2 ⟨e2, ys, hy, hly, hyf⟩
        rw [len1, ← lots_len i, List.take_length] at hly
        have len2 := hly.len
        rw [List.length_map, lots_len] at len2
        apply v_cat (e2 _ _ hl) hy
        · refine small ?_
          omega
        intro r hr
        refine ⟨r, xs ++ ys, _, rfl, (e.trans e2).free hr, (e.trans e2).trans (same_new hr), ?_, upd_new hr (e2 _ _ hf), upd_same, Lsts.append ((hls.same e2).same (same_new hr)) (hly.same (same_new hr)), ?_, hi2⟩
        · intro z
          rw [z, e2 _ _ hf] at hr
          cases hr
        · intro x hx
          rcases List.mem_append.mp hx with h | h
          · exact hxf x h
          · exact hyf x h
    · rintro σ H' ⟨q, xs, v3, rfl, hq, e, hne, hf, hl, hls, hxf, hi'⟩
      rw [show (((top : Nat) : Int) + 1 - 1).toNat = top by omega] at hls
      have lenL := hls.len
      rw [lots_len] at lenL
      have p64 := two_pow ht
      -- the entries of each lot
      refine ⟨_, rfl, q, rfl, ⟨_, SqL.of hl⟩, for_list (K := K) (a := q) (xs := xs) (fun j σ H2 => ∃ v3 v4 v5 v6 fs, σ = [some (vn top), some (.ref q), some (.ref fa), v3, v4, v5, v6, none] ∧ But fa H' H2 ∧ H2 fa = some (.lst fs) ∧ Prs K H2 fs (((VM.lots top).take j).map VM.ent))
        ⟨_, _, _, _, [], rfl, fun _ _ h _ => h, hf, .nil⟩ (fun j σ H2 _ ⟨_, _, _, _, _, _, b, _, _⟩ => SqL.of (b _ _ hl hne)) ?_ ?_⟩
      · rintro j x σ H2 hx ⟨v3, v4, v5, v6, fs, rfl, hb, hfs, hprs⟩
        obtain ⟨a, lot, rfl, hlot, ha⟩ := hls.get hx
        have naf : a ≠ fa := fun z => hxf _ (List.mem_of_getElem? hx) (by rw [z])
        have hlen := lot_len top lot (List.mem_of_getElem? hlot)
        have hfl : fs.length = j := by
          have := (List.getElem?_eq_some_iff.mp hlot).1
          rw [hprs.len, List.length_map, List.length_take]
          omega
        have ha2 := hb _ _ ha naf
        -- left, entries = list(lot), []
        refine ⟨_, rfl, a, _, rfl, .inl (SqL.of ha2), fun la hla => ⟨(by show 0 ≤ sizeLine; decide), fun ea hea => ⟨_, _, rfl, ?_⟩⟩⟩
        have b2 : Same H2 (upd (upd H2 la (.lst (vns lot))) ea (.lst [])) := (same_new hla).trans (same_new hea)
        have nla := hla
        have nea := (same_new hla).free hea
        have lae : la ≠ ea := fun z => by rw [← z, upd_same] at hea; cases hea
        refine while_by (fun σ H3 => ∃ l e, σ = [some (vn top), some (.ref q), some (.ref fa), v3, some (.ref a), some (.ref la), some (.ref ea), none] ∧ Same H2 H3 ∧ H3 la = some (.lst (vns l)) ∧ H3 ea = some (.lst (vns e)) ∧
            l.length + e.length ≤ 6 ∧ VM.ent lot = e ++ VM.entries l.length e.length l) (fun σ H3 => match H3 la with | some (.lst xs) => xs.length | _ => 0) ?_ ?_ ?_
        · exact ⟨lot, [], rfl, b2, upd_new hea upd_same, upd_same, by simp; omega, rfl⟩
        · rintro σ H3 ⟨l, e, rfl, s3, hl3, he3, hle, hent⟩
          refine ⟨_, rfl, (by show 0 ≤ sizeLine; decide), fun t ht => ⟨_, _, .lst (SqL.of (upd_new ht hl3)) (dp_vns l), .lst (SqL.of upd_same) (dp_vns []), shaped_ilist l, shaped_ilist [], ?_⟩⟩
          rw [eqv_ilist]
          refine ⟨_, rfl, ?_⟩
          refine v_ifn (fun hc => ?_) (fun hc => ?_)
          · have hl4 : upd H3 t (.lst []) la = some (.lst (vns l)) := upd_new ht hl3
            have he4 : upd H3 t (.lst []) ea = some (.lst (vns e)) := upd_new ht he3
            have s4 : Same H2 (upd H3 t (.lst [])) := s3.trans (same_new ht)
            have mu3 : (match H3 la with | some (.lst xs) => xs.length | _ => 0) = l.length := by
              rw [hl3]
              simp [vns]
            have fin : ∀ (v : Nat) (l' : List Nat), l'.length + 1 = l.length → VM.entries l.length e.length l = v :: VM.entries l'.length (e.length + 1) l' →
                (∃ l'' e', ([some (vn top), some (.ref q), some (.ref fa), v3, some (.ref a), some (.ref la), some (.ref ea), none] : List (Option V)) = [some (vn top), some (.ref q), some (.ref fa), v3, some (.ref a), some (.ref la), some (.ref ea), none] ∧
                  Same H2 (upd (upd (upd H3 t (.lst [])) la (.lst (vns l'))) ea (.lst (vns e ++ [vn v]))) ∧ (upd (upd (upd H3 t (.lst [])) la (.lst (vns l'))) ea (.lst (vns e ++ [vn v]))) la = some (.lst (vns l'')) ∧
                  (upd (upd (upd H3 t (.lst [])) la (.lst (vns l'))) ea (.lst (vns e ++ [vn v]))) ea = some (.lst (vns e')) ∧ l''.length + e'.length ≤ 6 ∧ VM.ent lot = e' ++ VM.entries l''.length e'.length l'') ∧
                (match (upd (upd (upd H3 t (.lst [])) la (.lst (vns l'))) ea (.lst (vns e ++ [vn v]))) la with | some (.lst xs) => xs.length | _ => 0) < (match H3 la with | some (.lst xs) => xs.length | _ => 0) := by
              intro v l' h1 h2
              have g1 : (upd (upd (upd H3 t (.lst [])) la (.lst (vns l'))) ea (.lst (vns e ++ [vn v]))) la = some (.lst (vns l')) := upd_old lae upd_same
              refine ⟨⟨l', e ++ [v], rfl, same_mut nea (same_mut nla s4), g1, ?_, ?_, ?_⟩, ?_⟩
              · rw [upd_same]
                simp [vns]
              · simp
                omega
              · rw [hent, h2]
                simp
              · rw [g1, mu3]
                simp [vns]
                omega
            refine ⟨_, rfl, .inl ⟨rfl, _, SqL.of he4⟩, _, rfl, ?_⟩
            apply v_lenL (SqL.of he4)
            refine .inl ⟨_, rfl, _, _, rfl, rfl, (by show (0 : Int) < 2; decide), rfl, _, rfl, ?_⟩
            have el : ((vns e).length : Int) = (e.length : Int) := by simp [vns]
            refine v_ifd (fun hp => ?_) (fun hp => ?_)
            · have hp' : e.length % 2 = 0 := by
                have h0 : V.int (((vns e).length : Int) % 2) = V.int 0 := hp
                injection h0 with h1
                rw [el] at h1
                omega
              obtain ⟨l', v, rfl⟩ : ∃ l' v, l = l' ++ [v] := by
                rcases List.eq_nil_or_concat l with h | ⟨l', v, h⟩
                · exact absurd h hc
                · exact ⟨l', v, by rw [h, List.concat_eq_append]⟩
              have hvl : vns (l' ++ [v]) = vns l' ++ [vn v] := by simp [vns]
              refine ⟨_, rfl, .inl ⟨rfl, _, SqL.of hl4⟩, _, rfl, la, _, -1, l'.length, vn v, rfl, rfl, hl4, by decide, by decide, ?_, ?_, ?_⟩
              · rw [hvl, List.length_append, List.length_map]
                exact at_last l'.length
              · rw [hvl]
                simp [vns]
              · have hee : (vns (l' ++ [v])).eraseIdx l'.length = vns l' := by
                  rw [hvl, ← List.length_map (f := vn) (as := l')]
                  exact erase_last _ _
                rw [hee]
                apply v_app (upd_old (Ne.symm lae) he4)
                · refine small' ?_
                  simp only [List.length_map]
                  omega
                · exact fin v l' (by simp) (entries_last l' v e.length hp')
            · have hp' : ¬ e.length % 2 = 0 := by
                intro h
                apply hp
                show V.int (((vns e).length : Int) % 2) = V.int 0
                rw [el]
                congr 1
                omega
              obtain ⟨v, l', rfl⟩ : ∃ v l', l = v :: l' := by
                cases l with
                | nil => exact absurd rfl hc
                | cons v l' => exact ⟨v, l', rfl⟩
              refine ⟨_, rfl, .inl ⟨rfl, _, SqL.of hl4⟩, la, _, 0, 0, vn v, rfl, rfl, hl4, by decide, by decide, ?_, rfl, ?_⟩
              · rw [List.length_map]
                exact at_first l'.length
              · apply v_app (upd_old (Ne.symm lae) he4)
                · refine small' ?_
                  simp only [List.length_map]
                  omega
                · exact fin v l' (by simp) (entries_first l' v e.length hp')
          · -- found.append((len(entries), tuple(entries)))
            subst hc
            have he4 : upd H3 t (.lst []) ea = some (.lst (vns e)) := upd_new ht he3
            have s4 : Same H2 (upd H3 t (.lst [])) := s3.trans (same_new ht)
            have hent' : VM.ent lot = e := by
              rw [hent]
              simp [VM.entries]
            have hf4 := s4 _ _ hfs
            refine ⟨_, rfl, .inl ⟨rfl, _, SqL.of hf4⟩, _, rfl, ?_⟩
            apply v_lenL (SqL.of he4)
            refine ⟨_, rfl, ea, _, rfl, .inl ⟨SqL.of he4, fun u hu => ⟨(by show 2 ≤ sizeLine; decide), fun r hr => ?_⟩⟩⟩
            have s6 := (s4.trans (same_new (o' := .tup (vns e)) hu)).trans (same_new (o' := .tup [.int (vns e).length, .ref u]) hr)
            have hf6 := s6 _ _ hfs
            apply v_app hf6
            · refine small' ?_
              have := (List.getElem?_eq_some_iff.mp hlot).1
              rw [lots_len] at this
              omega
            · refine ⟨_, _, _, _, _, rfl, but_trans hb (but_trans (but_same s6) but_upd), upd_same, ?_⟩
              rw [VM.take_succ hlot, List.map_append]
              have kp : ∀ a xs, SqT K H2 a xs → SqT K (upd (upd (upd (upd H3 t (.lst [])) u (.tup (vns e))) r (.tup [.int (vns e).length, .ref u])) fa (.lst (fs ++ [.ref r]))) a xs := fun a xs h =>
                sqT_but but_upd hf6 (sqT_same s6 h)
              have nr : r ≠ fa := fun z => by rw [z, upd_new hu hf4] at hr; cases hr
              have nu : u ≠ fa := fun z => by rw [z, hf4] at hu; cases hu
              refine Prs.append (hprs.but kp) (.cons (e := u) (SqT.of ?_) (SqT.of ?_) .nil)
              · rw [upd_ne nr, upd_same, hent']
                simp [vns, vn]
              · rw [upd_ne nu, hent']
                exact upd_new hr upd_same
        · rintro σ H Q1 Q2 f ⟨v, h1, h2, h3⟩
          exact ⟨v, h1, h2, fun p hp => let ⟨d, e, a, b, c, dd, k, hk, q⟩ := h3 p hp; ⟨d, e, a, b, c, dd, k, hk, f _ _ q⟩⟩
      · rintro σ H2 ⟨v3, v4, v5, v6, fs, rfl, hb, hfs, hprs⟩
        rw [lenL, ← lots_len top, List.take_length] at hprs
        have hms : (VM.lots top).map VM.ent = VM.msOf top := rfl
        rw [hms] at hprs
        have hfl := hprs.len
        obtain ⟨M, hM, eM⟩ := srt_map fs (VM.msOf top)
        refine ⟨_, rfl, fa, fs, (VM.msOf top).map penc, rfl, SqL.of hfs, hprs.dp, ?_, ?_, ?_, fun p hp => ?_⟩
        · intro d hd d' hd'
          obtain ⟨a, _, rfl⟩ := List.mem_map.mp hd
          obtain ⟨b, _, rfl⟩ := List.mem_map.mp hd'
          exact alike_penc a b
        · refine .inl fun d hd => ?_
          obtain ⟨a, _, rfl⟩ := List.mem_map.mp hd
          exact ⟨_, _, rfl⟩
        · intro d hd
          obtain ⟨a, _, rfl⟩ := List.mem_map.mp hd
          show max 0 (max (PyData.depthAll (a.map pint) + 1) 0) + 1 ≤ 60
          rw [dep_ints]
          decide
        · have eF : (srt fs ((VM.msOf top).map penc)).map Prod.fst = M.map Prod.fst := by
            rw [eM, List.map_map]
            rfl
          rw [eF]
          refine ⟨p, rfl, ⟨_, SqL.of upd_same⟩, fun D hD => lc_list (K := K) (a := p) (xs := M.map Prod.fst) (fun j H3 => Same (upd H2 p (.lst (M.map Prod.fst))) H3 ∧ ∃ ys, H3 D = some (.lst ys) ∧ Tups K H3 ys ((M.take j).map Prod.snd))
            ⟨same_new hD, [], upd_same, .nil⟩ (fun j H3 _ h => h.1.seq (SqL.of upd_same)) ?_ ?_⟩
          · rintro j x H3 hx ⟨e3, ys, hy, hty⟩
            rw [List.getElem?_map] at hx
            cases em : M[j]? with
            | none => rw [em] at hx; cases hx
            | some m =>
              rw [em] at hx
              obtain rfl : m.1 = x := Option.some.inj hx
              obtain ⟨x, ns⟩ := m
              have hmem : (x, ns) ∈ fs.zip (VM.msOf top) := hM.mem_iff.mp (List.mem_of_getElem? em)
              obtain ⟨t, u, rfl, ht1, hu1⟩ := hprs.zip x ns hmem
              have e23 : Same H2 H3 := (same_new hp).trans e3
              refine ⟨t, _, rfl, sqT_same e23 ht1, rfl, _, _, rfl, _, _, rfl, rfl, ?_⟩
              refine ⟨rfl, _, rfl, ys, hy, ?_, same_mut hD e3, _, upd_same, ?_⟩
              · have h1 := hty.len
                have h2 : (M.take j).length ≤ j := by
                  rw [List.length_take]
                  omega
                have h3 : j < M.length := (List.getElem?_eq_some_iff.mp em).1
                have h4 : M.length = (fs.zip (VM.msOf top)).length := hM.length_eq
                rw [List.length_zip, hfl, ← hms, List.length_map, lots_len] at h4
                rw [List.length_map] at h1
                refine small' ?_
                omega
              · rw [VM.take_succ em, List.map_append]
                refine Tups.append (hty.but fun a ns h => sqT_but but_upd hy h) (Tups.one ?_)
                exact sqT_but but_upd hy (sqT_same e23 hu1)
          · rintro H3 ⟨e3, ys, hy, hty⟩
            have h4 : M.length = (M.map Prod.fst).length := by simp
            rw [← h4, List.take_length] at hty
            have hperm : (M.map Prod.snd).Perm (VM.msOf top) := by
              have := hM.map Prod.snd
              rw [snd_zip2 hfl] at this
              exact this
            have e23 : Same H2 H3 := (same_new hp).trans e3
            have eHH : Same H H3 := fun b o hbo => e23 _ _ (hb b o (e b o hbo) fun z => by rw [z, nfa] at hbo; cases hbo)
            refine k D H3 ys _ ?_ eHH hy hty hperm
            cases hn : H D with
            | none => rfl
            | some o =>
              have h5 := hb D o (e D o hn) fun z => by rw [z, nfa] at hn; cases hn
              have h6 := upd_new (o' := .lst (M.map Prod.fst)) hp h5
              rw [hD] at h6
              cases h6
end

theorem tyX_put {K : PySem.W.Frag} {H : Hp} {f : Addr} {u u' : List V} (hf : H f = some (.lst u)) {x : V} {t : Value} (h : TyX K H x t) : TyX K (upd H f (.lst u')) x t := by
  have ne : ∀ {a : Addr} {o : HO}, H a = some o → (∀ z, o ≠ .lst z) → a ≠ f := fun {a o} ha hn e => by
    rw [e, hf] at ha
    exact hn u (Option.some.inj ha).symm
  cases h with
  | base b =>
    refine .base ?_
    cases b with
    | non => exact .non
    | bl => exact .bl _
    | int => exact .int _
    | str => exact .str _
    | flt => exact .flt _
    | @lst a xs h =>
      by_cases e : a = f
      · rw [e]
        exact .lst upd_same
      · exact .lst (upd_old e h)
    | frz h => exact .frz (upd_old (ne h (by intro z e; cases e)) h)
    | tup h => exact .tup (upd_old (ne h (by intro z e; cases e)) h)
    | dK h => exact .dK (upd_old (ne h (by intro z e; cases e)) h)
    | dT h => exact .dT (upd_old (ne h (by intro z e; cases e)) h)
    | ins h a b c d g => exact .ins (upd_old (ne h (by intro z e; cases e)) h) a b c d g
  | byt => exact .byt _
  | set h => exact .set (upd_old (ne h (by intro z e; cases e)) h)
  | kList h c => exact .kList h c
  | kTuple h c => exact .kTuple h c
  | kDict h c => exact .kDict h c
  | fTuple h => exact .fTuple (upd_old (ne h (by intro z e; cases e)) h)
  | fDict h => exact .fDict (upd_old (ne h (by intro z e; cases e)) h)
theorem OkT.put {K : PySem.W.Frag} {H : Hp} {f : Addr} {u u' : List V} (hf : H f = some (.lst u)) {x : V} {n : String} (h : OkT K H x n) : OkT K (upd H f (.lst u')) x n := ⟨tyX_put hf h.ty, h.kd⟩
theorem MemV.put {K : PySem.W.Frag} {H : Hp} {f : Addr} {u u' : List V} (hf : H f = some (.lst u)) {top : Nat} {x : V} {b : Bool} (h : MemV K H top x b) : MemV K (upd H f (.lst u')) top x b := by
  cases h with
  | tup h ht hi hz => exact .tup (sqT_but but_upd hf h) (OkT.put hf ht) (fun x hx => let ⟨n, q⟩ := hi x hx; ⟨n, OkT.put hf q⟩) hz
  | other h hn => exact .other (OkT.put hf h) hn
theorem sqL_keep {K : PySem.W.Frag} {H H' : Hp} {f a : Addr} {xs : List V} (h : SqL K H a xs) (hf : H f = none) (e : But f H H') : SqL K H' a xs := by
  rcases h with (h | ⟨o, h⟩) | h
  · exact .inl (.inl (e _ _ h (ne_of_none h hf)))
  · exact .inl (.inr ⟨o, e _ _ h (ne_of_none h hf)⟩)
  · exact .inr h
theorem ok_tup {K : PySem.W.Frag} {H : Hp} {a : Addr} {xs : List V} (h : H a = some (.tup xs)) : OkT K H (.ref a) "tuple" := ⟨.base (.tup h), by decide⟩
theorem ok_tupS {K : PySem.W.Frag} {H : Hp} {a : Addr} {xs : List V} (h : SqT K H a xs) : OkT K H (.ref a) "tuple" := by
  rcases h with (h | ⟨o, h⟩) | ⟨o, its, n, hk, hc, _⟩
  · exact ⟨.base (.tup h), by decide⟩
  · exact ⟨.fTuple h, by decide⟩
  · exact ⟨.kTuple hk hc, by decide⟩
theorem ok_lst {K : PySem.W.Frag} {H : Hp} {a : Addr} {xs : List V} (h : H a = some (.lst xs)) : OkT K H (.ref a) "list" := ⟨.base (.lst h), by decide⟩
theorem ok_int {K : PySem.W.Frag} {H : Hp} {i : Int} : OkT K H (.int i) "int" := ⟨.base (.int _), by decide⟩
/-- a memory of the law's list as a value that is handed in -/
theorem good_mem {K : PySem.W.Frag} {H : Hp} {top : Nat} {a : Addr} {ns : List Nat} (g : VM.Good top ns) (h1 : top ≤ 6) (h : SqT K H a (vns ns)) (hz : ns.length ≤ 1000) : MemV K H top (.ref a) true := by
  have e : isMem top (vns ns) = true := by
    unfold isMem
    rw [nat_vns, lvl_vns g.lev, g.self]
    simp
  rw [← e]
  refine .tup h (ok_tupS h) (fun x hx => ?_) (by simpa [vns] using hz)
  obtain ⟨n, _, rfl⟩ := List.mem_map.mp hx
  exact ⟨_, ok_int⟩
theorem ms_len {top : Nat} (h6 : top ≤ 6) {a : List Nat} (h : a ∈ VM.msOf top) : a.length ≤ 6 := by
  rcases (show top = 0 ∨ top = 1 ∨ top = 2 ∨ top = 3 ∨ top = 4 ∨ top = 5 ∨ top = 6 by omega) with rfl | rfl | rfl | rfl | rfl | rfl | rfl
  · exact (show ∀ a ∈ VM.msOf 0, a.length ≤ 6 by decide +kernel) a h
  · exact (show ∀ a ∈ VM.msOf 1, a.length ≤ 6 by decide +kernel) a h
  · exact (show ∀ a ∈ VM.msOf 2, a.length ≤ 6 by decide +kernel) a h
  · exact (show ∀ a ∈ VM.msOf 3, a.length ≤ 6 by decide +kernel) a h
  · exact (show ∀ a ∈ VM.msOf 4, a.length ≤ 6 by decide +kernel) a h
  · exact (show ∀ a ∈ VM.msOf 5, a.length ≤ 6 by decide +kernel) a h
  · exact (show ∀ a ∈ VM.msOf 6, a.length ≤ 6 by decide +kernel) a h

section
variable {P : Program} {w : World} {K : PySem.W.Frag} {mg : Str → Option Value} {base : Heap} {C D : Addr}
theorem sw_small {n : Nat} (h : n ≤ 6) : (VM.switches n).length ≤ 42 := by
  rcases sw_len n with h' | h'
  · omega
  · omega
theorem filter_take {α : Type} {l : List α} {i : Nat} {x : α} (p : α → Bool) (h : l[i]? = some x) : (l.take (i + 1)).filter p = (l.take i).filter p ++ (if p x then [x] else []) := by
  rw [VM.take_succ h, List.filter_append]
  congr 1
  by_cases c : p x
  · simp [c]
  · simp [c]
/-! ### switches -/
theorem ok_psw {f : Addr} {fd : FuncData} (F : Fun K "switches" "switches" sswitches f fd) (T : Txt K mg C) : FnOk P w K mg base CX0 1 f fd ["top"] (spSwitches K) := by
  have nd := scswitches.nd
  refine F.ok scswitches (fun vs H Q E h => ?_) (fun cdv A outer s H vs Q E hr h => ?_)
  · obtain ⟨top, rfl, _⟩ := h
    rfl
  · obtain ⟨top, rfl, ht, k⟩ := h
    refine ⟨_, (pss_one (ps_ret (pe_lc2 (own := [("up", 1), ("down", 2)]) (vs1 := [2]) (by rfl) nd (pi_range2 (by rfl) T.range_ (pa_cons pe_int (pa_cons (pe_op op_add (pv 0) pe_int) pa_nil))) (blkOk_by (own := [("up", 1), ("down", 2)]) (N := nswitches) (sc := defScope sswitches) (by decide +kernel)) (by decide) (fun _ _ _ _ _ => (pg_name (i := 1) nd rfl (Or.inl rfl))) (fun _ _ _ _ _ => pts_nil) (fun _ _ _ _ _ => (pi_range1 (by rfl) T.range_ (pa_cons (pv 1) pa_nil))) (fun _ _ _ _ _ => (pg_name (i := 2) nd rfl (Or.inl rfl))) (fun _ _ _ _ _ => pts_nil) (fun _ _ _ _ _ => (pe_tup (pa_cons (pv 1) (pa_cons (pv 2) pa_nil))))))), ?_⟩
    refine ⟨_, rfl, _, _, rfl, rfl, _, _, rfl, ⟨by decide, by decide, by omega, by omega⟩, fun D hD => it_range (lo := 1) (n := (((top : Nat) : Int) + 1 - 1).toNat)
      (fun i H' => Same H H' ∧ i ≤ top ∧ ∃ xs, H' D = some (.lst xs) ∧ Tups K H' xs (VM.switches i)) ?_ ?_ ?_⟩
    · exact ⟨same_new hD, Nat.zero_le _, [], upd_same, .nil⟩
    · rintro i H' hi ⟨e, hi', xs, hx, hty⟩
      have hi2 : i < top := by omega
      refine ⟨rfl, ?_⟩
      refine ⟨_, rfl, _, rfl, by omega, by omega, it_range (lo := 0) (n := ((1 : Int) + (i : Int)).toNat)
        (fun j H2 => Same H H2 ∧ ∃ ys, H2 D = some (.lst ys) ∧ Tups K H2 ys (VM.switches i ++ (List.range j).map fun d => [i + 1, d])) ?_ ?_ ?_⟩
      · exact ⟨e, xs, hx, by simpa using hty⟩
      · rintro j H2 hj ⟨e2, ys, hy, hty2⟩
        refine ⟨rfl, _, rfl, _, rfl, (by show 2 ≤ sizeLine; decide), fun t ht' => ⟨_, upd_new ht' hy, ?_, ?_⟩⟩
        · have h1 := hty2.len
          have h2 := sw_small (n := i) (by omega)
          refine small' ?_
          rw [h1, List.length_append, List.length_map, List.length_range]
          omega
        · have hy2 : (upd H2 t (.tup [.int (1 + (i : Int)), .int (0 + (j : Int))])) D = some (.lst ys) := upd_new ht' hy
          refine ⟨same_mut hD (e2.trans (same_new ht')), _, upd_same, ?_⟩
          rw [List.range_succ, List.map_append, ← List.append_assoc]
          refine Tups.append ((hty2.same (same_new ht')).but fun a ns h => sqT_but (f := D) but_upd hy2 h) (Tups.one (SqT.of ?_))
          have tD : t ≠ D := fun z => by rw [z, hy] at ht'; cases ht'
          rw [upd_ne tD, upd_same]
          have a1 : (1 : Int) + (i : Int) = ((i + 1 : Nat) : Int) := by omega
          have a2 : (0 : Int) + (j : Int) = ((j : Nat) : Int) := by omega
          rw [a1, a2]
          rfl
      · rintro H2 ⟨e2, ys, hy, hty2⟩
        refine ⟨e2, hi2, ys, hy, ?_⟩
        rw [sw_succ]
        rw [show ((1 : Int) + (i : Int)).toNat = i + 1 by omega] at hty2
        exact hty2
    · rintro H' ⟨e, hi, xs, hx, hty⟩
      rw [show (((top : Nat) : Int) + 1 - 1).toNat = top by omega] at hty
      exact k D H' xs hD e hx hty
/-! ### check_levels -/
/-- where the first thing stands that is no level -/
def badIx (top : Nat) (xs : List V) : Option Nat := xs.findIdx? fun x => !lvl top x
/-- a value that is handed in as levels, and the index that is told of it -/
inductive LevV (K : PySem.W.Frag) (H : Hp) (top : Nat) : V → Option Nat → Prop
  | lst {a : Addr} {xs : List V} (h : SqL K H a xs) (ht : OkT K H (.ref a) "list") (hi : ∀ x ∈ xs, ∃ n, OkT K H x n) (hz : xs.length ≤ 1000) : LevV K H top (.ref a) (badIx top xs)
  | other {x : V} {n : String} (h : OkT K H x n) (hn : n ≠ "list") : LevV K H top x (some 0)
theorem sqL_same {H H' : Hp} {a : Addr} {xs : List V} (e : Same H H') (h : SqL K H a xs) : SqL K H' a xs := e.seq h
theorem LevV.same {H H' : Hp} {top : Nat} (e : Same H H') {x : V} {b : Option Nat} (h : LevV K H top x b) : LevV K H' top x b := by
  cases h with
  | lst h ht hi hz => exact .lst (e.seq h) (ht.same e) (fun x hx => let ⟨n, q⟩ := hi x hx; ⟨n, q.same e⟩) hz
  | other h hn => exact .other (h.same e) hn
theorem badIx_none {top : Nat} {xs : List V} (h : badIx top xs = none) : xs = vns (xs.map natV) ∧ ∀ n ∈ xs.map natV, n ≤ top := by
  refine all_lvl (List.all_eq_true.mpr fun x hx => ?_)
  have := List.findIdx?_eq_none_iff.mp h x hx
  simpa using this
def spCheckLevels (K : PySem.W.Frag) (D : Addr) : Sp := fun vs H Q E => ∃ (top : Nat) (x : V) (b : Option Nat), vs = [vn top, x] ∧ LevV K H top x b ∧ (b = none → ∀ H', Same H H' → Q .non H') ∧
  (∀ i, b = some i → ∀ d H', Same H H' → H' d = some (.xd [("index", vn i)]) → E (.ref D) (some d) H')
theorem ok_check_levels {f : Addr} {fd : FuncData} (F : Fun K "check_levels" "check_levels" scheck_levels f fd) (T : Txt K mg C) (Dis_level : Def P w K mg base CX0 2 "is_level" ["top", "value"] (spIsLevel K)) (DBadLevels : OwnIx P w K mg base "BadLevels" D) :
    FnOk P w K mg base (L2.CX P w) 3 f fd ["top", "levels"] (spCheckLevels K D) := by
  have nd := sccheck_levels.nd
  refine F.okX sccheck_levels (fun vs H Q E h => ?_) (fun cdv A outer s H vs Q E hr h => ?_)
  · obtain ⟨top, x, b, rfl, _⟩ := h
    rfl
  · obtain ⟨top, x, b, rfl, hm, k1, k2⟩ := h
    refine ⟨_, (pss_cons (ps_if (pt_not (pt_val (pe_callB call_isi (by rfl) T.isinstance_ (by decide +kernel) (pa_cons (pv 1) (pa_cons (pe_bltn (v := .ty "list") (by rfl) T.list_ (by decide +kernel) rfl) pa_nil))))) (pss_one (ps_raise rfl (takes_of rfl rfl rfl rfl) (DBadLevels.pmk (hr.mono (by decide)) rfl (pa_cons pe_int pa_nil)))) pss_nil) (pss_one (ps_for (passes_of rfl) rfl (pi_enum (by rfl) T.enumerate_ (pa_cons (pv 1) pa_nil)) (pg_tup rfl (pgs_cons (pg_name (i := 2) nd rfl (Or.inl rfl)) (pgs_cons (pg_name (i := 3) nd rfl (Or.inl rfl)) pgs_nil))) (pss_one (ps_if (pt_not (pt_val (pe_callD Dis_level (hr.mono (by decide)) rfl pass0 (pa_cons (pv 0) (pa_cons (pv 3) pa_nil))))) (pss_one (ps_raise rfl (takes_of rfl rfl rfl rfl) (DBadLevels.pmk (hr.mono (by decide)) rfl (pa_cons (pv 2) pa_nil)))) pss_nil))))), ?_⟩
    cases hm with
    | other ok hn =>
      refine ⟨_, rfl, ?_⟩
      apply v_isi ok (kit_list ok.kd)
      refine ⟨_, rfl, ?_⟩
      refine v_ift ?_ ?_
      · simp [hn]
      · exact mk_index fun d H' e hd => k2 0 rfl d H' e hd
    | @lst a xs h ht hi hz =>
      refine ⟨_, rfl, ?_⟩
      apply v_isi ht (kit_list ht.kd)
      refine ⟨_, rfl, ?_⟩
      refine v_iff (by rfl) ?_
      refine ⟨_, rfl, a, _, rfl, h, for_enumL (K := K) (a := a) (xs := xs) (fun i σ H' => (∃ v1 v2, σ = [some (vn top), some (.ref a), v1, v2]) ∧ Same H H' ∧ ∀ x ∈ xs.take i, lvl top x = true)
        ⟨⟨_, _, rfl⟩, Same.refl _, by simp⟩ (fun i σ H' h' => h'.2.1.seq h) ?_ ?_⟩
      · rintro i x Tt σ H' hx ⟨⟨v1, v2, rfl⟩, e, hl⟩ hT
        have e1 : Same H (upd H' Tt (.tup [.int (i : Nat), x])) := e.trans (same_new hT)
        obtain ⟨n, ok⟩ := hi x (List.mem_of_getElem? hx)
        refine ⟨Tt, _, rfl, SqT.of upd_same, rfl, _, _, rfl, _, _, rfl, rfl, ?_⟩
        refine ⟨_, rfl, _, rfl, top, x, n, rfl, ok.same e1, ?_⟩
        refine ⟨_, rfl, ?_⟩
        refine v_ifb (fun hb => ?_) (fun hb => ?_)
        · have hb' : lvl top x = false := by simpa using hb
          refine ⟨_, rfl, ?_⟩
          refine mk_index fun d H2 e2 hd => k2 i ?_ d H2 (e1.trans e2) hd
          have hi' := (List.getElem?_eq_some_iff.mp hx)
          refine List.findIdx?_eq_some_iff_getElem.mpr ⟨hi'.1, ?_, fun j hj => ?_⟩
          · rw [hi'.2, hb']
            rfl
          · have : xs[j]'(Nat.lt_trans hj hi'.1) ∈ xs.take i := by
              refine List.mem_take_iff_getElem.mpr ⟨j, ?_, rfl⟩
              have := hi'.1
              omega
            rw [hl _ this]
            decide
        · have hb' : lvl top x = true := by simpa using hb
          refine ⟨⟨_, _, rfl⟩, e1, fun y hy => ?_⟩
          rw [VM.take_succ hx, List.mem_append] at hy
          rcases hy with hy | hy
          · exact hl y hy
          · rw [List.mem_singleton.mp hy]
            exact hb'
      · rintro σ H' ⟨⟨v1, v2, rfl⟩, e, hl⟩
        rw [List.take_length] at hl
        refine k1 ?_ H' e
        exact List.findIdx?_eq_none_iff.mpr fun x hx => by rw [hl x hx]; rfl
/-! ### memory_after, memory_of -/
theorem memV_true {H : Hp} {top : Nat} {x : V} {b : Bool} (h : MemV K H top x b) (hb : b = Bool.true) : ∃ p m, x = .ref p ∧ SqT K H p (vns m) ∧ m.length ≤ 1000 := by
  cases h with
  | @tup a xs h ht hi hz =>
    refine ⟨a, xs.map natV, rfl, ?_, by simpa using hz⟩
    rw [← isMem_nat hb]
    exact h
  | other h hn => cases hb
theorem levV_none {H : Hp} {top : Nat} {x : V} {b : Option Nat} (h : LevV K H top x b) (hb : b = Option.none) : ∃ p ls, x = .ref p ∧ SqL K H p (vns ls) ∧ ls.length ≤ 1000 ∧ ∀ l ∈ ls, l ≤ top := by
  cases h with
  | @lst a xs h ht hi hz =>
    obtain ⟨e1, e2⟩ := badIx_none hb
    refine ⟨a, xs.map natV, rfl, ?_, by simpa using hz, e2⟩
    rw [← e1]
    exact h
  | other h hn => cases hb
def spAfter (K : PySem.W.Frag) (C D : Addr) : Sp := fun vs H Q E => ∃ (top : Nat) (x y : V) (b : Bool) (c : Option Nat), vs = [vn top, x, y] ∧ MemV K H top x b ∧ LevV K H top y c ∧
  (b = false → ∀ H', Same H H' → E (.ref C) none H') ∧ (b = true → ∀ i, c = some i → ∀ d H', Same H H' → H' d = some (.xd [("index", vn i)]) → E (.ref D) (some d) H') ∧
  (b = true → c = none → ∃ p q m ls, x = .ref p ∧ y = .ref q ∧ SqT K H p (vns m) ∧ SqL K H q (vns ls) ∧ m.length ≤ 1000 ∧ ls.length ≤ 1000 ∧ ∀ r H', Same H H' → SqT K H' r (vns (VM.followed m ls)) → Q (.ref r) H')
theorem ok_after {f : Addr} {fd : FuncData} (F : Fun K "memory_after" "memory_after" smemory_after f fd) (T : Txt K mg C) (Dcheck_memory : Def P w K mg base (L2.CX P w) 4 "check_memory" ["top", "memory"] (spCheckMemory K C))
    (Dcheck_levels : Def P w K mg base (L2.CX P w) 3 "check_levels" ["top", "levels"] (spCheckLevels K D)) (D_followed : Def P w K mg base CX0 2 "_followed" ["memory", "levels"] (spFollowed K)) :
    FnOk P w K mg base (L2.CX P w) 5 f fd ["top", "memory", "levels"] (spAfter K C D) := by
  have nd := scmemory_after.nd
  refine F.okX scmemory_after (fun vs H Q E h => ?_) (fun cdv A outer s H vs Q E hr h => ?_)
  · obtain ⟨top, x, y, b, c, rfl, _⟩ := h
    rfl
  · obtain ⟨top, x, y, b, c, rfl, hx, hy, k1, k2, k3⟩ := h
    refine ⟨_, (pss_cons (ps_expr (pe_callD Dcheck_memory (hr.mono (by decide)) rfl (passes_call (takes_of rfl rfl rfl rfl) (fun _ _ _ _ h => h)) (pa_cons (pv 0) (pa_cons (pv 1) pa_nil)))) (pss_cons (ps_expr (pe_callD Dcheck_levels (hr.mono (by decide)) rfl (passes_call (takes_of rfl rfl rfl rfl) (fun _ _ _ _ h => h)) (pa_cons (pv 0) (pa_cons (pv 2) pa_nil)))) (pss_one (ps_ret (pe_callD D_followed (hr.mono (by decide)) rfl pass0 (pa_cons (pv 1) (pa_cons (pv 2) pa_nil))))))), ?_⟩
    refine ⟨_, rfl, _, rfl, top, x, b, rfl, hx, fun hb H1 e1 => ?_, fun hb H1 e1 => k1 hb H1 e1⟩
    refine ⟨_, rfl, _, rfl, top, y, c, rfl, hy.same e1, fun hc H2 e2 => ?_, fun i hc d H2 e2 hd => k2 hb i hc d H2 (e1.trans e2) hd⟩
    obtain ⟨p, q, m, ls, rfl, rfl, hp, hq, hz1, hz2, kk⟩ := k3 hb hc
    have e12 := e1.trans e2
    exact ⟨_, rfl, _, rfl, p, q, m, ls, rfl, sqT_same e12 hp, .inl (e12.seq hq), by omega, fun r H3 e3 h3 => kk r H3 (e12.trans e3) h3⟩
def spOf (K : PySem.W.Frag) (D : Addr) : Sp := fun vs H Q E => ∃ (top : Nat) (y : V) (c : Option Nat), vs = [vn top, y] ∧ LevV K H top y c ∧ (∀ i, c = some i → ∀ d H', Same H H' → H' d = some (.xd [("index", vn i)]) → E (.ref D) (some d) H') ∧
  (c = none → ∃ q ls, y = .ref q ∧ SqL K H q (vns ls) ∧ ls.length ≤ 1000 ∧ ∀ r H', Same H H' → SqT K H' r (vns (VM.followed [] ls)) → Q (.ref r) H')
theorem ok_of {f : Addr} {fd : FuncData} (F : Fun K "memory_of" "memory_of" smemory_of f fd) (T : Txt K mg C) (Dmemory_after : Def P w K mg base (L2.CX P w) 5 "memory_after" ["top", "memory", "levels"] (spAfter K C D)) :
    FnOk P w K mg base (L2.CX P w) 6 f fd ["top", "history"] (spOf K D) := by
  have nd := scmemory_of.nd
  refine F.okX scmemory_of (fun vs H Q E h => ?_) (fun cdv A outer s H vs Q E hr h => ?_)
  · obtain ⟨top, y, c, rfl, _⟩ := h
    rfl
  · obtain ⟨top, y, c, rfl, hy, k1, k2⟩ := h
    refine ⟨_, (pss_one (ps_ret (pe_callD Dmemory_after (hr.mono (by decide)) rfl (passes_call (takes_of rfl rfl rfl rfl) (fun _ _ _ _ h => h)) (pa_cons (pv 0) (pa_cons (pe_tup pa_nil) (pa_cons (pv 1) pa_nil)))))), ?_⟩
    refine ⟨_, rfl, (by show 0 ≤ sizeLine; decide), fun t ht => ⟨_, rfl, ?_⟩⟩
    have e0 : isMem top ([] : List V) = true := by simp [isMem, VM.followed]
    have hm : MemV K (upd H t (.tup [])) top (.ref t) true := by
      rw [← e0]
      exact .tup (SqT.of upd_same) (ok_tup upd_same) (by simp) (by simp)
    refine ⟨top, .ref t, y, true, c, rfl, hm, hy.same (same_new ht), fun z => Bool.noConfusion z, fun _ i hc d H' e hd => k1 i hc d H' ((same_new ht).trans e) hd, fun _ hc => ?_⟩
    obtain ⟨q, ls, rfl, hq, hz, kk⟩ := k2 hc
    exact ⟨t, q, [], ls, rfl, rfl, SqT.of upd_same, (same_new ht).seq hq, by simp, hz, fun r H' e h => kk r H' ((same_new ht).trans e) h⟩
/-! ### switches_on -/
def spOnP (K : PySem.W.Frag) (C : Addr) : Sp := fun vs H Q E => ∃ (top : Nat) (x : V) (b : Bool), vs = [vn top, x] ∧ top ≤ 6 ∧ MemV K H top x b ∧ (b = false → ∀ H', Same H H' → E (.ref C) none H') ∧
  (b = true → ∃ p m, x = .ref p ∧ SqT K H p (vns m) ∧ ∀ r H' ys, H r = none → Same H H' → H' r = some (.lst ys) → Tups K H' ys (VM.on top m) → Q (.ref r) H')
theorem ok_pon {f : Addr} {fd : FuncData} (F : Fun K "switches_on" "switches_on" sswitches_on f fd) (T : Txt K mg C) (Dcheck_memory : Def P w K mg base (L2.CX P w) 4 "check_memory" ["top", "memory"] (spCheckMemory K C))
    (D_heights : Def P w K mg base CX0 2 "_heights" ["top", "memory"] (spHeights K)) (Dswitches : Def P w K mg base CX0 1 "switches" ["top"] (spSwitches K)) :
    FnOk P w K mg base (L2.CX P w) 5 f fd ["top", "memory"] (spOnP K C) := by
  have nd := scswitches_on.nd
  refine F.okX scswitches_on (fun vs H Q E h => ?_) (fun cdv A outer s H vs Q E hr h => ?_)
  · obtain ⟨top, x, b, rfl, _⟩ := h
    rfl
  · obtain ⟨top, x, b, rfl, ht, hx, k1, k2⟩ := h
    refine ⟨_, (pss_cons (ps_expr (pe_callD Dcheck_memory (hr.mono (by decide)) rfl (passes_call (takes_of rfl rfl rfl rfl) (fun _ _ _ _ h => h)) (pa_cons (pv 0) (pa_cons (pv 1) pa_nil)))) (pss_cons (ps_set (i := 2) nd rfl (Or.inr rfl) (pe_callD D_heights (hr.mono (by decide)) rfl pass0 (pa_cons (pv 0) (pa_cons (pv 1) pa_nil)))) (pss_one (ps_ret (pe_lc (own := [("switch", 3)]) (by rfl) nd (pi_list (pe_callD Dswitches (hr.mono (by decide)) rfl pass0 (pa_cons (pv 0) pa_nil))) (blkOk_by (own := [("switch", 3)]) (N := nswitches_on) (sc := defScope sswitches_on) (by decide +kernel)) (fun _ _ _ _ _ => (pg_name (i := 3) nd rfl (Or.inl rfl))) (fun _ _ _ _ _ => (pts_one (pt_cmpR op_le (pe_ix (kIx rIxT K ix_tup) (pv 3) pe_int (fun _ _ => rfl)) (pe_ix (kIx rIxL K ix_list) (pv 2) (pe_ix (kIx rIxT K ix_tup) (pv 3) pe_int (fun _ _ => rfl)) (fun _ _ => rfl)) (nomark _)))) (fun _ _ _ _ _ => (pv 3))))))), ?_⟩
    refine ⟨_, rfl, _, rfl, top, x, b, rfl, hx, fun hb H1 e1 => ?_, fun hb H1 e1 => k1 hb H1 e1⟩
    obtain ⟨p, m, rfl, hp, kk⟩ := k2 hb
    refine ⟨_, rfl, _, rfl, p, m, top, rfl, sqT_same e1 hp, by omega, fun l H2 n1 e2 h2 => ?_⟩
    have e12 := e1.trans e2
    refine ⟨_, rfl, top, rfl, ht, fun q H3 xs n3 e3 h3 hty => ?_⟩
    have e13 := e12.trans e3
    have hl : H3 l = some (.lst (vns (VM.heights top m))) := e3 _ _ h2
    refine ⟨q, rfl, ⟨_, SqL.of h3⟩, fun r hD => lc_list (K := K) (a := q) (xs := xs) (fun j H4 => Same H3 H4 ∧ ∃ ys, H4 r = some (.lst ys) ∧ Tups K H4 ys (((VM.switches top).take j).filter fun s => decide (s.getD 0 0 ≤ (VM.heights top m).getD (s.getD 1 0) 0)))
      ⟨same_new hD, [], upd_same, .nil⟩ (fun j H4 _ h => SqL.of (h.1 _ _ h3)) ?_ ?_⟩
    · rintro j x H4 hx ⟨e4, ys, hy, hty2⟩
      obtain ⟨t, ns, rfl, hns, hs⟩ := hty.get hx
      obtain ⟨u, d, rfl, hdu, hut⟩ := VM.mem_switches.mp (List.mem_of_getElem? hns)
      have hf := filter_take (fun s => decide (s.getD 0 0 ≤ (VM.heights top m).getD (s.getD 1 0) 0)) hns
      have hs4 := sqT_same e4 hs
      have hh : (VM.heights top m)[d]? = some (VM.height m d) := VM.heights_get m (by omega)
      have hg : (VM.heights top m).getD d 0 = VM.height m d := by
        rw [List.getD_eq_getElem?_getD, hh]
        rfl
      refine ⟨rfl, _, rfl, ?_⟩
      apply v_ixT hs4 rfl
      refine ⟨_, rfl, _, rfl, ?_⟩
      apply v_ixT hs4 rfl
      apply v_ixL (v := vn (VM.height m d)) (SqL.of (e4 _ _ hl)) (at_of (j := d) rfl ?_)
      · refine ⟨_, _, rfl, rfl, _, rfl, ?_⟩
        refine v_ifd (fun hb => ?_) (fun hb => ?_)
        · refine ⟨_, rfl, ys, hy, ?_, same_mut hD e4, _, upd_same, ?_⟩
          · have h2 := hty2.len
            have h3 := List.length_filter_le (fun s => decide (s.getD 0 0 ≤ (VM.heights top m).getD (s.getD 1 0) 0)) ((VM.switches top).take j)
            have h4 := sw_small ht
            rw [List.length_take] at h3
            refine small' ?_
            omega
          · have hb' : decide ([u, d].getD 0 0 ≤ (VM.heights top m).getD ([u, d].getD 1 0) 0) = true := by
              refine decide_eq_true ?_
              show u ≤ (VM.heights top m).getD d 0
              rw [hg]
              omega
            rw [hf, if_pos hb']
            exact Tups.append (hty2.but fun a ns h => sqT_but but_upd hy h) (Tups.one (sqT_but but_upd hy hs4))
        · refine ⟨e4, ys, hy, ?_⟩
          have hb' : ¬ decide ([u, d].getD 0 0 ≤ (VM.heights top m).getD ([u, d].getD 1 0) 0) = true := by
            intro z
            have z' := of_decide_eq_true z
            have z2 : u ≤ (VM.heights top m).getD d 0 := z'
            rw [hg] at z2
            omega
          rw [hf, if_neg hb', List.append_nil]
          exact hty2
      · simp [hh, vns]
    · rintro H4 ⟨e4, ys, hy, hty2⟩
      rw [hty.len, List.take_length] at hty2
      have n5 : H r = none := e13.free hD
      refine kk r H4 ys n5 (e13.trans e4) hy ?_
      · rw [← VM.on_heights]
        exact hty2
end

section
variable {P : Program} {w : World} {K : PySem.W.Frag} {mg : Str → Option Value} {base : Heap} {C D : Addr}
/-! ### parting_switch -/
def spPart (K : PySem.W.Frag) (D : Addr) : Sp := fun vs H Q E => ∃ (top : Nat) (x y : V) (b c : Option Nat), vs = [vn top, x, y] ∧ 1 ≤ top ∧ top ≤ 6 ∧ LevV K H top x b ∧ LevV K H top y c ∧
  (∀ i, b = some i → ∀ d H', Same H H' → H' d = some (.xd [("index", vn i)]) → E (.ref D) (some d) H') ∧
  (b = none → ∀ i, c = some i → ∀ d H', Same H H' → H' d = some (.xd [("index", vn i)]) → E (.ref D) (some d) H') ∧
  (b = none → c = none → ∃ p q ls ms, x = .ref p ∧ y = .ref q ∧ SqL K H p (vns ls) ∧ SqL K H q (vns ms) ∧ ls.length ≤ 1000 ∧ ms.length ≤ 1000 ∧ (∀ l ∈ ls, l ≤ top) ∧ (∀ l ∈ ms, l ≤ top) ∧
    (∀ H', Same H H' → (∀ u d, d < u → u ≤ top → VM.isOn u d ls = VM.isOn u d ms) → Q .non H') ∧
    (∀ H' s u d, Same H H' → SqT K H' s (vns [u, d]) → d < u → u ≤ top → VM.isOn u d ls ≠ VM.isOn u d ms → Q (.ref s) H'))
theorem fol_good {top : Nat} (h1 : 1 ≤ top) (h6 : top ≤ 6) {ls : List Nat} (hl : ∀ l ∈ ls, l ≤ top) {H : Hp} {r : Addr} (hr : SqT K H r (vns (VM.followed [] ls))) : MemV K H top (.ref r) true := by
  have hm := (VM.fol_mem h1 h6 hl).1
  have := ms_len h6 hm
  exact good_mem (VM.good_of h1 h6 hm) h6 hr (by omega)
theorem any_on {top : Nat} {ls : List Nat} {u d : Nat} (h1 : d < u) (h2 : u ≤ top) : ((VM.on top ls).map ptup).any (fun z => PyData.eqv z (ptup [u, d])) = VM.isOn u d ls := by
  rw [any_tups, VM.on_contains h1 h2, VM.isOn_height h1]
theorem ok_part {f : Addr} {fd : FuncData} (F : Fun K "parting_switch" "parting_switch" sparting_switch f fd) (T : Txt K mg C) (Dswitches_on : Def P w K mg base (L2.CX P w) 5 "switches_on" ["top", "memory"] (spOnP K C))
    (Dmemory_of : Def P w K mg base (L2.CX P w) 6 "memory_of" ["top", "history"] (spOf K D)) (Dswitches : Def P w K mg base CX0 1 "switches" ["top"] (spSwitches K)) :
    FnOk P w K mg base (L2.CX P w) 7 f fd ["top", "first", "second"] (spPart K D) := by
  have nd := scparting_switch.nd
  refine F.okX scparting_switch (fun vs H Q E h => ?_) (fun cdv A outer s H vs Q E hr h => ?_)
  · obtain ⟨top, x, y, b, c, rfl, _⟩ := h
    rfl
  · obtain ⟨top, x, y, b, c, rfl, ht1, ht, hx, hy, k1, k2, k3⟩ := h
    refine ⟨_, (pss_cons (ps_set (i := 3) nd rfl (Or.inl rfl) (pe_callD Dswitches_on (hr.mono (by decide)) rfl (passes_call (takes_of rfl rfl rfl rfl) (fun _ _ _ _ h => h)) (pa_cons (pv 0) (pa_cons (pe_callD Dmemory_of (hr.mono (by decide)) rfl (passes_call (takes_of rfl rfl rfl rfl) (fun _ _ _ _ h => h)) (pa_cons (pv 0) (pa_cons (pv 1) pa_nil))) pa_nil)))) (pss_cons (ps_set (i := 4) nd rfl (Or.inl rfl) (pe_callD Dswitches_on (hr.mono (by decide)) rfl (passes_call (takes_of rfl rfl rfl rfl) (fun _ _ _ _ h => h)) (pa_cons (pv 0) (pa_cons (pe_callD Dmemory_of (hr.mono (by decide)) rfl (passes_call (takes_of rfl rfl rfl rfl) (fun _ _ _ _ h => h)) (pa_cons (pv 0) (pa_cons (pv 2) pa_nil))) pa_nil)))) (pss_cons (ps_for (passes_of rfl) rfl (pi_list (pe_callD Dswitches (hr.mono (by decide)) rfl pass0 (pa_cons (pv 0) pa_nil))) (pg_name (i := 5) nd rfl (Or.inl rfl)) (pss_one (ps_if (pt_cmpR (op_neD hr.units) (pe_cmpR (op_inD (u65 hr)) (pv 5) (pv 3) rfl) (pe_cmpR (op_inD (u65 hr)) (pv 5) (pv 4) rfl) (nomark _)) (pss_one (ps_ret (pv 5))) pss_nil))) (pss_one (ps_ret pe_non))))), ?_⟩
    have first : b = none → ∃ p ls, x = .ref p ∧ SqL K H p (vns ls) ∧ ls.length ≤ 1000 ∧ (∀ l ∈ ls, l ≤ top) ∧ (c = none → ∃ q ms, y = .ref q ∧ SqL K H q (vns ms) ∧ ms.length ≤ 1000 ∧ (∀ l ∈ ms, l ≤ top) ∧
        (∀ H', Same H H' → (∀ u d, d < u → u ≤ top → VM.isOn u d ls = VM.isOn u d ms) → Q .non H') ∧ (∀ H' s u d, Same H H' → SqT K H' s (vns [u, d]) → d < u → u ≤ top → VM.isOn u d ls ≠ VM.isOn u d ms → Q (.ref s) H')) := by
      intro hb
      by_cases hc : c = none
      · obtain ⟨p, q, ls, ms, ep, eq', hp, hq, hz1, hz2, hl, hm, kN, kS⟩ := k3 hb hc
        exact ⟨p, ls, ep, hp, hz1, hl, fun _ => ⟨q, ms, eq', hq, hz2, hm, kN, kS⟩⟩
      · obtain ⟨p, ls, ep, hp, hz, hls⟩ := levV_none hx hb
        exact ⟨p, ls, ep, hp, hz, hls, fun z => absurd z hc⟩
    refine ⟨_, rfl, _, rfl, _, rfl, top, x, b, rfl, hx, fun i hb d H1 e1 hd => k1 i hb d H1 e1 hd, fun hb => ?_⟩
    obtain ⟨p, ls, rfl, hp, hz, hls, rest⟩ := first hb
    refine ⟨p, ls, rfl, hp, hz, fun r1 H1 e1 hr1 => ?_⟩
    refine ⟨top, .ref r1, true, rfl, ht, fol_good ht1 ht hls hr1, fun z => Bool.noConfusion z, fun _ => ⟨r1, _, rfl, hr1, fun o1 H2 xs n2 e2 h2 hty => ?_⟩⟩
    have e12 := e1.trans e2
    refine ⟨_, rfl, _, rfl, _, rfl, top, y, c, rfl, hy.same e12, fun i hc d H3 e3 hd => k2 hb i hc d H3 (e12.trans e3) hd, fun hc => ?_⟩
    obtain ⟨q, ms, rfl, hq, hz2, hms, kN, kS⟩ := rest hc
    refine ⟨q, ms, rfl, e12.seq hq, hz2, fun r2 H3 e3 hr2 => ?_⟩
    refine ⟨top, .ref r2, true, rfl, ht, fol_good ht1 ht hms hr2, fun z => Bool.noConfusion z, fun _ => ⟨r2, _, rfl, hr2, fun o2 H4 ys n4 e4 h4 hty2 => ?_⟩⟩
    have e24 := e3.trans e4
    have e14 := e12.trans e24
    rw [VM.on_fol ht1 ht hls] at hty
    rw [VM.on_fol ht1 ht hms] at hty2
    refine ⟨_, rfl, top, rfl, ht, fun s5 H5 zs n5 e5 h5 hty3 => ?_⟩
    have g1 : H5 o1 = some (.lst xs) := e5 _ _ (e24 _ _ h2)
    have g2 : H5 o2 = some (.lst ys) := e5 _ _ h4
    refine ⟨s5, rfl, ⟨_, SqL.of h5⟩, for_list (K := K) (a := s5) (xs := zs) (fun i σ H' => (∃ v, σ = [some (vn top), some (.ref p), some (.ref q), some (.ref o1), some (.ref o2), v]) ∧ Same H5 H' ∧
        ∀ s ∈ (VM.switches top).take i, VM.isOn (s.getD 0 0) (s.getD 1 0) ls = VM.isOn (s.getD 0 0) (s.getD 1 0) ms) ⟨⟨_, rfl⟩, Same.refl _, by simp⟩ (fun i σ H' _ h' => SqL.of (h'.2.1 _ _ h5)) ?_ ?_⟩
    · rintro i x σ H' hx' ⟨⟨v, rfl⟩, e6, hl⟩
      obtain ⟨t, ns, rfl, hns, hs⟩ := hty3.get hx'
      obtain ⟨u, d, rfl, hdu, hut⟩ := VM.mem_switches.mp (List.mem_of_getElem? hns)
      have hs6 := sqT_same e6 hs
      have t1 := (hty.same (e24.trans e5)).same e6
      have t2 := (hty2.same e5).same e6
      refine ⟨_, rfl, _, rfl, _, _, dp_tup hs6, dp_list (SqL.of (e6 _ _ g1)) t1, shaped_tup _, shaped_list _, ?_⟩
      refine ⟨_, rfl, _, rfl, _, _, dp_tup hs6, dp_list (SqL.of (e6 _ _ g2)) t2, shaped_tup _, shaped_list _, ?_⟩
      rw [any_on hdu hut, any_on hdu hut]
      refine ⟨_, _, .bl _, .bl _, rfl, rfl, _, rfl, ?_⟩
      have ev : ∀ a b : Bool, PyData.eqv (.bool a) (.bool b) = decide (a = b) := by decide
      rw [ev]
      refine v_ifn (fun hne => ?_) (fun he => ?_)
      · exact ⟨_, rfl, kS H' t u d ((e14.trans e5).trans e6) hs6 hdu hut hne⟩
      · refine ⟨⟨_, rfl⟩, e6, fun s hs' => ?_⟩
        rw [VM.take_succ hns, List.mem_append] at hs'
        rcases hs' with h' | h'
        · exact hl s h'
        · rw [List.mem_singleton.mp h']
          exact he
    · rintro σ H' ⟨⟨v, rfl⟩, e6, hl⟩
      rw [hty3.len, List.take_length] at hl
      exact kN H' ((e14.trans e5).trans e6) fun u d h1 h2 => hl [u, d] (VM.mem_switches.mpr ⟨u, d, rfl, h1, h2⟩)
end

section
variable {P : Program} {w : World} {K : PySem.W.Frag} {mg : Str → Option Value} {base : Heap} {C D : Addr}
/-! ### the feed, told by what stays -/
def Fd (H : Hp) (f : Addr) : Prop := ∃ a b : Int, H f = some (.lst [.int a, .int b]) ∧ 0 ≤ a ∧ 0 ≤ b
structure Now (f : Addr) (H H' : Hp) : Prop where
  but : But f H H'
  fd : Fd H' f
theorem Now.trans {f : Addr} {H H1 H2 : Hp} (a : Now f H H1) (b : Now f H1 H2) : Now f H H2 := ⟨but_trans a.but b.but, b.fd⟩
theorem Fd.same {f : Addr} {H H' : Hp} (h : Fd H f) (e : Same H H') : Fd H' f := let ⟨a, b, q, x, y⟩ := h; ⟨a, b, e _ _ q, x, y⟩
theorem Now.same {f : Addr} {H H1 H2 : Hp} (a : Now f H H1) (e : Same H1 H2) : Now f H H2 := ⟨but_trans a.but (but_same e), a.fd.same e⟩
theorem Now.of {f : Addr} {H H1 : Hp} (h : Fd H f) (e : Same H H1) : Now f H H1 := ⟨but_same e, h.same e⟩
theorem Now.free {f : Addr} {H H1 : Hp} (h : Fd H f) (a : Now f H H1) {p : Addr} (hp : H1 p = none) : H p = none := by
  cases q : H p with
  | none => rfl
  | some o =>
    by_cases e : p = f
    · obtain ⟨x, y, z, _⟩ := a.fd
      rw [← e, hp] at z
      cases z
    · rw [a.but _ _ q e] at hp
      cases hp
theorem ne_fd {f p : Addr} {H : Hp} (h : Fd H f) (hp : H p = none) : p ≠ f := fun e => by
  obtain ⟨a, b, q, _⟩ := h
  rw [← e, hp] at q
  cases q
def spTakeN : Sp := fun vs H Q _ => ∃ (f : Addr) (n : Int), vs = [.ref f, .int n] ∧ Fd H f ∧ 0 < n ∧ n < 1000000 ∧ ∀ (r : Nat) (H' : Hp), (r : Int) < n → Now f H H' → Q (vn r) H'
theorem def_imp {CX : CXT} {k : Nat} {x : Str} {ps : List Str} {sp sp' : Sp} (D : Def P w K mg base CX k x ps sp) (h : ∀ vs H Q E, sp' vs H Q E → sp vs H Q E) : Def P w K mg base CX k x ps sp' := by
  obtain ⟨f, fd, h1, h2, h3, h4⟩ := D.ex
  exact ⟨f, fd, h1, h2, h3, h4.imp h⟩
theorem take_n (D : Def P w K mg base CX0 1 "_law_take" ["feed", "size"] spTake) : Def P w K mg base CX0 1 "_law_take" ["feed", "size"] spTakeN := def_imp D fun vs H Q E h => by
  obtain ⟨f, n, rfl, ⟨a, b, hf, ha, hb⟩, h0, h1, k⟩ := h
  refine ⟨f, a, b, n, rfl, hf, ha, hb, h0, h1, fun r a' b' r0 r1 ha' hb' => ?_⟩
  have q := k r.toNat (upd H f (.lst [.int a', .int b'])) (by omega) ⟨but_upd, a', b', upd_same, ha', hb'⟩
  unfold vn at q
  rw [Int.toNat_of_nonneg r0] at q
  exact q
def spPickN (K : PySem.W.Frag) : Sp := fun vs H Q _ => ∃ (f t : Addr) (xs : List V), vs = [.ref f, .ref t] ∧ Fd H f ∧ SqL K H t xs ∧ t ≠ f ∧ 0 < xs.length ∧ xs.length < 100000 ∧ ∀ (v : V) (H' : Hp), v ∈ xs → Now f H H' → Q v H'
theorem pick_n (D : Def P w K mg base CX0 2 "_law_pick" ["feed", "things"] (spPick K)) : Def P w K mg base CX0 2 "_law_pick" ["feed", "things"] (spPickN K) := def_imp D fun vs H Q E h => by
  obtain ⟨f, t, xs, rfl, ⟨a, b, hf, ha, hb⟩, ht, hne, h0, h1, k⟩ := h
  exact ⟨f, t, a, b, xs, rfl, hf, ha, hb, ht, hne, h0, h1, fun v a' b' hv ha' hb' => k v _ hv ⟨but_upd, a', b', upd_same, ha', hb'⟩⟩
/-! ### histories -/
/-- at p: a list of up to n levels -/
def Lv (H : Hp) (p : Addr) (top n : Nat) : Prop := ∃ ls, H p = some (.lst (vns ls)) ∧ ls.length ≤ n ∧ ∀ l ∈ ls, l ≤ top
theorem Lv.same {H H' : Hp} {p : Addr} {top n : Nat} (e : Same H H') (h : Lv H p top n) : Lv H' p top n := let ⟨ls, a, b, c⟩ := h; ⟨ls, e _ _ a, b, c⟩
theorem Lv.now {f : Addr} {H H' : Hp} {p : Addr} {top n : Nat} (e : Now f H H') (hp : p ≠ f) (h : Lv H p top n) : Lv H' p top n := let ⟨ls, a, b, c⟩ := h; ⟨ls, e.but _ _ a hp, b, c⟩
theorem Lv.mono {H : Hp} {p : Addr} {top n m : Nat} (h : Lv H p top n) (e : n ≤ m) : Lv H p top m := let ⟨ls, a, b, c⟩ := h; ⟨ls, a, Nat.le_trans b e, c⟩
theorem cut_vns (ls : List Nat) (lo hi : Option Int) : ∃ ms, cutV (vns ls) lo hi = vns ms ∧ ms.length ≤ ls.length ∧ ∀ x ∈ ms, x ∈ ls := by
  refine ⟨(ls.drop (HT.sIx ls.length 0 lo)).take (HT.sIx ls.length ls.length hi - HT.sIx ls.length 0 lo), ?_, ?_, fun x hx => List.mem_of_mem_drop (List.mem_of_mem_take hx)⟩
  · unfold cutV
    simp [List.map_take, List.map_drop, vns]
  · rw [List.length_take, List.length_drop]
    omega
theorem v_cut {H : Hp} {p : Addr} {top n : Nat} {lo hi : Option Int} {Q : VK} (h : Lv H p top n) (r : ∀ q H', H q = none → Same H H' → Lv H' q top n → Q (.ref q) H') : rSlL K (.ref p) lo hi H Q := by
  obtain ⟨ls, a, b, c⟩ := h
  obtain ⟨ms, e, g, i⟩ := cut_vns ls lo hi
  refine ⟨p, _, rfl, SqL.of a, fun q hq => r q _ hq (same_new hq) ⟨ms, ?_, Nat.le_trans g b, fun x hx => c x (i x hx)⟩⟩
  rw [upd_same, e]
theorem v_cutN {H : Hp} {p : Addr} {top n : Nat} {lo : Option Int} {σ : L2.St} {Q : VK} (h : Lv H p top n) (r : ∀ q H', H q = none → Same H H' → Lv H' q top n → Q (.ref q) H') : tNoPart σ H (fun u H3 => rSlL K (.ref p) lo u H3 Q) := v_cut h r
theorem v_catLv {H : Hp} {p q : Addr} {top n m : Nat} {Q : VK} (h1 : Lv H p top n) (h2 : Lv H q top m) (hz : n + m ≤ 100000) (r : ∀ t H', H t = none → Same H H' → Lv H' t top (n + m) → Q (.ref t) H') : rCat (.ref p) (.ref q) H Q := by
  obtain ⟨ls, a, b, c⟩ := h1
  obtain ⟨ms, a2, b2, c2⟩ := h2
  refine ⟨p, q, _, _, rfl, rfl, a, a2, small (by simp only [List.length_map]; omega), fun t ht => r t _ ht (same_new ht) ⟨ls ++ ms, ?_, ?_, fun x hx => ?_⟩⟩
  · rw [upd_same]
    simp [vns]
  · rw [List.length_append]
    omega
  · rw [List.mem_append] at hx
    exact hx.elim (c x) (c2 x)
theorem one_lv {H : Hp} {p : Addr} {top l : Nat} {v : V} (hp : H p = none) (hv : v = vn l) (hl : l ≤ top) : Lv (upd H p (.lst [v])) p top 1 := ⟨[l], by rw [upd_same, hv]; rfl, by simp, by simpa using hl⟩
def spHist : Sp := fun vs H Q _ => ∃ (f : Addr) (top most : Nat), vs = [.ref f, vn top, vn most] ∧ Fd H f ∧ top ≤ 6 ∧ most ≤ 30 ∧ ∀ p H', H p = none → Now f H H' → Lv H' p top most → Q (.ref p) H'
theorem ok_hist {f : Addr} {fd : FuncData} (F : Fun K "_law_history" "_law_history" s_law_history f fd) (T : Txt K mg C) (D_law_take : Def P w K mg base CX0 1 "_law_take" ["feed", "size"] spTakeN) :
    FnOk P w K mg base CX0 2 f fd ["feed", "top", "most"] spHist := by
  have nd := sc_law_history.nd
  refine F.ok sc_law_history (fun vs H Q E h => ?_) (fun cdv A outer s H vs Q E hr h => ?_)
  · obtain ⟨f, top, most, rfl, _⟩ := h
    rfl
  · obtain ⟨f, top, most, rfl, hf, ht, hm, k⟩ := h
    refine ⟨_, (pss_one (ps_ret (pe_lc (own := [("turn", 3)]) (by rfl) nd (pi_range1 (by rfl) T.range_ (pa_cons (pe_callD D_law_take (hr.mono (by decide)) rfl pass0 (pa_cons (pv 0) (pa_cons (pe_op op_add (pv 2) pe_int) pa_nil))) pa_nil)) (blkOk_by (own := [("turn", 3)]) (N := n_law_history) (sc := defScope s_law_history) (by decide +kernel)) (fun _ _ _ _ _ => (pg_name (i := 3) nd rfl (Or.inl rfl))) (fun _ _ _ _ _ => pts_nil) (fun _ _ _ _ _ => (pe_callD D_law_take (hr.mono (by decide)) rfl pass0 (pa_cons (pv 0) (pa_cons (pe_op op_add (pv 1) pe_int) pa_nil))))))), ?_⟩
    refine ⟨_, rfl, _, rfl, _, _, rfl, rfl, f, _, rfl, hf, by omega, by omega, fun r H1 hr1 n1 => ?_⟩
    refine ⟨_, rfl, by omega, by omega, fun D hD => lc_range (lo := 0) (n := ((r : Nat) : Int).toNat) (fun i H' => Now f H1 H' ∧ Lv H' D top i) ?_ ?_ ?_⟩
    · exact ⟨Now.of n1.fd (same_new hD), [], upd_same, by simp, by simp⟩
    · rintro i H' hi ⟨n2, ls, h1, h2, h3⟩
      have hi' : i < r := by simpa using hi
      refine ⟨rfl, _, rfl, _, rfl, _, _, rfl, rfl, f, _, rfl, n2.fd, by omega, by omega, fun l H2 hl n3 => ?_⟩
      have nD : D ≠ f := ne_fd n1.fd hD
      refine ⟨_, n3.but _ _ h1 nD, ?_, ?_, ls ++ [l], ?_, ?_, ?_⟩
      · refine small' ?_
        simp only [List.length_map]
        omega
      · have n4 := n2.trans n3
        obtain ⟨a, b, q, x, y⟩ := n4.fd
        refine ⟨fun u o hu hne => ?_, a, b, upd_old (Ne.symm nD) q, x, y⟩
        exact upd_old (ne_of_none hu hD) (n4.but u o hu hne)
      · rw [upd_same]
        simp [vns]
      · simp
        omega
      · intro x hx
        rcases List.mem_append.mp hx with hx | hx
        · exact h3 x hx
        · rw [List.mem_singleton.mp hx]
          omega
    · rintro H' ⟨n2, lv⟩
      refine k D H' (n1.free hf hD) (n1.trans n2) (lv.mono ?_)
      simp
      omega
def spChanged : Sp := fun vs H Q _ => ∃ (f h : Addr) (top n : Nat), vs = [.ref f, vn top, .ref h] ∧ Fd H f ∧ Lv H h top n ∧ h ≠ f ∧ top ≤ 6 ∧ n ≤ 100 ∧ ∀ p H', p ≠ f → Now f H H' → Lv H' p top (3 * n + 10) → Q (.ref p) H'
theorem ok_changed {f : Addr} {fd : FuncData} (F : Fun K "_law_changed" "_law_changed" s_law_changed f fd) (T : Txt K mg C) (D_law_take : Def P w K mg base CX0 1 "_law_take" ["feed", "size"] spTakeN)
    (D_law_pick : Def P w K mg base CX0 2 "_law_pick" ["feed", "things"] (spPickN K)) (D_law_history : Def P w K mg base CX0 2 "_law_history" ["feed", "top", "most"] spHist) :
    FnOk P w K mg base CX0 3 f fd ["feed", "top", "history"] spChanged := by
  have nd := sc_law_changed.nd
  refine F.ok sc_law_changed (fun vs H Q E h => ?_) (fun cdv A outer s H vs Q E hr h => ?_)
  · obtain ⟨f, h, top, n, rfl, _⟩ := h
    rfl
  · obtain ⟨f, h, top, n, rfl, hf, hh, hne, ht, hn, k⟩ := h
    refine ⟨_, (pss_cons (ps_par (i := 3) (j := 4) (by rfl) nd rfl rfl (by decide) rfl rfl (pa_cons (pe_callD D_law_take (hr.mono (by decide)) rfl pass0 (pa_cons (pv 0) (pa_cons (pe_op op_add (pe_callB call_len_seq (by rfl) T.len_ PySem.boot_len (pa_cons (pv 2) pa_nil)) pe_int) pa_nil))) (pa_cons (pe_callD D_law_take (hr.mono (by decide)) rfl pass0 (pa_cons (pv 0) (pa_cons pe_int pa_nil))) pa_nil)) (by rfl)) (pss_cons (ps_par (i := 5) (j := 6) (by rfl) nd rfl rfl (by decide) rfl rfl (pa_cons (pe_slice sl_list (pv 2) po_none (po_some (pv 3))) (pa_cons (pe_callD D_law_take (hr.mono (by decide)) rfl pass0 (pa_cons (pv 0) (pa_cons (pe_op op_add (pv 1) pe_int) pa_nil))) pa_nil)) (by rfl)) (pss_cons (ps_if (pt_cmpR op_eq (pv 4) pe_int (nomark _)) (pss_one (ps_ret (pv 2))) pss_nil) (pss_cons (ps_if (pt_cmpR op_eq (pv 4) pe_int (nomark _)) (pss_one (ps_ret (pe_op op_cat (pe_op op_cat (pv 5) (pe_slice sl_list (pv 5) (po_some (pe_un un_neg pe_int)) po_none)) (pe_slice sl_list (pv 2) (po_some (pv 3)) po_none)))) pss_nil) (pss_cons (ps_if (pt_cmpR op_eq (pv 4) pe_int (nomark _)) (pss_one (ps_ret (pe_op op_cat (pe_op op_cat (pe_op op_cat (pv 5) (pe_lst (pa_cons (pv 6) pa_nil))) (pe_slice sl_list (pv 5) (po_some (pe_un un_neg pe_int)) po_none)) (pe_slice sl_list (pv 2) (po_some (pv 3)) po_none)))) pss_nil) (pss_cons (ps_if (pt_cmpR op_eq (pv 4) pe_int (nomark _)) (pss_one (ps_ret (pe_op op_cat (pe_op op_cat (pe_callD D_law_history (hr.mono (by decide)) rfl pass0 (pa_cons (pv 0) (pa_cons (pv 1) (pa_cons pe_int pa_nil)))) (pe_lst (pa_cons pe_int pa_nil))) (pv 2)))) pss_nil) (pss_cons (ps_if (pt_cmpR op_eq (pv 4) pe_int (nomark _)) (pss_one (ps_ret (pe_op op_cat (pe_op op_cat (pv 5) (pe_lst (pa_cons (pe_callD D_law_pick (hr.mono (by decide)) rfl pass0 (pa_cons (pv 0) (pa_cons (pe_lst (pa_cons (pv 1) (pa_cons (pv 1) (pa_cons pe_int pa_nil)))) pa_nil))) pa_nil))) (pe_slice sl_list (pv 2) (po_some (pv 3)) po_none)))) pss_nil) (pss_one (ps_ret (pe_ifExp (pt_cmpR op_eq (pv 4) pe_int (nomark _)) (pe_op op_cat (pv 5) (pe_slice sl_list (pv 2) (po_some (pe_op op_add (pv 3) pe_int)) po_none)) (pe_op op_cat (pe_op op_cat (pv 5) (pe_lst (pa_cons (pv 6) pa_nil))) (pe_slice sl_list (pv 2) (po_some (pv 3)) po_none)))))))))))), ?_⟩
    obtain ⟨ls, hls, hz, hl⟩ := id hh
    refine ⟨_, rfl, _, rfl, ?_⟩
    apply v_lenL (SqL.of hls)
    refine ⟨_, _, rfl, rfl, f, _, rfl, hf, by simp only [List.length_map]; omega, by simp only [List.length_map]; omega, fun r H1 hr1 n1 => ?_⟩
    refine ⟨_, rfl, f, 7, rfl, n1.fd, by omega, by omega, fun wy H2 hw n2 => ⟨_, _, rfl, ?_⟩⟩
    have n02 := n1.trans n2
    refine ⟨_, rfl, _, rfl, _, rfl, ?_⟩
    refine v_cut (hh.now n02 hne) fun ah H3 h3 e3 l3 => ?_
    have ah3 : ah ≠ f := ne_fd n02.fd h3
    have n03 := n02.same e3
    refine ⟨_, rfl, _, rfl, _, _, rfl, rfl, f, _, rfl, n03.fd, by omega, by omega, fun lv H4 hlv n4 => ⟨_, _, rfl, ?_⟩⟩
    have n04 := n03.trans n4
    have l4 := l3.now n4 ah3
    have hh4 := hh.now n04 hne
    have lvt : lv ≤ top := by omega
    -- way == 0
    refine ⟨_, rfl, rfl, _, rfl, ?_⟩
    refine v_ifd (fun hc => ?_) (fun hc => ?_)
    · exact ⟨_, rfl, k h H4 hne n04 (hh4.mono (by omega))⟩
    -- way == 1
    refine ⟨_, rfl, rfl, _, rfl, ?_⟩
    refine v_ifd (fun hc => ?_) (fun hc => ?_)
    · refine ⟨_, rfl, _, rfl, _, rfl, _, rfl, ?_⟩
      show tNoPart _ _ _
      refine v_cutN l4 fun q5 H5 f5 e5 l5 => ?_
      refine v_catLv (l4.same e5) l5 (by omega) fun q6 H6 f6 e6 l6 => ?_
      refine ⟨_, rfl, _, rfl, _, rfl, ?_⟩
      show tNoPart _ _ _
      refine v_cutN (hh4.same (e5.trans e6)) fun q7 H7 f7 e7 l7 => ?_
      refine v_catLv (l6.same e7) l7 (by omega) fun q8 H8 f8 e8 l8 => ?_
      have n07 := n04.same (e5.trans (e6.trans e7))
      exact k q8 H8 (ne_fd n07.fd f8) (n07.same e8) (l8.mono (by omega))
    -- way == 2
    refine ⟨_, rfl, rfl, _, rfl, ?_⟩
    refine v_ifd (fun hc => ?_) (fun hc => ?_)
    · refine ⟨_, rfl, _, rfl, (by show 1 ≤ sizeLine; decide), fun q5 f5 => ?_⟩
      refine v_catLv (l4.same (same_new f5)) (one_lv f5 rfl lvt) (by omega) fun q6 H6 f6 e6 l6 => ?_
      have n06 := n04.same ((same_new f5).trans e6)
      refine ⟨_, rfl, _, rfl, _, rfl, ?_⟩
      show tNoPart _ _ _
      refine v_cutN (l4.same ((same_new f5).trans e6)) fun q7 H7 f7 e7 l7 => ?_
      refine v_catLv (l6.same e7) l7 (by omega) fun q8 H8 f8 e8 l8 => ?_
      refine ⟨_, rfl, _, rfl, _, rfl, ?_⟩
      show tNoPart _ _ _
      refine v_cutN (hh4.same ((same_new f5).trans (e6.trans (e7.trans e8)))) fun q9 H9 f9 e9 l9 => ?_
      refine v_catLv (l8.same e9) l9 (by omega) fun q10 H10 f10 e10 l10 => ?_
      have n09 := n06.same (e7.trans (e8.trans e9))
      exact k q10 H10 (ne_fd n09.fd f10) (n09.same e10) (l10.mono (by omega))
    -- way == 3
    refine ⟨_, rfl, rfl, _, rfl, ?_⟩
    refine v_ifd (fun hc => ?_) (fun hc => ?_)
    · refine ⟨_, rfl, _, rfl, f, top, 5, rfl, n04.fd, ht, by omega, fun p5 H5 f5 n5 l5 => ?_⟩
      have n05 := n04.trans n5
      refine ⟨(by show 1 ≤ sizeLine; decide), fun q6 f6 => ?_⟩
      refine v_catLv (l5.same (same_new f6)) (one_lv (l := 0) f6 rfl (by omega)) (by omega) fun q7 H7 f7 e7 l7 => ?_
      refine ⟨_, rfl, ?_⟩
      have n07 := n05.same ((same_new f6).trans e7)
      refine v_catLv l7 (hh.now n07 hne) (by omega) fun q8 H8 f8 e8 l8 => ?_
      exact k q8 H8 (ne_fd n07.fd f8) (n07.same e8) (l8.mono (by omega))
    -- way == 4
    refine ⟨_, rfl, rfl, _, rfl, ?_⟩
    refine v_ifd (fun hc => ?_) (fun hc => ?_)
    · refine ⟨_, rfl, _, rfl, _, rfl, _, rfl, (by show 3 ≤ sizeLine; decide), fun q5 f5 => ?_⟩
      refine ⟨f, q5, _, rfl, n04.fd.same (same_new f5), SqL.of upd_same, ne_fd n04.fd f5, by simp, by simp, fun v H6 hv n6 => ?_⟩
      obtain ⟨l, hvl, hl6⟩ : ∃ l, v = vn l ∧ l ≤ top := by
        simp only [List.mem_cons, List.not_mem_nil, or_false] at hv
        rcases hv with rfl | rfl | rfl
        · exact ⟨top, rfl, Nat.le_refl _⟩
        · exact ⟨top, rfl, Nat.le_refl _⟩
        · exact ⟨0, rfl, Nat.zero_le _⟩
      have n06 := (n04.same (same_new f5)).trans n6
      refine ⟨(by show 1 ≤ sizeLine; decide), fun q7 f7 => ?_⟩
      have l6 := (l4.same (same_new f5)).now n6 ah3
      refine v_catLv (l6.same (same_new f7)) (one_lv f7 hvl hl6) (by omega) fun q8 H8 f8 e8 l8 => ?_
      have n08 := n06.same ((same_new f7).trans e8)
      refine ⟨_, rfl, _, rfl, _, rfl, ?_⟩
      show tNoPart _ _ _
      refine v_cutN (hh.now n08 hne) fun q9 H9 f9 e9 l9 => ?_
      refine v_catLv (l8.same e9) l9 (by omega) fun q10 H10 f10 e10 l10 => ?_
      have n09 := n08.same e9
      exact k q10 H10 (ne_fd n09.fd f10) (n09.same e10) (l10.mono (by omega))
    -- the rest
    refine ⟨_, rfl, rfl, _, rfl, ?_⟩
    refine v_ifd (fun hc => ?_) (fun hc => ?_)
    · refine ⟨_, rfl, _, rfl, _, rfl, _, _, rfl, rfl, _, rfl, ?_⟩
      show tNoPart _ _ _
      refine v_cutN hh4 fun q5 H5 f5 e5 l5 => ?_
      refine v_catLv (l4.same e5) l5 (by omega) fun q6 H6 f6 e6 l6 => ?_
      have n05 := n04.same e5
      exact k q6 H6 (ne_fd n05.fd f6) (n05.same e6) (l6.mono (by omega))
    · refine ⟨_, rfl, _, rfl, (by show 1 ≤ sizeLine; decide), fun q5 f5 => ?_⟩
      refine v_catLv (l4.same (same_new f5)) (one_lv f5 rfl lvt) (by omega) fun q6 H6 f6 e6 l6 => ?_
      have n06 := n04.same ((same_new f5).trans e6)
      refine ⟨_, rfl, _, rfl, _, rfl, ?_⟩
      show tNoPart _ _ _
      refine v_cutN (hh4.same ((same_new f5).trans e6)) fun q7 H7 f7 e7 l7 => ?_
      refine v_catLv (l6.same e7) l7 (by omega) fun q8 H8 f8 e8 l8 => ?_
      have n07 := n06.same e7
      exact k q8 H8 (ne_fd n07.fd f8) (n07.same e8) (l8.mono (by omega))
/-! ### the switches that part two histories; what is asked -/
def isParted (ls ms : List Nat) (s : List Nat) : Bool := VM.isOn (s.getD 0 0) (s.getD 1 0) ls != VM.isOn (s.getD 0 0) (s.getD 1 0) ms
def spParted : Sp := fun vs H Q _ => ∃ (a b : Addr) (top : Nat) (ls ms : List Nat), vs = [vn top, .ref a, .ref b] ∧ top ≤ 6 ∧ H a = some (.lst (vns ls)) ∧ H b = some (.lst (vns ms)) ∧
  ∀ p H' xs, H p = none → Same H H' → H' p = some (.lst xs) → Tups K H' xs ((VM.switches top).filter (isParted ls ms)) → Q (.ref p) H'
theorem ok_parted {f : Addr} {fd : FuncData} (F : Fun K "_law_parted" "_law_parted" s_law_parted f fd) (T : Txt K mg C) (D_law_switches : Def P w K mg base CX0 1 "_law_switches" ["top"] (spSwitches K))
    (D_law_is_on : Def P w K mg base CX0 1 "_law_is_on" ["switch", "levels"] (spIsOn K)) : FnOk P w K mg base CX0 2 f fd ["top", "first", "second"] (spParted (K := K)) := by
  have nd := sc_law_parted.nd
  refine F.ok sc_law_parted (fun vs H Q E h => ?_) (fun cdv A outer s H vs Q E hr h => ?_)
  · obtain ⟨a, b, top, ls, ms, rfl, _⟩ := h
    rfl
  · obtain ⟨a, b, top, ls, ms, rfl, ht, ha, hb, k⟩ := h
    refine ⟨_, (pss_one (ps_ret (pe_lc (own := [("one", 3)]) (by rfl) nd (pi_list (pe_callD D_law_switches (hr.mono (by decide)) rfl pass0 (pa_cons (pv 0) pa_nil))) (blkOk_by (own := [("one", 3)]) (N := n_law_parted) (sc := defScope s_law_parted) (by decide +kernel)) (fun _ _ _ _ _ => (pg_name (i := 3) nd rfl (Or.inl rfl))) (fun _ _ _ _ _ => (pts_one (pt_cmpR (kOp rNeD K (op_neD hr.units)) (pe_callD D_law_is_on (hr.mono (by decide)) rfl pass0 (pa_cons (pv 3) (pa_cons (pv 1) pa_nil))) (pe_callD D_law_is_on (hr.mono (by decide)) rfl pass0 (pa_cons (pv 3) (pa_cons (pv 2) pa_nil))) (nomark _)))) (fun _ _ _ _ _ => (pv 3))))), ?_⟩
    refine ⟨_, rfl, top, rfl, ht, fun p H1 xs hp e1 h1 hty => ?_⟩
    refine ⟨p, rfl, ⟨_, SqL.of h1⟩, fun D hD => lc_list (K := K) (a := p) (xs := xs) (fun j H2 => Same H1 H2 ∧ ∃ ys, H2 D = some (.lst ys) ∧ Tups K H2 ys (((VM.switches top).take j).filter (isParted ls ms)))
      ⟨same_new hD, [], upd_same, .nil⟩ (fun j H2 _ h => SqL.of (h.1 _ _ h1)) ?_ ?_⟩
    · rintro j x H2 hx ⟨e2, ys, hy, hty2⟩
      obtain ⟨t, ns, rfl, hns, hs⟩ := hty.get hx
      obtain ⟨u, d, rfl, _, _⟩ := VM.mem_switches.mp (List.mem_of_getElem? hns)
      have hf := filter_take (isParted ls ms) hns
      have e12 := e1.trans e2
      have hs2 := sqT_same e2 hs
      refine ⟨rfl, _, rfl, _, rfl, t, a, u, d, ls, rfl, hs2, .inl (SqL.of (e12 _ _ ha)), ?_⟩
      refine ⟨_, rfl, _, rfl, t, b, u, d, ms, rfl, hs2, .inl (SqL.of (e12 _ _ hb)), ?_⟩
      refine ⟨_, _, .bl _, .bl _, rfl, rfl, _, rfl, ?_⟩
      have ev : ∀ a b : Bool, PyData.eqv (.bool a) (.bool b) = decide (a = b) := by decide
      rw [ev]
      have ep : isParted ls ms [u, d] = (VM.isOn u d ls != VM.isOn u d ms) := rfl
      refine v_ifn (fun hb' => ?_) (fun hb' => ?_)
      · refine ⟨_, rfl, ys, hy, ?_, same_mut hD e2, _, upd_same, ?_⟩
        · have h2 := hty2.len
          have h3 := List.length_filter_le (isParted ls ms) ((VM.switches top).take j)
          have h4 := sw_small ht
          rw [List.length_take] at h3
          refine small' ?_
          omega
        · rw [hf, if_pos (by rw [ep]; simpa using hb')]
          exact Tups.append (hty2.but fun a ns h => sqT_but but_upd hy h) (Tups.one (sqT_but but_upd hy hs2))
      · refine ⟨e2, ys, hy, ?_⟩
        rw [hf, if_neg (by rw [ep, hb']; simp), List.append_nil]
        exact hty2
    · rintro H2 ⟨e2, ys, hy, hty2⟩
      rw [hty.len, List.take_length] at hty2
      have n1 : H D = none := e1.free hD
      exact k D H2 ys n1 (e1.trans e2) hy hty2
end

section
variable {P : Program} {w : World} {K : PySem.W.Frag} {mg : Str → Option Value} {base : Heap} {C D : Addr}
def spAsked (K : PySem.W.Frag) : Sp := fun vs H Q _ => ∃ (top : Nat) (x y : V) (b c : Option Nat), vs = [vn top, x, y] ∧ 1 ≤ top ∧ top ≤ 6 ∧ LevV K H top x b ∧ LevV K H top y c ∧
  (∀ i, (b = some i ∨ (b = none ∧ c = some i)) → ∀ p H', H p = none → Same H H' → H' p = some (.lst [.str "levels", vn i]) → Q (.ref p) H') ∧
  (b = none → c = none → ∃ p q ls ms, x = .ref p ∧ y = .ref q ∧ SqL K H p (vns ls) ∧ SqL K H q (vns ms) ∧ ls.length ≤ 1000 ∧ ms.length ≤ 1000 ∧ (∀ l ∈ ls, l ≤ top) ∧ (∀ l ∈ ms, l ≤ top) ∧
    (∀ H', Same H H' → (∀ u d, d < u → u ≤ top → VM.isOn u d ls = VM.isOn u d ms) → Q .non H') ∧
    (∀ H' s u d, Same H H' → SqT K H' s (vns [u, d]) → d < u → u ≤ top → VM.isOn u d ls ≠ VM.isOn u d ms → Q (.ref s) H'))
theorem ok_asked {f : Addr} {fd : FuncData} (F : Fun K "_law_asked" "_law_asked" s_law_asked f fd) (T : Txt K mg C) (L : TxtL K mg D) (Dparting_switch : Def P w K mg base (L2.CX P w) 7 "parting_switch" ["top", "first", "second"] (spPart K D)) :
    FnOk P w K mg base CX0 8 f fd ["top", "first", "second"] (spAsked K) := by
  have nd := sc_law_asked.nd
  refine F.ok sc_law_asked (fun vs H Q E h => ?_) (fun cdv A outer s H vs Q E hr h => ?_)
  · obtain ⟨top, x, y, b, c, rfl, _⟩ := h
    rfl
  · obtain ⟨top, x, y, b, c, rfl, ht1, ht, hx, hy, k1, k2⟩ := h
    refine ⟨_, (pss_cons (ps_set (i := 3) nd rfl (Or.inl rfl) pe_non) (pss_cons (ps_try_as (i := 4) rfl rfl nd rfl rfl (L.BadLevels_names) takes0 (fun W pn xe tk _ => (pss_one (ps_set (i := 3) nd rfl (Or.inl rfl) (pe_callDS Dparting_switch (hr.mono (by decide)) rfl (fun σ => passAt tk σ) (pa_cons (pv 0) (pa_cons (pv 1) (pa_cons (pv 2) pa_nil))))))) (fun a oe cls d pn hz hf => (pss_one (ps_set (i := 3) nd rfl (Or.inl rfl) (pe_lst (pa_cons pe_str (pa_cons (pe_xf L.xBadLevels L.noBadLevels hz hf (pv 4)) pa_nil))))))) (pss_one (ps_ret (pv 3))))), ?_⟩
    have told : ∀ i, (b = some i ∨ (b = none ∧ c = some i)) → ∀ (d : Addr) (H' : Hp), Same H H' → H' d = some (.xd [("index", vn i)]) → ∀ p, H' p = none → Q (.ref p) (upd H' p (.lst [.str "levels", vn i])) :=
      fun i hi d H' e hd p hp => k1 i hi p _ (e.free hp) (e.trans (same_new hp)) upd_same
    refine ⟨_, rfl, _, rfl, _, rfl, top, x, y, b, c, rfl, ht1, ht, hx, hy, fun i hb d H' e hd => ?_, fun hb i hc d H' e hd => ?_, fun hb hc => ?_⟩
    · refine ⟨true, L.eL, fun _ a0 _ => ?_, fun q => Bool.noConfusion q⟩
      refine ⟨_, rfl, rfl, rfl, d, _, _, rfl, hd, rfl, (by show 2 ≤ sizeLine; decide), fun p hp => ?_⟩
      exact ⟨_, rfl, told i (.inl hb) d H' e hd p hp⟩
    · refine ⟨true, L.eL, fun _ a0 _ => ?_, fun q => Bool.noConfusion q⟩
      refine ⟨_, rfl, rfl, rfl, d, _, _, rfl, hd, rfl, (by show 2 ≤ sizeLine; decide), fun p hp => ?_⟩
      exact ⟨_, rfl, told i (.inr ⟨hb, hc⟩) d H' e hd p hp⟩
    · obtain ⟨p, q, ls, ms, ex, ey, hp, hq, hz1, hz2, hl, hm, kN, kS⟩ := k2 hb hc
      exact ⟨p, q, ls, ms, ex, ey, hp, hq, hz1, hz2, hl, hm, fun H' e h => ⟨_, rfl, kN H' e h⟩, fun H' s u d e hs h1 h2 hn => ⟨_, rfl, kS H' s u d e hs h1 h2 hn⟩⟩
end

section
variable {P : Program} {w : World} {K : PySem.W.Frag} {mg : Str → Option Value} {base : Heap} {C D : Addr}
theorem tyX_now {H H' : Hp} {f : Addr} (hf : Fd H f) (n : Now f H H') {x : V} {t : Value} (h : TyX K H x t) : TyX K H' x t := by
  obtain ⟨a0, b0, hf, _, _⟩ := hf
  obtain ⟨a1, b1, hf1, _, _⟩ := n.fd
  have at_ : ∀ {a : Addr} {o : HO}, H a = some o → (∀ z, o ≠ .lst z) → H' a = some o := fun {a o} ha hn => n.but a o ha fun e => by
    rw [e, hf] at ha
    exact hn _ (Option.some.inj ha).symm
  cases h with
  | base b =>
    refine .base ?_
    cases b with
    | non => exact .non
    | bl => exact .bl _
    | int => exact .int _
    | str => exact .str _
    | flt => exact .flt _
    | @lst a xs h =>
      by_cases e : a = f
      · rw [e]
        exact .lst hf1
      · exact .lst (n.but _ _ h e)
    | frz h => exact .frz (at_ h (by intro z e; cases e))
    | tup h => exact .tup (at_ h (by intro z e; cases e))
    | dK h => exact .dK (at_ h (by intro z e; cases e))
    | dT h => exact .dT (at_ h (by intro z e; cases e))
    | ins h a b c d g => exact .ins (at_ h (by intro z e; cases e)) a b c d g
  | byt => exact .byt _
  | set h => exact .set (at_ h (by intro z e; cases e))
  | kList h c => exact .kList h c
  | kTuple h c => exact .kTuple h c
  | kDict h c => exact .kDict h c
  | fTuple h => exact .fTuple (at_ h (by intro z e; cases e))
  | fDict h => exact .fDict (at_ h (by intro z e; cases e))
theorem OkT.now {H H' : Hp} {f : Addr} (hf : Fd H f) (n : Now f H H') {x : V} {k : String} (h : OkT K H x k) : OkT K H' x k := ⟨tyX_now hf n h.ty, h.kd⟩
theorem sqT_now {H H' : Hp} {f a : Addr} {xs : List V} (hf : Fd H f) (n : Now f H H') (h : SqT K H a xs) : SqT K H' a xs := by
  obtain ⟨a0, b0, hf, _, _⟩ := hf
  exact sqT_but n.but hf h
theorem tups_now {H H' : Hp} {f : Addr} (hf : Fd H f) (n : Now f H H') {xs : List V} {nss : List (List Nat)} (h : Tups K H xs nss) : Tups K H' xs nss := h.but fun _ _ q => sqT_now hf n q
/-- the answer of a question after what parts two histories -/
def Answer (K : PySem.W.Frag) (H : Hp) (top : Nat) (ls ms : List Nat) (v : V) : Prop :=
  (v = .non ∧ ∀ u d, d < u → u ≤ top → VM.isOn u d ls = VM.isOn u d ms) ∨ ∃ s u d, v = .ref s ∧ SqT K H s (vns [u, d]) ∧ d < u ∧ u ≤ top ∧ VM.isOn u d ls ≠ VM.isOn u d ms
def spAskedN (K : PySem.W.Frag) : Sp := fun vs H Q _ => ∃ (top : Nat) (x y : V) (b c : Option Nat), vs = [vn top, x, y] ∧ 1 ≤ top ∧ top ≤ 6 ∧ LevV K H top x b ∧ LevV K H top y c ∧
  (∀ i, (b = some i ∨ (b = none ∧ c = some i)) → ∀ p H', H p = none → Same H H' → H' p = some (.lst [.str "levels", vn i]) → Q (.ref p) H') ∧
  (b = none → c = none → ∃ p q ls ms, x = .ref p ∧ y = .ref q ∧ SqL K H p (vns ls) ∧ SqL K H q (vns ms) ∧ ls.length ≤ 1000 ∧ ms.length ≤ 1000 ∧ (∀ l ∈ ls, l ≤ top) ∧ (∀ l ∈ ms, l ≤ top) ∧
    ∀ H' v, Same H H' → Answer K H' top ls ms v → Q v H')
theorem asked_n (A : Def P w K mg base CX0 8 "_law_asked" ["top", "first", "second"] (spAsked K)) : Def P w K mg base CX0 8 "_law_asked" ["top", "first", "second"] (spAskedN K) := def_imp A fun vs H Q E h => by
  obtain ⟨top, x, y, b, c, rfl, h1, h6, hx, hy, k1, k2⟩ := h
  refine ⟨top, x, y, b, c, rfl, h1, h6, hx, hy, k1, fun hb hc => ?_⟩
  obtain ⟨p, q, ls, ms, ex, ey, hp, hq, z1, z2, hl, hm, kk⟩ := k2 hb hc
  exact ⟨p, q, ls, ms, ex, ey, hp, hq, z1, z2, hl, hm, fun H' e he => kk H' .non e (.inl ⟨rfl, he⟩), fun H' s u d e hs a b hn => kk H' (.ref s) e (.inr ⟨s, u, d, rfl, hs, a, b, hn⟩)⟩
/-- levels as a value that is handed in -/
theorem lev_good {H : Hp} {top : Nat} {a : Addr} {ls : List Nat} (h : H a = some (.lst (vns ls))) (hz : ls.length ≤ 1000) (hl : ∀ l ∈ ls, l ≤ top) : LevV K H top (.ref a) none := by
  have e : badIx top (vns ls) = none := by
    refine List.findIdx?_eq_none_iff.mpr fun x hx => ?_
    have := List.all_eq_true.mp (lvl_vns hl) x hx
    rw [this]
    rfl
  rw [← e]
  refine .lst (SqL.of h) (ok_lst h) (fun x hx => ?_) (by simpa using hz)
  obtain ⟨n, _, rfl⟩ := List.mem_map.mp hx
  exact ⟨_, ok_int⟩
theorem lev_bad {H : Hp} {top : Nat} {a : Addr} {ls : List Nat} {v : V} {r : List V} (h : H a = some (.lst (vns ls ++ v :: r))) (hz : ls.length + 1 + r.length ≤ 1000) (hl : ∀ l ∈ ls, l ≤ top) (hv : lvl top v = false) (ok : ∀ x ∈ v :: r, ∃ n, OkT K H x n) :
    LevV K H top (.ref a) (some ls.length) := by
  have e : badIx top (vns ls ++ v :: r) = some ls.length := by
    refine List.findIdx?_eq_some_iff_getElem.mpr ⟨by simp, ?_, fun j hj => ?_⟩
    · simp [hv]
    · have hj' : j < ls.length := hj
      have := List.all_eq_true.mp (lvl_vns hl) ((vns ls)[j]'(by simpa using hj')) (List.getElem_mem _)
      rw [List.getElem_append_left (by simpa using hj'), this]
      decide
  rw [← e]
  refine .lst (SqL.of h) (ok_lst h) (fun x hx => ?_) ?_
  · rcases List.mem_append.mp hx with hx | hx
    · obtain ⟨n, _, rfl⟩ := List.mem_map.mp hx
      exact ⟨_, ok_int⟩
    · exact ok x hx
  · simp only [List.length_append, List.length_map, List.length_cons]
    omega
theorem cut_ahead (ls : List Nat) (i : Nat) : cutV (vns ls) none (some (i : Int)) = vns (ls.take i) := by
  unfold cutV
  rw [HT.sIx_nat]
  simp [HT.sIx, vns, List.map_take]
theorem eqv_told (i : Nat) : PyData.eqv (.list [.str "levels", pint i]) (.list [.str "levels", pint i]) = true := by
  have a : PyData.eqv (.str "levels") (.str "levels") = true := by decide +kernel
  have b : PyData.eqv (pint i) (pint i) = true := by
    have := eqv_ints [i] [i]
    simpa [PyData.eqvAll] using this
  show (PyData.eqv (.str "levels") (.str "levels") && (PyData.eqv (pint i) (pint i) && true)) = true
  rw [a, b]
  rfl
theorem any_non (nss : List (List Nat)) : ((nss.map ptup).any fun z => PyData.eqv z .none) = false := by
  induction nss with
  | nil => rfl
  | cons a r ih =>
    simp only [List.map_cons, List.any_cons, ih, Bool.or_false]
    rfl
end

section
variable {P : Program} {w : World} {K : PySem.W.Frag} {mg : Str → Option Value} {base : Heap} {C D : Addr}
def spLaw (K : PySem.W.Frag) : Sp := fun vs H Q _ => ∃ (a : Addr) (ns : List Int), vs = [.ref a] ∧ SqL K H a (ns.map V.int) ∧ ns.length ≤ 63 ∧ ∀ H', Q (.bl true) H'
theorem ms_count {top : Nat} : (VM.msOf top).length = 2 ^ top := by
  unfold VM.msOf
  rw [List.length_map, lots_len]
theorem ne_self (x : V) : (!decide (x = x)) = false := by simp
theorem shows_on {top : Nat} (h6 : top ≤ 6) {nss : List (List Nat)} (h : ∀ s ∈ nss, s ∈ VM.switches top) (hz : nss.length ≤ 100) : Shows (plist nss) := by
  refine shows_list (c := 2) (fun ns hns => ?_) (by omega)
  obtain ⟨u, d, rfl, h1, h2⟩ := VM.mem_switches.mp (h _ hns)
  refine ⟨by simp, fun x hx => ?_⟩
  simp only [List.mem_cons, List.not_mem_nil, or_false] at hx
  omega
theorem two_dp {H : Hp} {a p q : Addr} {as bs : List Nat} (h : SqL K H a [.ref p, .ref q]) (hp : H p = some (.lst (vns as))) (hq : H q = some (.lst (vns bs))) : Dp K H (.ref a) (.list [.list (as.map pint), .list (bs.map pint)]) :=
  .lst h (.cons (.lst (SqL.of hp) (dp_vns as)) (.cons (.lst (SqL.of hq) (dp_vns bs)) .nil))
theorem Answer.same {H H' : Hp} (e : Same H H') {top : Nat} {ls ms : List Nat} {v : V} (h : Answer K H top ls ms v) : Answer K H' top ls ms v := by
  rcases h with h | ⟨s, u, d, h1, h2, h3⟩
  · exact .inl h
  · exact .inr ⟨s, u, d, h1, sqT_same e h2, h3⟩
/-- of a kind, wherever -/
def OkE (K : PySem.W.Frag) (x : V) : Prop := ∀ H, ∃ n, OkT K H x n
theorem oke_int {i : Int} : OkE K (.int i) := fun _ => ⟨_, ok_int⟩
theorem oke_non : OkE K .non := fun _ => ⟨"NoneType", .base .non, by decide⟩
theorem oke_bl {b : Bool} : OkE K (.bl b) := fun _ => ⟨"bool", .base (.bl _), by decide⟩
theorem oke_str {t : Str} : OkE K (.str t) := fun _ => ⟨"str", .base (.str _), by decide⟩
theorem told_dp {H : Hp} {a : Addr} {i : Nat} (h : H a = some (.lst [.str "levels", vn i])) : Dp K H (.ref a) (.list [.str "levels", pint i]) := .lst (SqL.of h) (.cons (.str _) (.cons (.int _) .nil))
theorem told_shaped (i : Nat) : SeqAt.shaped (.list [.str "levels", pint i]) = true := by
  have a : PyData.canLay0 (.str "levels") = true := by decide +kernel
  show ((PyData.canLay0 (.str "levels") && (true && true)) && decide (_ ≤ 64)) = true
  rw [a]
  rfl
theorem go_next {D : Ends} {σ : L2.St} {H : Hp} (h : D.nx σ H) : tNext D σ H := h
theorem go_seq {D : Ends} {t u : TS} {σ : L2.St} {H : Hp} (h : t { D with nx := u D } σ H) : tSeq t u D σ H := h
theorem go_if {D : Ends} {c : TT} {t u : TS} {σ : L2.St} {H : Hp} (h : c σ H fun b H1 => if b = true then t D σ H1 else u D σ H1) : tIfS c t u D σ H := h
theorem str_ok {top : Nat} (h6 : top ≤ 6) {s : List Nat} (h : s ∈ VM.switches top) : PyData.canLay0 (.str (ptup s).shown) = true := by
  have all : ∀ s ∈ VM.switches 6, PyData.canLay0 (.str (ptup s).shown) = true := by decide +kernel
  obtain ⟨u, d, rfl, h1, h2⟩ := VM.mem_switches.mp h
  exact all _ (VM.mem_switches.mpr ⟨u, d, rfl, h1, by omega⟩)
theorem str_shaped {s : Str} (h : PyData.canLay0 (.str s) = true) : SeqAt.shaped (.str s) = true := by
  show (PyData.canLay0 (.str s) && decide (0 ≤ 64)) = true
  rw [h]
  rfl
theorem strs_shaped : ∀ {nss : List (List Nat)}, (∀ s ∈ nss, PyData.canLay0 (.str (ptup s).shown) = true) → SeqAt.shaped (.list (nss.map fun ns => PyData.str (ptup ns).shown)) = true := by
  intro nss h
  have a : ∀ nss : List (List Nat), (∀ s ∈ nss, PyData.canLay0 (.str (ptup s).shown) = true) → PyData.canLayAll0 (nss.map fun ns => PyData.str (ptup ns).shown) = true ∧ PyData.depthAll (nss.map fun ns => PyData.str (ptup ns).shown) = 0 := by
    intro nss
    induction nss with
    | nil => exact fun _ => ⟨rfl, rfl⟩
    | cons x r ih =>
      intro h
      obtain ⟨i1, i2⟩ := ih fun s hs => h s (by simp [hs])
      refine ⟨?_, ?_⟩
      · show (PyData.canLay0 (.str (ptup x).shown) && PyData.canLayAll0 (r.map fun ns => PyData.str (ptup ns).shown)) = true
        rw [h x (by simp), i1]
        rfl
      · show max 0 (PyData.depthAll (r.map fun ns => PyData.str (ptup ns).shown)) = 0
        rw [i2]
        rfl
  obtain ⟨a1, a2⟩ := a nss h
  show (PyData.canLayAll0 (nss.map fun ns => PyData.str (ptup ns).shown) && decide (PyData.depthAll (nss.map fun ns => PyData.str (ptup ns).shown) + 1 ≤ 64)) = true
  rw [a1, a2]
  rfl
theorem answered {H : Hp} {top : Nat} {ls ms : List Nat} {v : V} {pp : Addr} {pxs : List V} {a0 a1 a2 a3 a4 a5 a7 a8 a9 a11 a12 a13 a14 : Option V} {P : Bool → Hp → Prop} (ht6 : top ≤ 6) (hp : H pp = some (.lst pxs)) (ty : Tups K H pxs ((VM.switches top).filter (isParted ls ms))) (ans : Answer K H top ls ms v)
    (k : ∀ H', Same H H' → P false H') :
    tOr (tAnd (tTest (tOp (fun x y H Q => y = V.non ∧ Q (V.bl (decide (x = V.non))) H) (tVar 6) (tC V.non))) (tTest (tOp (rNeD K) (tVar 10) (tLst tNil))))
      (tAnd (tTest (tOp (fun x y H Q => y = V.non ∧ Q (V.bl (!decide (x = V.non))) H) (tVar 6) (tC V.non))) (tTest (tOp (rNotInD K) (tCB (rShow K) (tCons (tVar 6) tNil)) (tLc (iList K (tVar 10)) (gName 14) tYes (tCB (rShow K) (tCons (tVar 14) tNil)) [14]))))
      [a0, a1, a2, a3, a4, a5, some v, a7, a8, a9, some (.ref pp), a11, a12, a13, a14] H P := by
  rcases ans with ⟨rfl, heq⟩ | ⟨s, u, d, rfl, hs, hdu, hut, hne⟩
  · refine ⟨_, rfl, rfl, _, rfl, ?_⟩
    refine v_ift (by decide) ?_
    refine ⟨_, rfl, (by show 0 ≤ sizeLine; decide), fun q hq => ?_⟩
    have e : (VM.switches top).filter (isParted ls ms) = [] := by
      refine List.filter_eq_nil_iff.mpr fun s hs => ?_
      obtain ⟨u, d, rfl, h1, h2⟩ := VM.mem_switches.mp hs
      show ¬ (VM.isOn u d ls != VM.isOn u d ms) = true
      rw [heq u d h1 h2]
      simp
    rw [e] at ty
    refine ⟨_, _, dp_list (SqL.of (upd_new hq hp)) (ty.same (same_new hq)), dp_list (nss := []) (SqL.of upd_same) .nil, shaped_list _, shaped_list _, _, rfl, ?_⟩
    rw [eqv_list]
    refine v_iff (by decide) ?_
    refine ⟨_, rfl, rfl, _, rfl, ?_⟩
    refine v_iff (by decide) ?_
    exact k _ (same_new hq)
  · refine ⟨_, rfl, rfl, _, rfl, ?_⟩
    refine v_iff (by simp) ?_
    refine ⟨_, rfl, rfl, _, rfl, ?_⟩
    refine v_ift (by simp) ?_
    have ss : ∀ ns ∈ VM.switches top, Shows (ptup ns) := by
      intro ns hns
      obtain ⟨u, d, rfl, h1, h2⟩ := VM.mem_switches.mp hns
      refine shows_tup (fun x hx => ?_) (by simp)
      simp only [List.mem_cons, List.not_mem_nil, or_false] at hx
      omega
    have hm : [u, d] ∈ (VM.switches top).filter (isParted ls ms) := by
      refine List.mem_filter.mpr ⟨VM.mem_switches.mpr ⟨u, d, rfl, hdu, hut⟩, ?_⟩
      show (VM.isOn u d ls != VM.isOn u d ms) = true
      simpa using hne
    refine ⟨_, rfl, ?_⟩
    show tNil _ _ _
    refine v_rep (dp_tup hs) (ss _ (VM.mem_switches.mpr ⟨u, d, rfl, hdu, hut⟩)) ?_
    refine ⟨_, rfl, pp, rfl, ⟨_, SqL.of hp⟩, fun D hD => lc_list (K := K) (a := pp) (xs := pxs) (fun j H' => Same H H' ∧ H' D = some (.lst ((((VM.switches top).filter (isParted ls ms)).take j).map fun ns => V.str (ptup ns).shown)))
      ⟨same_new hD, upd_same⟩ (fun j H' _ h => SqL.of (h.1 _ _ hp)) ?_ ?_⟩
    · rintro j x H' hx ⟨e, hd⟩
      obtain ⟨t, ns, rfl, hns, hst⟩ := ty.get hx
      refine ⟨rfl, _, rfl, ?_⟩
      show tNil _ _ _
      refine v_rep (dp_tup (sqT_same e hst)) (ss _ (List.mem_filter.mp (List.mem_of_getElem? hns)).1) ?_
      refine ⟨_, hd, ?_, same_mut hD e, ?_⟩
      · have h1 := List.length_filter_le (isParted ls ms) (VM.switches top)
        have h2 := sw_small ht6
        refine small' ?_
        rw [List.length_map, List.length_take]
        omega
      · rw [upd_same, VM.take_succ hns]
        simp
    · rintro H' ⟨e, hd⟩
      rw [ty.len, List.take_length] at hd
      have dps : ∀ nss : List (List Nat), DpAll K H' (nss.map fun ns => V.str (ptup ns).shown) (nss.map fun ns => PyData.str (ptup ns).shown) := by
        intro nss
        induction nss with
        | nil => exact .nil
        | cons a r ih => exact .cons (.str _) ih
      have yes : ((((VM.switches top).filter (isParted ls ms)).map fun ns => PyData.str (ptup ns).shown).any fun z => PyData.eqv z (.str (ptup [u, d]).shown)) = true := by
        refine List.any_eq_true.mpr ⟨_, List.mem_map.mpr ⟨_, hm, rfl⟩, ?_⟩
        show ((ptup [u, d]).shown == (ptup [u, d]).shown) = true
        simp
      refine ⟨_, _, .str _, .lst (SqL.of hd) (dps _), str_shaped (str_ok ht6 (List.mem_filter.mp hm).1), strs_shaped (fun s hs => str_ok ht6 (List.mem_filter.mp hs).1), _, rfl, ?_⟩
      rw [yes]
      exact k H' e
theorem ok_law {f : Addr} {fd : FuncData} (F : Fun K "law" "law" slaw f fd) (T : Txt K mg C)
    (D_law_feed : Def P w K mg base CX0 1 "_law_feed" ["script", "k"] (spFeed K)) (D_law_take : Def P w K mg base CX0 1 "_law_take" ["feed", "size"] spTakeN) (D_law_pick : Def P w K mg base CX0 2 "_law_pick" ["feed", "things"] (spPickN K))
    (D_law_switches : Def P w K mg base CX0 1 "_law_switches" ["top"] (spSwitches K)) (D_law_is_on : Def P w K mg base CX0 1 "_law_is_on" ["switch", "levels"] (spIsOn K)) (D_law_memories : Def P w K mg base CX0 1 "_law_memories" ["top"] (spMemories K))
    (D_law_history : Def P w K mg base CX0 2 "_law_history" ["feed", "top", "most"] spHist) (D_law_changed : Def P w K mg base CX0 3 "_law_changed" ["feed", "top", "history"] spChanged)
    (D_law_parted : Def P w K mg base CX0 2 "_law_parted" ["top", "first", "second"] (spParted (K := K))) (D_law_asked : Def P w K mg base CX0 8 "_law_asked" ["top", "first", "second"] (spAskedN K))
    (Dswitches_on : Def P w K mg base (L2.CX P w) 5 "switches_on" ["top", "memory"] (spOnP K C)) :
    FnG P w K mg base CX0 9 f fd ["script"] (spLaw K) := by
  have nd := sclaw.nd
  refine fng_mk F sclaw (fun vs H Q E h => ?_) (fun cdv A outer s H vs Q E hg0 hr h => ?_)
  · obtain ⟨a, ns, rfl, _⟩ := h
    rfl
  · obtain ⟨sa, ns, rfl, hS, hz, k⟩ := h
    have hg : NoG (cxOf CX0 P w K mg base nlaw "law" (defScope slaw) f cdv A outer s H E).nox.A := hg0
    refine ⟨_, (pss_cons (ps_for PassesOwn.never rfl (pi_range1 (by rfl) T.range_ (pa_cons (pe_callB (call_max2 rfl) (by rfl) T.max_ (by decide +kernel) (pa_cons pe_int (pa_cons (pe_callB (call_min2 rfl) (by rfl) T.min_ (by decide +kernel) (pa_cons pe_int (pa_cons (pe_callB call_len_seq (by rfl) T.len_ PySem.boot_len (pa_cons (pv 0) pa_nil)) pa_nil))) pa_nil))) pa_nil)) (pg_name (i := 1) nd rfl (Or.inl rfl)) (pss_cons (ps_set (i := 2) nd rfl (Or.inl rfl) (pe_callD D_law_feed (hr.mono (by decide)) rfl pass0 (pa_cons (pv 0) (pa_cons (pv 1) pa_nil)))) (pss_cons (ps_set (i := 3) nd rfl (Or.inl rfl) (pe_op op_add pe_int (pe_callD D_law_take (hr.mono (by decide)) rfl pass0 (pa_cons (pv 2) (pa_cons pe_int pa_nil))))) (pss_one (ps_for PassesOwn.never rfl (pi_range1 (by rfl) T.range_ (pa_cons pe_int pa_nil)) (pg_name (i := 4) nd rfl (Or.inl rfl)) (pss_cons (ps_set (i := 5) nd rfl (Or.inr rfl) (pe_callD D_law_pick (hr.mono (by decide)) rfl pass0 (pa_cons (pv 2) (pa_cons (pe_callD D_law_memories (hr.mono (by decide)) rfl pass0 (pa_cons (pv 3) pa_nil)) pa_nil)))) (pss_cons (ps_set (i := 6) nd rfl (Or.inl rfl) (pe_callD Dswitches_on (hr.mono (by decide)) rfl passL (pa_cons (pv 3) (pa_cons (pv 5) pa_nil)))) (pss_cons (ps_if (pt_cmpR op_ne (pe_callB (cr_rep hg hr.units) (by rfl) T.repr_ (by decide +kernel) (pa_cons (pv 6) pa_nil)) (pe_callB (cr_rep hg hr.units) (by rfl) T.repr_ (by decide +kernel) (pa_cons (pe_lc (own := [("one", 14)]) (by rfl) nd (pi_list (pe_callD D_law_switches (hr.mono (by decide)) rfl pass0 (pa_cons (pv 3) pa_nil))) (blkOk_by (own := [("one", 14)]) (N := nlaw) (sc := defScope slaw) (by decide +kernel)) (fun _ _ _ _ _ => (pg_name (i := 14) nd rfl (Or.inl rfl))) (fun _ _ _ _ _ => (pts_one (pt_val (pe_callD D_law_is_on (hr.mono (by decide)) rfl pass0 (pa_cons (pv 14) (pa_cons (pv 5) pa_nil)))))) (fun _ _ _ _ _ => (pv 14))) pa_nil)) (nomark _)) (pss_one (ps_ret pe_bl)) pss_nil) (pss_cons (ps_expr (pe_bm PySem.F.plainAttrs_list PySem.F.slot_list_append PySem.F.type_list_append mt_append (pv 6) (pa_cons pe_non pa_nil))) (pss_cons (ps_if (pt_cmpR (op_inD (u65 hr)) pe_non (pe_callD Dswitches_on (hr.mono (by decide)) rfl passL (pa_cons (pv 3) (pa_cons (pv 5) pa_nil))) rfl) (pss_one (ps_ret pe_bl)) pss_nil) (pss_cons (ps_set (i := 7) nd rfl (Or.inl rfl) (pe_callD D_law_history (hr.mono (by decide)) rfl pass0 (pa_cons (pv 2) (pa_cons (pv 3) (pa_cons pe_int pa_nil))))) (pss_cons (ps_set (i := 8) nd rfl (Or.inl rfl) (pe_callD D_law_changed (hr.mono (by decide)) rfl pass0 (pa_cons (pv 2) (pa_cons (pv 3) (pa_cons (pv 7) pa_nil))))) (pss_cons (ps_par (i := 9) (j := 10) (by rfl) nd rfl rfl (by decide) rfl rfl (pa_cons (pe_callB (cr_rep hg hr.units) (by rfl) T.repr_ (by decide +kernel) (pa_cons (pe_lst (pa_cons (pv 7) (pa_cons (pv 8) pa_nil))) pa_nil)) (pa_cons (pe_callD D_law_parted (hr.mono (by decide)) rfl pass0 (pa_cons (pv 3) (pa_cons (pv 7) (pa_cons (pv 8) pa_nil)))) pa_nil)) (by rfl)) (pss_cons (ps_set (i := 6) nd rfl (Or.inl rfl) (pe_callD D_law_asked (hr.mono (by decide)) rfl pass0 (pa_cons (pv 3) (pa_cons (pv 7) (pa_cons (pv 8) pa_nil))))) (pss_cons (ps_if (pt_cmpR op_ne (pe_callB (cr_rep hg hr.units) (by rfl) T.repr_ (by decide +kernel) (pa_cons (pe_lst (pa_cons (pv 7) (pa_cons (pv 8) pa_nil))) pa_nil)) (pv 9) (nomark _)) (pss_one (ps_ret pe_bl)) pss_nil) (pss_cons (ps_if (PW.pt (pw_or (PW.pt (pw_and (pt_cmpR op_isN (pv 6) pe_non (nomark _)) (pw_and1 (pt_cmpR (op_neD hr.units) (pv 10) (pe_lst pa_nil) (nomark _))))) (pw_or1 (PW.pt (pw_and (pt_cmpR op_notN (pv 6) pe_non (nomark _)) (pw_and1 (pt_cmpR (op_notInD (u65 hr)) (pe_callB (cr_rep hg hr.units) (by rfl) T.repr_ (by decide +kernel) (pa_cons (pv 6) pa_nil)) (pe_lc (own := [("one", 14)]) (by rfl) nd (pi_list (pv 10)) (blkOk_by (own := [("one", 14)]) (N := nlaw) (sc := defScope slaw) (by decide +kernel)) (fun _ _ _ _ _ => (pg_name (i := 14) nd rfl (Or.inl rfl))) (fun _ _ _ _ _ => pts_nil) (fun _ _ _ _ _ => (pe_callB (kCall rShow K (cr_rep hg hr.units)) (by rfl) T.repr_ (by decide +kernel) (pa_cons (pv 14) pa_nil)))) rfl))))))) (pss_one (ps_ret pe_bl)) pss_nil) (pss_cons (ps_set (i := 11) nd rfl (Or.inl rfl) (pe_callD D_law_take (hr.mono (by decide)) rfl pass0 (pa_cons (pv 2) (pa_cons (pe_op op_add (pe_callB call_len_seq (by rfl) T.len_ PySem.boot_len (pa_cons (pv 7) pa_nil)) pe_int) pa_nil)))) (pss_cons (ps_set (i := 12) nd rfl (Or.inl rfl) (pe_op op_cat (pe_op op_cat (pe_slice sl_list (pv 7) po_none (po_some (pv 11))) (pe_lst (pa_cons (pe_callD D_law_pick (hr.mono (by decide)) rfl pass0 (pa_cons (pv 2) (pa_cons (pe_lst (pa_cons (pe_op op_add (pv 3) pe_int) (pa_cons pe_non (pa_cons pe_bl (pa_cons (pe_un un_neg pe_int) (pa_cons pe_str pa_nil)))))) pa_nil))) pa_nil))) (pe_slice sl_list (pv 7) (po_some (pv 11)) po_none))) (pss_cons (ps_set (i := 12) nd rfl (Or.inl rfl) (pe_op op_cat (pv 12) (pe_callD D_law_pick (hr.mono (by decide)) rfl pass0 (pa_cons (pv 2) (pa_cons (pe_lst (pa_cons (pe_lst pa_nil) (pa_cons (pe_lst (pa_cons pe_non pa_nil)) (pa_cons (pe_lst (pa_cons (pe_op op_add (pv 3) pe_int) pa_nil)) pa_nil)))) pa_nil))))) (pss_cons (ps_set (i := 13) nd rfl (Or.inl rfl) (pe_callD D_law_pick (hr.mono (by decide)) rfl pass0 (pa_cons (pv 2) (pa_cons (pe_lst (pa_cons pe_non (pa_cons (pe_tup (pa_cons pe_int pa_nil)) (pa_cons pe_dnewK (pa_cons pe_str pa_nil))))) pa_nil)))) (pss_cons (ps_if (pt_cmpR (op_neD hr.units) (pe_callD D_law_asked (hr.mono (by decide)) rfl pass0 (pa_cons (pv 3) (pa_cons (pv 12) (pa_cons (pe_callD D_law_pick (hr.mono (by decide)) rfl pass0 (pa_cons (pv 2) (pa_cons (pe_lst (pa_cons (pv 13) (pa_cons (pv 8) pa_nil))) pa_nil))) pa_nil)))) (pe_lst (pa_cons pe_str (pa_cons (pv 11) pa_nil))) (nomark _)) (pss_one (ps_ret pe_bl)) pss_nil) (pss_cons (ps_if (PW.pt (pw_or (pt_cmpR (op_neD hr.units) (pe_callD D_law_asked (hr.mono (by decide)) rfl pass0 (pa_cons (pv 3) (pa_cons (pv 8) (pa_cons (pv 12) pa_nil)))) (pe_lst (pa_cons pe_str (pa_cons (pv 11) pa_nil))) (nomark _)) (pw_or1 (pt_cmpR (op_neD hr.units) (pe_callD D_law_asked (hr.mono (by decide)) rfl pass0 (pa_cons (pv 3) (pa_cons (pv 8) (pa_cons (pv 13) pa_nil)))) (pe_lst (pa_cons pe_str (pa_cons pe_int pa_nil))) (nomark _))))) (pss_one (ps_ret pe_bl)) pss_nil) (pss_one (ps_if (pt_cmpR (op_neD hr.units) (pe_callD D_law_asked (hr.mono (by decide)) rfl pass0 (pa_cons (pv 3) (pa_cons (pv 13) (pa_cons (pv 8) pa_nil)))) (pe_lst (pa_cons pe_str (pa_cons pe_int pa_nil))) (nomark _)) (pss_one (ps_ret pe_bl)) pss_nil)))))))))))))))))))))))) (pss_one (ps_ret pe_bl))), ?_⟩
    refine ⟨_, rfl, ?_⟩
    apply v_lenL hS
    refine ⟨_, _, rfl, _, _, rfl, _, rfl, ?_, ?_, for_range (lo := 0) (fun i σ H' => (∃ v1 v2 v3 v4 v5 v6 v7 v8 v9 v10 v11 v12 v13 v14, σ = [some (.ref sa), v1, v2, v3, v4, v5, v6, v7, v8, v9, v10, v11, v12, v13, v14]) ∧ SqL K H' sa (ns.map V.int)) ?_ ?_ ?_⟩
    · split <;> split <;> omega
    · split <;> split <;> omega
    · exact ⟨⟨_, _, _, _, _, _, _, _, _, _, _, _, _, _, rfl⟩, hS⟩
    · rintro i σ H0 hi ⟨⟨v1, v2, v3, v4, v5, v6, v7, v8, v9, v10, v11, v12, v13, v14, rfl⟩, hS0⟩
      have hi3 : i ≤ 4 := by
        revert hi
        split <;> split <;> omega
      clear hi
      -- feed
      refine ⟨_, rfl, _, rfl, sa, ns, i, (by simp [vn]), hS0, hz, by omega, fun fe H1 x y nf e1 hf hx hy => ?_⟩
      have f1 : Fd H1 fe := ⟨x, y, hf, hx, hy⟩
      clear hf hx hy
      -- top
      refine ⟨_, rfl, fe, 6, rfl, f1, by omega, by omega, fun r H2 hr2 n2 => ?_⟩
      obtain ⟨top, htop⟩ : ∃ top : Nat, top = 1 + r := ⟨_, rfl⟩
      have ht1 : 1 ≤ top := by omega
      have ht6 : top ≤ 6 := by omega
      have htv : V.int (1 + ((r : Nat) : Int)) = vn top := by
        unfold vn
        congr 1
        omega
      refine ⟨_, _, rfl, rfl, ?_⟩
      refine ⟨_, rfl, by decide, by decide, for_range (lo := 0) (n := (4 : Int).toNat) (fun j σ H' => ∃ v4 v5 v6 v7 v8 v9 v10 v11 v12 v13 v14, σ = [some (.ref sa), some (.int (0 + (i : Int))), some (.ref fe), some (vn top), v4, v5, v6, v7, v8, v9, v10, v11, v12, v13, v14] ∧ Now fe H1 H') ?_ ?_ ?_⟩
      · refine ⟨v4, v5, v6, v7, v8, v9, v10, v11, v12, v13, v14, ?_, n2⟩
        rw [← htv]
        rfl
      · rintro j σ H3 hj ⟨w4, w5, w6, w7, w8, w9, w10, w11, w12, w13, w14, rfl, n3⟩
        -- memory
        refine ⟨_, rfl, _, rfl, top, rfl, ht6, fun ev H4 ys nss nev e4 hev tys hperm => ?_⟩
        have f3 := n3.fd
        have hlen : ys.length = 2 ^ top := by rw [tys.len, hperm.length_eq, ms_count]
        have hpos : 0 < ys.length := by rw [hlen]; exact Nat.pow_pos (by decide)
        have hl64 : ys.length ≤ 64 := by rw [hlen]; exact two_pow ht6
        have n4 := n3.same e4
        refine ⟨fe, ev, ys, rfl, n4.fd, SqL.of hev, ne_fd f3 nev, hpos, by omega, fun v H5 hv n45 => ?_⟩
        obtain ⟨p, m, rfl, hm, hp⟩ := tys.mem hv
        have mm : m ∈ VM.msOf top := hperm.mem_iff.mp hm
        have gm := VM.good_of ht1 ht6 mm
        have lm := ms_len ht6 mm
        have hp5 := sqT_now n4.fd n45 hp
        have n5 := n4.trans n45
        clear hp tys hev hperm hv
        -- told
        refine ⟨_, rfl, _, rfl, top, .ref p, true, rfl, ht6, good_mem gm ht6 hp5 (by omega), fun z => Bool.noConfusion z, fun _ => ⟨p, m, rfl, hp5, fun to H6 xs nto e6 h6 ty6 => ?_⟩⟩
        have son : Shows (plist (VM.on top m)) := by
          refine shows_on ht6 (fun s hs => (List.mem_filter.mp hs).1) ?_
          have h1 : (VM.on top m).length ≤ (VM.switches top).length := List.length_filter_le _ _
          have h2 := sw_small ht6
          omega
        refine ⟨_, rfl, ?_⟩
        show tNil _ _ _
        refine v_rep (dp_list (SqL.of h6) ty6) son ?_
        refine ⟨_, rfl, top, rfl, ht6, fun sw H7 swx nsw e7 hsw tsw => ?_⟩
        refine ⟨sw, rfl, ⟨_, SqL.of hsw⟩, fun D hD => lc_list (K := K) (a := sw) (xs := swx) (fun j H' => Same H7 H' ∧ ∃ zs, H' D = some (.lst zs) ∧ Tups K H' zs (((VM.switches top).take j).filter fun s => VM.isOn (s.getD 0 0) (s.getD 1 0) m))
          ⟨same_new hD, [], upd_same, .nil⟩ (fun j H' _ h => SqL.of (h.1 _ _ hsw)) ?_ ?_⟩
        · rintro l x H' hx ⟨e', zs, hzs, tzs⟩
          obtain ⟨t, s, rfl, hs, hst⟩ := tsw.get hx
          obtain ⟨u, d, rfl, _, _⟩ := VM.mem_switches.mp (List.mem_of_getElem? hs)
          have hfil := filter_take (fun s => VM.isOn (s.getD 0 0) (s.getD 1 0) m) hs
          have hst' := sqT_same e' hst
          refine ⟨rfl, _, rfl, _, rfl, t, p, u, d, m, rfl, hst', .inr (sqT_same ((e6.trans e7).trans e') hp5), _, rfl, ?_⟩
          refine v_ifb (fun hb => ?_) (fun hb => ?_)
          · refine ⟨_, rfl, zs, hzs, ?_, same_mut hD e', _, upd_same, ?_⟩
            · have h2 := tzs.len
              have h3 := List.length_filter_le (fun s => VM.isOn (s.getD 0 0) (s.getD 1 0) m) ((VM.switches top).take l)
              have h4 := sw_small ht6
              rw [List.length_take] at h3
              refine small' ?_
              omega
            · rw [hfil, if_pos (show VM.isOn ([u, d].getD 0 0) ([u, d].getD 1 0) m = true from hb)]
              exact Tups.append (tzs.but fun a ns h => sqT_but but_upd hzs h) (Tups.one (sqT_but but_upd hzs hst'))
          · refine ⟨e', zs, hzs, ?_⟩
            rw [hfil, if_neg (show ¬ VM.isOn ([u, d].getD 0 0) ([u, d].getD 1 0) m = true from fun z => by
              have z' : VM.isOn u d m = true := z
              rw [hb] at z'
              cases z'), List.append_nil]
            exact tzs
        · rintro H8 ⟨e8, zs, hzs, tzs⟩
          rw [tsw.len, List.take_length] at tzs
          show tNil _ _ _
          refine v_rep (dp_list (SqL.of hzs) tzs) son ?_
          refine ⟨rfl, _, rfl, ?_⟩
          refine v_iff (ne_self _) ?_
          have e68 := e7.trans e8
          have h68 := e68 _ _ h6
          have lxs : xs.length ≤ 42 := by
            rw [ty6.len]
            exact Nat.le_trans (List.length_filter_le _ _) (sw_small ht6)
          -- append
          refine ⟨_, rfl, .inl ⟨rfl, _, SqL.of h68⟩, ?_⟩
          apply v_app h68 (small' (by omega))
          have s59 : Same H5 (upd H8 to (.lst (xs ++ [.non]))) := same_mut nto (e6.trans e68)
          revert s59
          generalize (upd H8 to (.lst (xs ++ [.non]))) = H9
          intro s59
          clear hzs tzs tsw hsw hD h68 e68 e8 e7 ty6 h6 e6
          have n9 := n5.same s59
          have p9 := sqT_same s59 hp5
          -- None in switches_on
          refine ⟨_, rfl, _, rfl, top, .ref p, true, rfl, ht6, good_mem gm ht6 p9 (by omega), fun z => Bool.noConfusion z, fun _ => ⟨p, m, rfl, p9, fun to2 Ha xs2 nt2 ea h2 ty2 => ?_⟩⟩
          refine ⟨_, _, .non, dp_list (SqL.of h2) ty2, rfl, shaped_list _, _, rfl, ?_⟩
          rw [any_non]
          refine v_iff rfl ?_
          have na := n9.same ea
          clear ty2 h2 nt2
          -- first, second
          refine ⟨_, rfl, _, rfl, fe, top, 9, rfl, na.fd, ht6, by omega, fun p1 Hb fp1 nb l1 => ?_⟩
          have ne1 := ne_fd na.fd fp1
          refine ⟨_, rfl, _, rfl, _, rfl, fe, p1, top, 9, rfl, nb.fd, l1, ne1, ht6, by omega, fun p2 Hc ne2 nbc l2 => ?_⟩
          have nc := (na.trans nb).trans nbc
          obtain ⟨ls, hls, zls, lls⟩ := l1.now nbc ne1
          obtain ⟨ms, hms, zms, lms⟩ := l2
          have lls9 : ∀ n ∈ ls, n ≤ 9 := fun n hn => Nat.le_trans (lls n hn) (by omega)
          have lms9 : ∀ n ∈ ms, n ≤ 9 := fun n hn => Nat.le_trans (lms n hn) (by omega)
          have stwo := shows_two lls9 lms9 (by omega)
          -- shown, parted
          refine ⟨_, rfl, _, rfl, (by show 2 ≤ sizeLine; decide), fun q2 fq2 => ?_⟩
          show tNil _ _ _
          refine v_rep (two_dp (SqL.of upd_same) (upd_new fq2 hls) (upd_new fq2 hms)) stwo ?_
          refine ⟨_, rfl, _, rfl, _, rfl, p1, p2, top, ls, ms, rfl, ht6, upd_new fq2 hls, upd_new fq2 hms, fun pp Hd pxs npp ed hpp typ => ⟨_, _, rfl, ?_⟩⟩
          have scd := (same_new fq2).trans ed
          clear ed
          -- told
          refine ⟨_, rfl, _, rfl, _, rfl, top, .ref p1, .ref p2, none, none, rfl, ht1, ht6, lev_good (scd _ _ hls) (by omega) lls, lev_good (scd _ _ hms) (by omega) lms, fun i hi => ?_,
            fun _ _ => ⟨p1, p2, ls, ms, rfl, rfl, SqL.of (scd _ _ hls), SqL.of (scd _ _ hms), by omega, by omega, lls, lms, fun He tv sde ans => ?_⟩⟩
          · rcases hi with hi | ⟨_, hi⟩ <;> cases hi
          have sce := scd.trans sde
          refine ⟨_, rfl, _, rfl, (by show 2 ≤ sizeLine; decide), fun q3 fq3 => ?_⟩
          show tNil _ _ _
          refine v_rep (two_dp (SqL.of upd_same) (upd_new fq3 (sce _ _ hls)) (upd_new fq3 (sce _ _ hms))) stwo ?_
          refine ⟨_, rfl, rfl, _, rfl, ?_⟩
          refine v_iff (ne_self _) ?_
          have hpf := upd_new fq3 (sde _ _ hpp) (o' := .lst [.ref p1, .ref p2])
          refine go_next ?_
          dsimp only
          refine go_seq ?_
          refine go_if ?_
          refine answered (K := K) ht6 hpf (typ.same (sde.trans (same_new fq3))) (ans.same (same_new fq3)) fun Hg sg => ?_
          refine v_iff rfl ?_
          have scg := ((scd.trans sde).trans (same_new fq3)).trans sg
          have ng := nc.same scg
          have hlsg := scg _ _ hls
          have hmsg := scg _ _ hms
          clear hpf ans typ
          -- at
          refine ⟨_, rfl, _, rfl, ?_⟩
          apply v_lenL (SqL.of hlsg)
          refine ⟨_, _, rfl, rfl, fe, _, rfl, ng.fd, by simp only [List.length_map]; omega, by simp only [List.length_map]; omega, fun ax Hh hat ngh => ?_⟩
          have hat' : ax ≤ ls.length := by
            simp only [List.length_map] at hat
            omega
          have nh := ng.trans ngh
          have hlsh := ngh.but _ _ hlsg ne1
          have hmsh := ngh.but _ _ hmsg ne2
          -- bad
          refine ⟨_, rfl, _, rfl, _, rfl, p1, _, rfl, SqL.of hlsh, fun c1 fc1 => ?_⟩
          rw [cut_ahead]
          have nc1 := ne_fd nh.fd fc1
          refine ⟨_, rfl, _, rfl, _, _, rfl, rfl, _, rfl, (by show 5 ≤ sizeLine; decide), fun c2 fc2 => ?_⟩
          have s1 : Same Hh (upd Hh c1 (.lst (vns (ls.take ax)))) := same_new fc1
          have nc2 := ne_fd (nh.same s1).fd fc2
          refine ⟨fe, c2, _, rfl, (nh.same (s1.trans (same_new fc2))).fd, SqL.of upd_same, nc2, by simp, by simp, fun bv Hi hbv nhi => ?_⟩
          have hbo : lvl top bv = false ∧ OkE K bv := by
            simp only [List.mem_cons, List.not_mem_nil, or_false] at hbv
            rcases hbv with rfl | rfl | rfl | rfl | rfl
            · exact ⟨decide_eq_false (by omega), oke_int⟩
            · exact ⟨rfl, oke_non⟩
            · exact ⟨rfl, oke_bl⟩
            · exact ⟨by simp [lvl], oke_int⟩
            · exact ⟨rfl, oke_str⟩
          have ni := (nh.same (s1.trans (same_new fc2))).trans nhi
          have hc1 : Hi c1 = some (.lst (vns (ls.take ax))) := nhi.but _ _ (upd_new fc2 upd_same) nc1
          have hlsi := nhi.but _ _ (upd_new fc2 (s1 _ _ hlsh)) ne1
          have hmsi := nhi.but _ _ (upd_new fc2 (s1 _ _ hmsh)) ne2
          clear hbv
          refine ⟨(by show 1 ≤ sizeLine; decide), fun c3 fc3 => ?_⟩
          refine ⟨c1, c3, _, _, rfl, rfl, upd_new fc3 hc1, upd_same, small (by simp only [List.length_map, List.length_take, List.length_cons, List.length_nil]; omega), fun c4 fc4 => ?_⟩
          refine ⟨_, rfl, _, rfl, _, rfl, ?_⟩
          show tNoPart _ _ _
          have si4 : Same Hi (upd (upd Hi c3 (.lst [bv])) c4 (.lst (vns (ls.take ax) ++ [bv]))) := (same_new fc3).trans (same_new fc4)
          refine v_cutN (top := top) (n := 9) ⟨ls, si4 _ _ hlsi, zls, lls⟩ fun c5 Hj fc5 ej lc5 => ?_
          obtain ⟨rs, hrs, zrs, lrs⟩ := lc5
          have hc4 : Hj c4 = some (.lst (vns (ls.take ax) ++ [bv])) := ej _ _ upd_same
          have sij := si4.trans ej
          have nj := ni.same sij
          refine ⟨c4, c5, _, _, rfl, rfl, hc4, hrs, small (by simp only [List.length_append, List.length_map, List.length_take, List.length_cons, List.length_nil]; omega), fun c6 fc6 => ?_⟩
          have nc6 := ne_fd nj.fd fc6
          -- bad again
          refine ⟨_, rfl, _, rfl, (by show 0 ≤ sizeLine; decide), fun b1 fb1 => ⟨(by show 1 ≤ sizeLine; decide), fun b2 fb2 => ⟨_, rfl, _, _, rfl, rfl, (by show 1 ≤ sizeLine; decide), fun b3 fb3 => ⟨(by show 3 ≤ sizeLine; decide), fun b4 fb4 => ?_⟩⟩⟩⟩
          have hc6 : (upd Hj c6 (.lst (vns (ls.take ax) ++ [bv] ++ vns rs))) c6 = some (.lst (vns (ls.take ax) ++ [bv] ++ vns rs)) := upd_same
          have s6 : Same Hj (upd Hj c6 (.lst (vns (ls.take ax) ++ [bv] ++ vns rs))) := same_new fc6
          revert fb1 fb2 fb3 fb4 hc6 s6
          generalize (upd Hj c6 (.lst (vns (ls.take ax) ++ [bv] ++ vns rs))) = Hx
          intro fb1 fb2 fb3 fb4 hc6 s6
          have nx := nj.same s6
          have nb1 := ne_fd nx.fd fb1
          have x1 := same_new (o' := .lst []) fb1
          have nb2 := ne_fd (nx.same x1).fd fb2
          have x2 := x1.trans (same_new (o' := .lst [.non]) fb2)
          have nb3 := ne_fd (nx.same x2).fd fb3
          have x3 := x2.trans (same_new (o' := .lst [V.int ((top : Int) + 2)]) fb3)
          have nb4 := ne_fd (nx.same x3).fd fb4
          refine ⟨fe, b4, _, rfl, (nx.same (x3.trans (same_new fb4))).fd, SqL.of upd_same, nb4, by simp, by simp, fun zv Hk hzv nxk => ?_⟩
          have nk := (nx.same (x3.trans (same_new fb4))).trans nxk
          obtain ⟨zb, zs, rfl, hzb, lzs, okz⟩ : ∃ zb zs, zv = .ref zb ∧ Hk zb = some (.lst zs) ∧ zs.length ≤ 1 ∧ ∀ x ∈ zs, OkE K x := by
            simp only [List.mem_cons, List.not_mem_nil, or_false] at hzv
            rcases hzv with rfl | rfl | rfl
            · exact ⟨b1, [], rfl, nxk.but _ _ (upd_new fb4 (upd_new fb3 (upd_new fb2 upd_same))) nb1, by simp, by simp⟩
            · exact ⟨b2, [.non], rfl, nxk.but _ _ (upd_new fb4 (upd_new fb3 upd_same)) nb2, by simp, by simpa using oke_non⟩
            · exact ⟨b3, _, rfl, nxk.but _ _ (upd_new fb4 upd_same) nb3, by simp, by simpa using oke_int⟩
          clear hzv
          have s4 := x3.trans (same_new (o' := .lst [V.ref b1, V.ref b2, V.ref b3]) fb4)
          have hc6k := nxk.but _ _ (s4 _ _ hc6) nc6
          have hmsk := nxk.but _ _ (s4 _ _ (s6 _ _ (sij _ _ hmsi))) ne2
          refine ⟨c6, zb, _, _, rfl, rfl, hc6k, hzb, small (by simp only [List.length_append, List.length_map, List.length_take, List.length_cons, List.length_nil]; omega), fun bd fbd => ?_⟩
          have nbd := ne_fd nk.fd fbd
          have hbd : (upd Hk bd (.lst (vns (ls.take ax) ++ [bv] ++ vns rs ++ zs))) bd = some (.lst (vns (ls.take ax) ++ bv :: (vns rs ++ zs))) := by
            rw [upd_same]
            simp
          have skl : Same Hk (upd Hk bd (.lst (vns (ls.take ax) ++ [bv] ++ vns rs ++ zs))) := same_new fbd
          revert hbd skl
          generalize (upd Hk bd (.lst (vns (ls.take ax) ++ [bv] ++ vns rs ++ zs))) = Hl
          intro hbd skl
          have nl := nk.same skl
          have hmsl := skl _ _ hmsk
          clear hc6k hzb hmsk hc6 s4
          -- odd
          refine ⟨_, rfl, (by show 1 ≤ sizeLine; decide), fun o1 fo1 o2 fo2 => ⟨(by show 4 ≤ sizeLine; decide), fun o3 fo3 => ?_⟩⟩
          have y1 := same_new (o' := .tup [V.int 0]) fo1
          have y2 := y1.trans (same_new (o' := .dK []) fo2)
          have y3 := y2.trans (same_new (o' := .lst [V.non, V.ref o1, V.ref o2, V.str "0"]) fo3)
          have no3 := ne_fd (nl.same y2).fd fo3
          have no2 := ne_fd (nl.same y1).fd fo2
          have no1 := ne_fd nl.fd fo1
          refine ⟨fe, o3, _, rfl, (nl.same y3).fd, SqL.of upd_same, no3, by simp, by simp, fun ov Hm hov nlm => ?_⟩
          have nm := (nl.same y3).trans nlm
          have okv : ∃ k, k ≠ "list" ∧ OkT K Hm ov k := by
            simp only [List.mem_cons, List.not_mem_nil, or_false] at hov
            rcases hov with rfl | rfl | rfl | rfl
            · exact ⟨"NoneType", by decide, .base .non, by decide⟩
            · exact ⟨"tuple", by decide, ok_tup (nlm.but _ _ (upd_new fo3 (upd_new fo2 upd_same)) no1)⟩
            · exact ⟨"dict", by decide, .base (.dK (nlm.but _ _ (upd_new fo3 upd_same) no2)), by decide⟩
            · exact ⟨"str", by decide, .base (.str _), by decide⟩
          obtain ⟨kv, hkv, okv⟩ := okv
          clear hov
          have hbdm := nlm.but _ _ (y3 _ _ hbd) nbd
          have hmsm := nlm.but _ _ (y3 _ _ hmsl) ne2
          clear hbd hmsl y1 y2 y3
          -- the first question
          refine ⟨_, rfl, _, rfl, _, rfl, _, rfl, _, rfl, (by show 2 ≤ sizeLine; decide), fun g1 fg1 => ?_⟩
          have z1 := same_new (o' := .lst [ov, V.ref p2]) fg1
          have ng1 := ne_fd nm.fd fg1
          refine ⟨fe, g1, _, rfl, (nm.same z1).fd, SqL.of upd_same, ng1, by simp, by simp, fun gv Hn hgv nmn => ?_⟩
          have nn := (nm.same z1).trans nmn
          have hbdn := nmn.but _ _ (z1 _ _ hbdm) nbd
          have hmsn := nmn.but _ _ (z1 _ _ hmsm) ne2
          have okn : OkT K Hn ov kv := OkT.now (nm.same z1).fd nmn (okv.same z1)
          have lbad : ∀ H', Same Hn H' → LevV K H' top (.ref bd) (some ax) := fun H' e => by
            have q := lev_bad (K := K) (top := top) (e _ _ hbdn) (by simp only [List.length_append, List.length_map, List.length_take]; omega) (fun l hl => lls l (List.mem_of_mem_take hl)) hbo.1 (fun x hx => ?_)
            · rw [List.length_take, Nat.min_eq_left hat'] at q
              exact q
            · rcases List.mem_cons.mp hx with rfl | hx
              · exact hbo.2 H'
              · rcases List.mem_append.mp hx with hx | hx
                · obtain ⟨n, _, rfl⟩ := List.mem_map.mp hx
                  exact oke_int H'
                · exact okz x hx H'
          have lgood : ∀ H', Same Hn H' → LevV K H' top (.ref p2) none := fun H' e => lev_good (e _ _ hmsn) (by omega) lms
          have lodd : ∀ H', Same Hn H' → LevV K H' top ov (some 0) := fun H' e => .other (okn.same e) hkv
          obtain ⟨gc, hgc⟩ : ∃ gc, LevV K Hn top gv gc := by
            simp only [List.mem_cons, List.not_mem_nil, or_false] at hgv
            rcases hgv with rfl | rfl
            · exact ⟨_, lodd Hn (Same.refl _)⟩
            · exact ⟨_, lgood Hn (Same.refl _)⟩
          refine ⟨top, .ref bd, gv, some ax, gc, rfl, ht1, ht6, lbad Hn (Same.refl _), hgc, fun ii hii t1 Ho ft1 eo ht => ?_, fun z => by cases z⟩
          obtain rfl : ii = ax := by
            rcases hii with h | ⟨h, _⟩
            · exact (Option.some.inj h).symm
            · cases h
          refine ⟨_, rfl, (by show 2 ≤ sizeLine; decide), fun q4 fq4 => ⟨_, _, told_dp (upd_new fq4 ht), told_dp upd_same, told_shaped _, told_shaped _, _, rfl, ?_⟩⟩
          rw [eqv_told]
          refine v_iff rfl ?_
          have w1 := eo.trans (same_new (o' := .lst [.str "levels", vn ii]) fq4)
          -- the second one
          refine ⟨_, rfl, _, rfl, _, rfl, top, .ref p2, .ref bd, none, some ii, rfl, ht1, ht6, lgood _ w1, lbad _ w1, fun jj hjj t2 Hp ft2 ep ht2 => ?_, fun _ z => by cases z⟩
          obtain rfl : jj = ii := by
            rcases hjj with h | ⟨_, h⟩
            · cases h
            · exact (Option.some.inj h).symm
          refine ⟨_, rfl, (by show 2 ≤ sizeLine; decide), fun q5 fq5 => ⟨_, _, told_dp (upd_new fq5 ht2), told_dp upd_same, told_shaped _, told_shaped _, _, rfl, ?_⟩⟩
          rw [eqv_told]
          refine v_iff rfl ?_
          have w2 := (w1.trans ep).trans (same_new (o' := .lst [.str "levels", vn jj]) fq5)
          -- the third one
          refine ⟨_, rfl, _, rfl, _, rfl, top, .ref p2, ov, none, some 0, rfl, ht1, ht6, lgood _ w2, lodd _ w2, fun kk hkk t3 Hq ft3 eq3 ht3 => ?_, fun _ z => by cases z⟩
          obtain rfl : kk = 0 := by
            rcases hkk with h | ⟨_, h⟩
            · cases h
            · exact (Option.some.inj h).symm
          refine ⟨(by show 2 ≤ sizeLine; decide), fun q6 fq6 => ⟨_, _, told_dp (upd_new fq6 ht3), told_dp (i := 0) upd_same, told_shaped _, told_shaped _, _, rfl, ?_⟩⟩
          rw [eqv_told]
          refine v_iff rfl ?_
          have w3 := (w2.trans eq3).trans (same_new (o' := .lst [.str "levels", .int 0]) fq6)
          -- the fourth one
          refine ⟨_, rfl, _, rfl, _, rfl, top, ov, .ref p2, some 0, none, rfl, ht1, ht6, lodd _ w3, lgood _ w3, fun ll hll t4 Hr ft4 er ht4 => ?_, fun z => by cases z⟩
          obtain rfl : ll = 0 := by
            rcases hll with h | ⟨h, _⟩
            · exact (Option.some.inj h).symm
            · cases h
          refine ⟨(by show 2 ≤ sizeLine; decide), fun q7 fq7 => ⟨_, _, told_dp (upd_new fq7 ht4), told_dp (i := 0) upd_same, told_shaped _, told_shaped _, _, rfl, ?_⟩⟩
          rw [eqv_told]
          refine v_iff rfl ?_
          have w4 := (w3.trans er).trans (same_new (o' := .lst [.str "levels", .int 0]) fq7)
          exact ⟨_, _, _, _, _, _, _, _, _, _, _, rfl, nn.same w4⟩
      · rintro σ H' ⟨w4, w5, w6, w7, w8, w9, w10, w11, w12, w13, w14, rfl, nz⟩
        refine ⟨⟨_, _, _, _, _, _, _, _, _, _, _, _, _, _, rfl⟩, ?_⟩
        exact sqL_keep hS0 nf (but_trans (but_same e1) nz.but)
    · rintro σ H' ⟨⟨v1, v2, v3, v4, v5, v6, v7, v8, v9, v10, v11, v12, v13, v14, rfl⟩, _⟩
      exact k H'
end
theorem def_mk {P : Program} {w : World} {K : PySem.W.Frag} {mg : Str → Option Value} {base : Heap} {CX : CXT} {k : Nat} {x : Str} {st : Stmt} {f : Addr} {fd : FuncData} {ps : List Str} {sp : Sp} (F : Fun K x x st f fd) (hm : mg x = some (.ref f)) (b : Binds K fd ps [])
    (G : FnOk P w K mg base CX k f fd ps sp) : Def P w K mg base CX k x ps sp := ⟨f, fd, hm, F.kp, b, G⟩
theorem own_exm {K : PySem.W.Frag} {S : Addr} (h1 : PySem.W.subIn K (.ref S) (.type "BaseException") = some true) (h2 : PySem.W.isClsIn K S = true) (h3 : PySem.W.typeIn K (.ref S) = some (.type "type")) (h4 : PySem.W.subIn K (.ref S) (.ref S) = some true) :
    PySem.W.exmOne K (.ref S) (.ref S) = some true := by
  have h2' : (PySem.W.clsIn K S).isSome = true := h2
  have a : (PySem.W.subIn K (.ref S) (.type "BaseException") == some true) = true := by rw [h1] <;> rfl
  have b : ((PySem.W.clsIn K S).isSome && PySem.W.typeIn K (.ref S) == some (.type "type")) = true := by rw [h2', h3] <;> rfl
  have c : PySem.W.exmOne K (.ref S) (.ref S) = (if (PySem.W.subIn K (.ref S) (.type "BaseException") == some true) = true then (if ((PySem.W.clsIn K S).isSome && PySem.W.typeIn K (.ref S) == some (.type "type")) = true then PySem.W.subIn K (.ref S) (.ref S) else none) else none) := rfl
  rw [c, if_pos a, if_pos b, h4]
theorem all_mk {l : PySem.W.OpenLaw} {w : World} {K : PySem.W.Frag} {h : Heap} {mg : Str → Option Value} {fa C : Addr} (X : K.In h) (G : h.Ns mainGlobals mg) (hfa : mg "law" = some (.ref fa))
    {od0 an0 : Option Addr} {sl0 : Array (Option Value)} {oc0 kV0 dc0 pm0 cd0 ct0 : Value} {f0 : Addr}
    (a0 : PySem.W.nsIn K mainGlobals "is_integer" = some (some (.ref f0))) (l0 : K.lookup f0 = some ⟨oc0, od0, .func (PySem.W.fnOf "is_integer" "is_integer" (defArgs sis_integer) (defBody sis_integer) (defScope sis_integer) .none kV0 dc0 pm0 an0 cd0 ct0), sl0⟩) (c0 : PySem.W.codeIn K cd0 "is_integer" = true) (k0 : PySem.W.keepIn K (.ref f0) = true)
    {od1 an1 : Option Addr} {sl1 : Array (Option Value)} {oc1 kV1 dc1 pm1 cd1 ct1 : Value} {f1 : Addr}
    (a1 : PySem.W.nsIn K mainGlobals "is_level" = some (some (.ref f1))) (l1 : K.lookup f1 = some ⟨oc1, od1, .func (PySem.W.fnOf "is_level" "is_level" (defArgs sis_level) (defBody sis_level) (defScope sis_level) .none kV1 dc1 pm1 an1 cd1 ct1), sl1⟩) (c1 : PySem.W.codeIn K cd1 "is_level" = true) (k1 : PySem.W.keepIn K (.ref f1) = true)
    {od2 an2 : Option Addr} {sl2 : Array (Option Value)} {oc2 kV2 dc2 pm2 cd2 ct2 : Value} {f2 : Addr}
    (a2 : PySem.W.nsIn K mainGlobals "moved" = some (some (.ref f2))) (l2 : K.lookup f2 = some ⟨oc2, od2, .func (PySem.W.fnOf "moved" "moved" (defArgs smoved) (defBody smoved) (defScope smoved) .none kV2 dc2 pm2 an2 cd2 ct2), sl2⟩) (c2 : PySem.W.codeIn K cd2 "moved" = true) (k2 : PySem.W.keepIn K (.ref f2) = true)
    {od3 an3 : Option Addr} {sl3 : Array (Option Value)} {oc3 kV3 dc3 pm3 cd3 ct3 : Value} {f3 : Addr}
    (a3 : PySem.W.nsIn K mainGlobals "_followed" = some (some (.ref f3))) (l3 : K.lookup f3 = some ⟨oc3, od3, .func (PySem.W.fnOf "_followed" "_followed" (defArgs s_followed) (defBody s_followed) (defScope s_followed) .none kV3 dc3 pm3 an3 cd3 ct3), sl3⟩) (c3 : PySem.W.codeIn K cd3 "_followed" = true) (k3 : PySem.W.keepIn K (.ref f3) = true)
    {od4 an4 : Option Addr} {sl4 : Array (Option Value)} {oc4 kV4 dc4 pm4 cd4 ct4 : Value} {f4 : Addr}
    (a4 : PySem.W.nsIn K mainGlobals "_height" = some (some (.ref f4))) (l4 : K.lookup f4 = some ⟨oc4, od4, .func (PySem.W.fnOf "_height" "_height" (defArgs s_height) (defBody s_height) (defScope s_height) .none kV4 dc4 pm4 an4 cd4 ct4), sl4⟩) (c4 : PySem.W.codeIn K cd4 "_height" = true) (k4 : PySem.W.keepIn K (.ref f4) = true)
    {od5 an5 : Option Addr} {sl5 : Array (Option Value)} {oc5 kV5 dc5 pm5 cd5 ct5 : Value} {f5 : Addr}
    (a5 : PySem.W.nsIn K mainGlobals "_heights" = some (some (.ref f5))) (l5 : K.lookup f5 = some ⟨oc5, od5, .func (PySem.W.fnOf "_heights" "_heights" (defArgs s_heights) (defBody s_heights) (defScope s_heights) .none kV5 dc5 pm5 an5 cd5 ct5), sl5⟩) (c5 : PySem.W.codeIn K cd5 "_heights" = true) (k5 : PySem.W.keepIn K (.ref f5) = true)
    {od6 an6 : Option Addr} {sl6 : Array (Option Value)} {oc6 kV6 dc6 pm6 cd6 ct6 : Value} {f6 : Addr}
    (a6 : PySem.W.nsIn K mainGlobals "is_memory" = some (some (.ref f6))) (l6 : K.lookup f6 = some ⟨oc6, od6, .func (PySem.W.fnOf "is_memory" "is_memory" (defArgs sis_memory) (defBody sis_memory) (defScope sis_memory) .none kV6 dc6 pm6 an6 cd6 ct6), sl6⟩) (c6 : PySem.W.codeIn K cd6 "is_memory" = true) (k6 : PySem.W.keepIn K (.ref f6) = true)
    {od7 an7 : Option Addr} {sl7 : Array (Option Value)} {oc7 kV7 dc7 pm7 cd7 ct7 : Value} {f7 : Addr}
    (a7 : PySem.W.nsIn K mainGlobals "check_memory" = some (some (.ref f7))) (l7 : K.lookup f7 = some ⟨oc7, od7, .func (PySem.W.fnOf "check_memory" "check_memory" (defArgs scheck_memory) (defBody scheck_memory) (defScope scheck_memory) .none kV7 dc7 pm7 an7 cd7 ct7), sl7⟩) (c7 : PySem.W.codeIn K cd7 "check_memory" = true) (k7 : PySem.W.keepIn K (.ref f7) = true)
    {od8 an8 : Option Addr} {sl8 : Array (Option Value)} {oc8 kV8 dc8 pm8 cd8 ct8 : Value} {f8 : Addr}
    (a8 : PySem.W.nsIn K mainGlobals "check_levels" = some (some (.ref f8))) (l8 : K.lookup f8 = some ⟨oc8, od8, .func (PySem.W.fnOf "check_levels" "check_levels" (defArgs scheck_levels) (defBody scheck_levels) (defScope scheck_levels) .none kV8 dc8 pm8 an8 cd8 ct8), sl8⟩) (c8 : PySem.W.codeIn K cd8 "check_levels" = true) (k8 : PySem.W.keepIn K (.ref f8) = true)
    {od9 an9 : Option Addr} {sl9 : Array (Option Value)} {oc9 kV9 dc9 pm9 cd9 ct9 : Value} {f9 : Addr}
    (a9 : PySem.W.nsIn K mainGlobals "memory_after" = some (some (.ref f9))) (l9 : K.lookup f9 = some ⟨oc9, od9, .func (PySem.W.fnOf "memory_after" "memory_after" (defArgs smemory_after) (defBody smemory_after) (defScope smemory_after) .none kV9 dc9 pm9 an9 cd9 ct9), sl9⟩) (c9 : PySem.W.codeIn K cd9 "memory_after" = true) (k9 : PySem.W.keepIn K (.ref f9) = true)
    {od10 an10 : Option Addr} {sl10 : Array (Option Value)} {oc10 kV10 dc10 pm10 cd10 ct10 : Value} {f10 : Addr}
    (a10 : PySem.W.nsIn K mainGlobals "memory_of" = some (some (.ref f10))) (l10 : K.lookup f10 = some ⟨oc10, od10, .func (PySem.W.fnOf "memory_of" "memory_of" (defArgs smemory_of) (defBody smemory_of) (defScope smemory_of) .none kV10 dc10 pm10 an10 cd10 ct10), sl10⟩) (c10 : PySem.W.codeIn K cd10 "memory_of" = true) (k10 : PySem.W.keepIn K (.ref f10) = true)
    {od11 an11 : Option Addr} {sl11 : Array (Option Value)} {oc11 kV11 dc11 pm11 cd11 ct11 : Value} {f11 : Addr}
    (a11 : PySem.W.nsIn K mainGlobals "switches" = some (some (.ref f11))) (l11 : K.lookup f11 = some ⟨oc11, od11, .func (PySem.W.fnOf "switches" "switches" (defArgs sswitches) (defBody sswitches) (defScope sswitches) .none kV11 dc11 pm11 an11 cd11 ct11), sl11⟩) (c11 : PySem.W.codeIn K cd11 "switches" = true) (k11 : PySem.W.keepIn K (.ref f11) = true)
    {od12 an12 : Option Addr} {sl12 : Array (Option Value)} {oc12 kV12 dc12 pm12 cd12 ct12 : Value} {f12 : Addr}
    (a12 : PySem.W.nsIn K mainGlobals "switches_on" = some (some (.ref f12))) (l12 : K.lookup f12 = some ⟨oc12, od12, .func (PySem.W.fnOf "switches_on" "switches_on" (defArgs sswitches_on) (defBody sswitches_on) (defScope sswitches_on) .none kV12 dc12 pm12 an12 cd12 ct12), sl12⟩) (c12 : PySem.W.codeIn K cd12 "switches_on" = true) (k12 : PySem.W.keepIn K (.ref f12) = true)
    {od13 an13 : Option Addr} {sl13 : Array (Option Value)} {oc13 kV13 dc13 pm13 cd13 ct13 : Value} {f13 : Addr}
    (a13 : PySem.W.nsIn K mainGlobals "parting_switch" = some (some (.ref f13))) (l13 : K.lookup f13 = some ⟨oc13, od13, .func (PySem.W.fnOf "parting_switch" "parting_switch" (defArgs sparting_switch) (defBody sparting_switch) (defScope sparting_switch) .none kV13 dc13 pm13 an13 cd13 ct13), sl13⟩) (c13 : PySem.W.codeIn K cd13 "parting_switch" = true) (k13 : PySem.W.keepIn K (.ref f13) = true)
    {od14 an14 : Option Addr} {sl14 : Array (Option Value)} {oc14 kV14 dc14 pm14 cd14 ct14 : Value} {f14 : Addr}
    (a14 : PySem.W.nsIn K mainGlobals "_law_feed" = some (some (.ref f14))) (l14 : K.lookup f14 = some ⟨oc14, od14, .func (PySem.W.fnOf "_law_feed" "_law_feed" (defArgs s_law_feed) (defBody s_law_feed) (defScope s_law_feed) .none kV14 dc14 pm14 an14 cd14 ct14), sl14⟩) (c14 : PySem.W.codeIn K cd14 "_law_feed" = true) (k14 : PySem.W.keepIn K (.ref f14) = true)
    {od15 an15 : Option Addr} {sl15 : Array (Option Value)} {oc15 kV15 dc15 pm15 cd15 ct15 : Value} {f15 : Addr}
    (a15 : PySem.W.nsIn K mainGlobals "_law_take" = some (some (.ref f15))) (l15 : K.lookup f15 = some ⟨oc15, od15, .func (PySem.W.fnOf "_law_take" "_law_take" (defArgs s_law_take) (defBody s_law_take) (defScope s_law_take) .none kV15 dc15 pm15 an15 cd15 ct15), sl15⟩) (c15 : PySem.W.codeIn K cd15 "_law_take" = true) (k15 : PySem.W.keepIn K (.ref f15) = true)
    {od16 an16 : Option Addr} {sl16 : Array (Option Value)} {oc16 kV16 dc16 pm16 cd16 ct16 : Value} {f16 : Addr}
    (a16 : PySem.W.nsIn K mainGlobals "_law_pick" = some (some (.ref f16))) (l16 : K.lookup f16 = some ⟨oc16, od16, .func (PySem.W.fnOf "_law_pick" "_law_pick" (defArgs s_law_pick) (defBody s_law_pick) (defScope s_law_pick) .none kV16 dc16 pm16 an16 cd16 ct16), sl16⟩) (c16 : PySem.W.codeIn K cd16 "_law_pick" = true) (k16 : PySem.W.keepIn K (.ref f16) = true)
    {od17 an17 : Option Addr} {sl17 : Array (Option Value)} {oc17 kV17 dc17 pm17 cd17 ct17 : Value} {f17 : Addr}
    (a17 : PySem.W.nsIn K mainGlobals "_law_is_on" = some (some (.ref f17))) (l17 : K.lookup f17 = some ⟨oc17, od17, .func (PySem.W.fnOf "_law_is_on" "_law_is_on" (defArgs s_law_is_on) (defBody s_law_is_on) (defScope s_law_is_on) .none kV17 dc17 pm17 an17 cd17 ct17), sl17⟩) (c17 : PySem.W.codeIn K cd17 "_law_is_on" = true) (k17 : PySem.W.keepIn K (.ref f17) = true)
    {od18 an18 : Option Addr} {sl18 : Array (Option Value)} {oc18 kV18 dc18 pm18 cd18 ct18 : Value} {f18 : Addr}
    (a18 : PySem.W.nsIn K mainGlobals "_law_switches" = some (some (.ref f18))) (l18 : K.lookup f18 = some ⟨oc18, od18, .func (PySem.W.fnOf "_law_switches" "_law_switches" (defArgs s_law_switches) (defBody s_law_switches) (defScope s_law_switches) .none kV18 dc18 pm18 an18 cd18 ct18), sl18⟩) (c18 : PySem.W.codeIn K cd18 "_law_switches" = true) (k18 : PySem.W.keepIn K (.ref f18) = true)
    {od19 an19 : Option Addr} {sl19 : Array (Option Value)} {oc19 kV19 dc19 pm19 cd19 ct19 : Value} {f19 : Addr}
    (a19 : PySem.W.nsIn K mainGlobals "_law_memories" = some (some (.ref f19))) (l19 : K.lookup f19 = some ⟨oc19, od19, .func (PySem.W.fnOf "_law_memories" "_law_memories" (defArgs s_law_memories) (defBody s_law_memories) (defScope s_law_memories) .none kV19 dc19 pm19 an19 cd19 ct19), sl19⟩) (c19 : PySem.W.codeIn K cd19 "_law_memories" = true) (k19 : PySem.W.keepIn K (.ref f19) = true)
    {od20 an20 : Option Addr} {sl20 : Array (Option Value)} {oc20 kV20 dc20 pm20 cd20 ct20 : Value} {f20 : Addr}
    (a20 : PySem.W.nsIn K mainGlobals "_law_history" = some (some (.ref f20))) (l20 : K.lookup f20 = some ⟨oc20, od20, .func (PySem.W.fnOf "_law_history" "_law_history" (defArgs s_law_history) (defBody s_law_history) (defScope s_law_history) .none kV20 dc20 pm20 an20 cd20 ct20), sl20⟩) (c20 : PySem.W.codeIn K cd20 "_law_history" = true) (k20 : PySem.W.keepIn K (.ref f20) = true)
    {od21 an21 : Option Addr} {sl21 : Array (Option Value)} {oc21 kV21 dc21 pm21 cd21 ct21 : Value} {f21 : Addr}
    (a21 : PySem.W.nsIn K mainGlobals "_law_changed" = some (some (.ref f21))) (l21 : K.lookup f21 = some ⟨oc21, od21, .func (PySem.W.fnOf "_law_changed" "_law_changed" (defArgs s_law_changed) (defBody s_law_changed) (defScope s_law_changed) .none kV21 dc21 pm21 an21 cd21 ct21), sl21⟩) (c21 : PySem.W.codeIn K cd21 "_law_changed" = true) (k21 : PySem.W.keepIn K (.ref f21) = true)
    {od22 an22 : Option Addr} {sl22 : Array (Option Value)} {oc22 kV22 dc22 pm22 cd22 ct22 : Value} {f22 : Addr}
    (a22 : PySem.W.nsIn K mainGlobals "_law_parted" = some (some (.ref f22))) (l22 : K.lookup f22 = some ⟨oc22, od22, .func (PySem.W.fnOf "_law_parted" "_law_parted" (defArgs s_law_parted) (defBody s_law_parted) (defScope s_law_parted) .none kV22 dc22 pm22 an22 cd22 ct22), sl22⟩) (c22 : PySem.W.codeIn K cd22 "_law_parted" = true) (k22 : PySem.W.keepIn K (.ref f22) = true)
    {od23 an23 : Option Addr} {sl23 : Array (Option Value)} {oc23 kV23 dc23 pm23 cd23 ct23 : Value} {f23 : Addr}
    (a23 : PySem.W.nsIn K mainGlobals "_law_asked" = some (some (.ref f23))) (l23 : K.lookup f23 = some ⟨oc23, od23, .func (PySem.W.fnOf "_law_asked" "_law_asked" (defArgs s_law_asked) (defBody s_law_asked) (defScope s_law_asked) .none kV23 dc23 pm23 an23 cd23 ct23), sl23⟩) (c23 : PySem.W.codeIn K cd23 "_law_asked" = true) (k23 : PySem.W.keepIn K (.ref f23) = true)
    {od24 an24 : Option Addr} {sl24 : Array (Option Value)} {oc24 kV24 dc24 pm24 cd24 ct24 : Value} {f24 : Addr}
    (a24 : PySem.W.nsIn K mainGlobals "law" = some (some (.ref f24))) (l24 : K.lookup f24 = some ⟨oc24, od24, .func (PySem.W.fnOf "law" "law" (defArgs slaw) (defBody slaw) (defScope slaw) .none kV24 dc24 pm24 an24 cd24 ct24), sl24⟩) (c24 : PySem.W.codeIn K cd24 "law" = true) (k24 : PySem.W.keepIn K (.ref f24) = true)
    (z_len : PySem.W.nsIn K mainGlobals "len" = some none)
    (z_int : PySem.W.nsIn K mainGlobals "int" = some none)
    (z_bool : PySem.W.nsIn K mainGlobals "bool" = some none)
    (z_tuple : PySem.W.nsIn K mainGlobals "tuple" = some none)
    (z_list : PySem.W.nsIn K mainGlobals "list" = some none)
    (z_abs : PySem.W.nsIn K mainGlobals "abs" = some none)
    (z_max : PySem.W.nsIn K mainGlobals "max" = some none)
    (z_min : PySem.W.nsIn K mainGlobals "min" = some none)
    (z_range : PySem.W.nsIn K mainGlobals "range" = some none)
    (z_zip : PySem.W.nsIn K mainGlobals "zip" = some none)
    (z_enumerate : PySem.W.nsIn K mainGlobals "enumerate" = some none)
    (z_isinstance : PySem.W.nsIn K mainGlobals "isinstance" = some none)
    (z_sorted : PySem.W.nsIn K mainGlobals "sorted" = some none)
    (z_all : PySem.W.nsIn K mainGlobals "all" = some none)
    (z_repr : PySem.W.nsIn K mainGlobals "repr" = some none)
    (gC : PySem.W.nsIn K mainGlobals "BadMemory" = some (some (.ref C))) (xC : PySem.W.excIn K C [.type "ValueError", .type "Exception", .type "BaseException", .type "object"] "ValueError.__new__" = true)
    (kC : PySem.W.keepIn K (.ref C) = true) (bC : PySem.W.subIn K (.ref C) (.type "BaseException") = some true) (tC : PySem.W.typeIn K (.ref C) = some (.type "type")) (iC : PySem.W.isClsIn K C = true) (sC : PySem.W.subIn K (.ref C) (.ref C) = some true)
    {D fI N1 : Addr} {nm1 q1 : Str} {bs1 bm1 sub1 : List Value} {sn1 : List Str} {ab1 : Bool} {col1 : Option Bool} {dd1 : Option Addr} {m0 m1 m2 m3 m5 : Option Value} {odI anI : Option Addr} {slI : Array (Option Value)} {ocI kVI dcI pmI cdI ctI : Value}
    (gD : PySem.W.nsIn K mainGlobals "BadLevels" = some (some (.ref D))) (xD : K.lookup D = some (PySem.excClassObj nm1 q1 D N1 bs1 bm1 true sn1 sub1 ab1 col1 dd1 m0 m1 m2 m3 m5 "ValueError.__new__")) (rD : PySem.HandSPX.refsVE bm1 = true)
    (saD : PySem.W.findIn K (.ref D) "__setattr__" = some (some (.builtin "object.__setattr__"))) (gaD : PySem.W.findIn K (.ref D) "__getattribute__" = some (some (.builtin "BaseException.__getattribute__"))) (ggD : PySem.W.findIn K (.ref D) "__getattr__" = some none)
    (noD : PySem.W.findIn K (.ref D) "index" = some none) (inD : PySem.W.findIn K (.ref D) "__init__" = some (some (.ref fI))) (tfD : PySem.W.typeIn K (.ref fI) = some (.type "function")) (kD : PySem.W.keepIn K (.ref D) = true) (bD : PySem.W.subIn K (.ref D) (.type "BaseException") = some true)
    (tD : PySem.W.typeIn K (.ref D) = some (.type "type")) (hD : PySem.W.hasDictIn K D = true) (iD : PySem.W.isClsIn K D = true) (sD : PySem.W.subIn K (.ref D) (.ref D) = some true)
    (lI : K.lookup fI = some ⟨ocI, odI, .func (PySem.W.fnOf "__init__" "BadLevels.__init__" (defArgs sinit) (defBody sinit) (defScope sinit) .none kVI dcI pmI anI cdI ctI), slI⟩) (cI : PySem.W.codeIn K cdI "BadLevels.__init__" = true) (kI : PySem.W.keepIn K (.ref fI) = true) :
    ∃ fd : FuncData, (∀ (s : Shared) (v : Value), BindsTo s fd ⟨[v], []⟩ [("script", v)]) ∧ ∀ base : Heap, K.In base → base.Ns mainGlobals mg → FnG l.prog w K mg base CX0 9 fa fd ["script"] (spLaw K) := by
  have e := hfa.symm.trans (PySem.W.mg_of X G a24)
  cases e
  have T : Txt K mg C := ⟨PySem.W.mg_none_of X G z_len, PySem.W.mg_none_of X G z_int, PySem.W.mg_none_of X G z_bool, PySem.W.mg_none_of X G z_tuple, PySem.W.mg_none_of X G z_list, PySem.W.mg_none_of X G z_abs, PySem.W.mg_none_of X G z_max, PySem.W.mg_none_of X G z_min, PySem.W.mg_none_of X G z_range, PySem.W.mg_none_of X G z_zip, PySem.W.mg_none_of X G z_enumerate, PySem.W.mg_none_of X G z_isinstance, PySem.W.mg_none_of X G z_sorted, PySem.W.mg_none_of X G z_all, PySem.W.mg_none_of X G z_repr, PySem.W.mg_of X G gC, xC, kC, bC, tC, own_exm bC iC tC sC⟩
  have L : TxtL K mg D := ⟨PySem.W.mg_of X G gD, own_exm bD iD tD sD, ⟨gaD, ggD, bD, hD⟩, noD⟩
  have O : OexC K D := ⟨⟨_, _, _, _, _, _, _, _, _, _, _, _, _, _, _, xD, rD⟩, saD, bD, tD, kD⟩
  have FI := fun_mk (st := sinit) lI cI kI
  have bI := FI.binds (ps := ["self", "index"]) fun _ _ _ _ _ _ us hl => match us, hl with | [_, _], _ => rfl
  have F0 := fun_mk (st := sis_integer) l0 c0 k0
  have b0 := F0.binds (ps := ["value"]) fun _ _ _ _ _ _ us hl => match us, hl with | [_], _ => rfl
  have F1 := fun_mk (st := sis_level) l1 c1 k1
  have b1 := F1.binds (ps := ["top", "value"]) fun _ _ _ _ _ _ us hl => match us, hl with | [_, _], _ => rfl
  have F2 := fun_mk (st := smoved) l2 c2 k2
  have b2 := F2.binds (ps := ["memory", "level"]) fun _ _ _ _ _ _ us hl => match us, hl with | [_, _], _ => rfl
  have F3 := fun_mk (st := s_followed) l3 c3 k3
  have b3 := F3.binds (ps := ["memory", "levels"]) fun _ _ _ _ _ _ us hl => match us, hl with | [_, _], _ => rfl
  have F4 := fun_mk (st := s_height) l4 c4 k4
  have b4 := F4.binds (ps := ["memory", "down"]) fun _ _ _ _ _ _ us hl => match us, hl with | [_, _], _ => rfl
  have F5 := fun_mk (st := s_heights) l5 c5 k5
  have b5 := F5.binds (ps := ["top", "memory"]) fun _ _ _ _ _ _ us hl => match us, hl with | [_, _], _ => rfl
  have F6 := fun_mk (st := sis_memory) l6 c6 k6
  have b6 := F6.binds (ps := ["top", "value"]) fun _ _ _ _ _ _ us hl => match us, hl with | [_, _], _ => rfl
  have F7 := fun_mk (st := scheck_memory) l7 c7 k7
  have b7 := F7.binds (ps := ["top", "memory"]) fun _ _ _ _ _ _ us hl => match us, hl with | [_, _], _ => rfl
  have F8 := fun_mk (st := scheck_levels) l8 c8 k8
  have b8 := F8.binds (ps := ["top", "levels"]) fun _ _ _ _ _ _ us hl => match us, hl with | [_, _], _ => rfl
  have F9 := fun_mk (st := smemory_after) l9 c9 k9
  have b9 := F9.binds (ps := ["top", "memory", "levels"]) fun _ _ _ _ _ _ us hl => match us, hl with | [_, _, _], _ => rfl
  have F10 := fun_mk (st := smemory_of) l10 c10 k10
  have b10 := F10.binds (ps := ["top", "history"]) fun _ _ _ _ _ _ us hl => match us, hl with | [_, _], _ => rfl
  have F11 := fun_mk (st := sswitches) l11 c11 k11
  have b11 := F11.binds (ps := ["top"]) fun _ _ _ _ _ _ us hl => match us, hl with | [_], _ => rfl
  have F12 := fun_mk (st := sswitches_on) l12 c12 k12
  have b12 := F12.binds (ps := ["top", "memory"]) fun _ _ _ _ _ _ us hl => match us, hl with | [_, _], _ => rfl
  have F13 := fun_mk (st := sparting_switch) l13 c13 k13
  have b13 := F13.binds (ps := ["top", "first", "second"]) fun _ _ _ _ _ _ us hl => match us, hl with | [_, _, _], _ => rfl
  have F14 := fun_mk (st := s_law_feed) l14 c14 k14
  have b14 := F14.binds (ps := ["script", "k"]) fun _ _ _ _ _ _ us hl => match us, hl with | [_, _], _ => rfl
  have F15 := fun_mk (st := s_law_take) l15 c15 k15
  have b15 := F15.binds (ps := ["feed", "size"]) fun _ _ _ _ _ _ us hl => match us, hl with | [_, _], _ => rfl
  have F16 := fun_mk (st := s_law_pick) l16 c16 k16
  have b16 := F16.binds (ps := ["feed", "things"]) fun _ _ _ _ _ _ us hl => match us, hl with | [_, _], _ => rfl
  have F17 := fun_mk (st := s_law_is_on) l17 c17 k17
  have b17 := F17.binds (ps := ["switch", "levels"]) fun _ _ _ _ _ _ us hl => match us, hl with | [_, _], _ => rfl
  have F18 := fun_mk (st := s_law_switches) l18 c18 k18
  have b18 := F18.binds (ps := ["top"]) fun _ _ _ _ _ _ us hl => match us, hl with | [_], _ => rfl
  have F19 := fun_mk (st := s_law_memories) l19 c19 k19
  have b19 := F19.binds (ps := ["top"]) fun _ _ _ _ _ _ us hl => match us, hl with | [_], _ => rfl
  have F20 := fun_mk (st := s_law_history) l20 c20 k20
  have b20 := F20.binds (ps := ["feed", "top", "most"]) fun _ _ _ _ _ _ us hl => match us, hl with | [_, _, _], _ => rfl
  have F21 := fun_mk (st := s_law_changed) l21 c21 k21
  have b21 := F21.binds (ps := ["feed", "top", "history"]) fun _ _ _ _ _ _ us hl => match us, hl with | [_, _, _], _ => rfl
  have F22 := fun_mk (st := s_law_parted) l22 c22 k22
  have b22 := F22.binds (ps := ["top", "first", "second"]) fun _ _ _ _ _ _ us hl => match us, hl with | [_, _, _], _ => rfl
  have F23 := fun_mk (st := s_law_asked) l23 c23 k23
  have b23 := F23.binds (ps := ["top", "first", "second"]) fun _ _ _ _ _ _ us hl => match us, hl with | [_, _, _], _ => rfl
  have F24 := fun_mk (st := slaw) l24 c24 k24
  have b24 := F24.binds (ps := ["script"]) fun _ _ _ _ _ _ us hl => match us, hl with | [_], _ => rfl
  refine ⟨PySem.W.fnOf "law" "law" (defArgs slaw) (defBody slaw) (defScope slaw) .none kV24 dc24 pm24 an24 cd24 ct24, fun s v => .of_eq rfl, fun base _ _ => ?_⟩
  have DBadLevels : OwnIx l.prog w K mg base "BadLevels" D := own_mk FI bI O noD inD tfD (PySem.W.mg_of X G gD)
  have Dis_integer : Def l.prog w K mg base CX0 1 "is_integer" ["value"] (spIsInteger K) := def_mk F0 (PySem.W.mg_of X G a0) b0 (ok_is_integer F0 T )
  have Dis_level : Def l.prog w K mg base CX0 2 "is_level" ["top", "value"] (spIsLevel K) := def_mk F1 (PySem.W.mg_of X G a1) b1 (ok_is_level F1 T Dis_integer)
  have Dmoved : Def l.prog w K mg base CX0 1 "moved" ["memory", "level"] (spMoved K) := def_mk F2 (PySem.W.mg_of X G a2) b2 (okmoved F2 T )
  have D_followed : Def l.prog w K mg base CX0 2 "_followed" ["memory", "levels"] (spFollowed K) := def_mk F3 (PySem.W.mg_of X G a3) b3 (ok_followed F3 T Dmoved)
  have D_height : Def l.prog w K mg base CX0 1 "_height" ["memory", "down"] (spHeight K) := def_mk F4 (PySem.W.mg_of X G a4) b4 (ok_height F4 T )
  have D_heights : Def l.prog w K mg base CX0 2 "_heights" ["top", "memory"] (spHeights K) := def_mk F5 (PySem.W.mg_of X G a5) b5 (ok_heights F5 T D_height)
  have Dis_memory : Def l.prog w K mg base CX0 3 "is_memory" ["top", "value"] (spIsMemory K) := def_mk F6 (PySem.W.mg_of X G a6) b6 (ok_is_memory F6 T Dis_level D_followed)
  have Dcheck_memory : Def l.prog w K mg base (L2.CX l.prog w) 4 "check_memory" ["top", "memory"] (spCheckMemory K C) := def_mk F7 (PySem.W.mg_of X G a7) b7 (ok_check_memory F7 T Dis_memory)
  have Dcheck_levels : Def l.prog w K mg base (L2.CX l.prog w) 3 "check_levels" ["top", "levels"] (spCheckLevels K D) := def_mk F8 (PySem.W.mg_of X G a8) b8 (ok_check_levels F8 T Dis_level DBadLevels)
  have Dmemory_after : Def l.prog w K mg base (L2.CX l.prog w) 5 "memory_after" ["top", "memory", "levels"] (spAfter K C D) := def_mk F9 (PySem.W.mg_of X G a9) b9 (ok_after F9 T Dcheck_memory Dcheck_levels D_followed)
  have Dmemory_of : Def l.prog w K mg base (L2.CX l.prog w) 6 "memory_of" ["top", "history"] (spOf K D) := def_mk F10 (PySem.W.mg_of X G a10) b10 (ok_of F10 T Dmemory_after)
  have Dswitches : Def l.prog w K mg base CX0 1 "switches" ["top"] (spSwitches K) := def_mk F11 (PySem.W.mg_of X G a11) b11 (ok_psw F11 T )
  have Dswitches_on : Def l.prog w K mg base (L2.CX l.prog w) 5 "switches_on" ["top", "memory"] (spOnP K C) := def_mk F12 (PySem.W.mg_of X G a12) b12 (ok_pon F12 T Dcheck_memory D_heights Dswitches)
  have Dparting_switch : Def l.prog w K mg base (L2.CX l.prog w) 7 "parting_switch" ["top", "first", "second"] (spPart K D) := def_mk F13 (PySem.W.mg_of X G a13) b13 (ok_part F13 T Dswitches_on Dmemory_of Dswitches)
  have D_law_feed : Def l.prog w K mg base CX0 1 "_law_feed" ["script", "k"] (spFeed K) := def_mk F14 (PySem.W.mg_of X G a14) b14 (ok_feed F14 T )
  have D_law_take : Def l.prog w K mg base CX0 1 "_law_take" ["feed", "size"] spTake := def_mk F15 (PySem.W.mg_of X G a15) b15 (ok_take F15 T )
  have D_law_pick : Def l.prog w K mg base CX0 2 "_law_pick" ["feed", "things"] (spPick K) := def_mk F16 (PySem.W.mg_of X G a16) b16 (ok_pick F16 T D_law_take)
  have D_law_is_on : Def l.prog w K mg base CX0 1 "_law_is_on" ["switch", "levels"] (spIsOn K) := def_mk F17 (PySem.W.mg_of X G a17) b17 (ok_is_on F17 T )
  have D_law_switches : Def l.prog w K mg base CX0 1 "_law_switches" ["top"] (spSwitches K) := def_mk F18 (PySem.W.mg_of X G a18) b18 (ok_switches F18 T )
  have D_law_memories : Def l.prog w K mg base CX0 1 "_law_memories" ["top"] (spMemories K) := def_mk F19 (PySem.W.mg_of X G a19) b19 (ok_memories F19 T )
  have D_law_history : Def l.prog w K mg base CX0 2 "_law_history" ["feed", "top", "most"] spHist := def_mk F20 (PySem.W.mg_of X G a20) b20 (ok_hist F20 T (take_n D_law_take))
  have D_law_changed : Def l.prog w K mg base CX0 3 "_law_changed" ["feed", "top", "history"] spChanged := def_mk F21 (PySem.W.mg_of X G a21) b21 (ok_changed F21 T (take_n D_law_take) (pick_n D_law_pick) D_law_history)
  have D_law_parted : Def l.prog w K mg base CX0 2 "_law_parted" ["top", "first", "second"] (spParted (K := K)) := def_mk F22 (PySem.W.mg_of X G a22) b22 (ok_parted F22 T D_law_switches D_law_is_on)
  have D_law_asked : Def l.prog w K mg base CX0 8 "_law_asked" ["top", "first", "second"] (spAsked K) := def_mk F23 (PySem.W.mg_of X G a23) b23 (ok_asked F23 T L Dparting_switch)
  exact ok_law F24 T D_law_feed (take_n D_law_take) (pick_n D_law_pick) D_law_switches D_law_is_on D_law_memories D_law_history D_law_changed D_law_parted (asked_n D_law_asked) Dswitches_on
theorem walk {l : PySem.W.OpenLaw} {q : Program} {loose : List Str} {XP : (Str → Option Value) → Heap → Prop} {YP : World → Heap → Prop} {d : DefRec} {K : Params → PySem.W.Frag} (hn : l.most = some 63) (hdf : d.params.defaults = [])
    (hY : ∀ (w : World) (h : Heap), YP w h → (K w.params).In h)
    (F : ∀ (w : World) (mg : Str → Option Value) (fa : Addr) (h : Heap), (K w.params).In h → h.Ns mainGlobals mg → mg d.name = some (.ref fa) →
      ∃ fd : FuncData, (∀ (s : Shared) (u : Value), BindsTo s fd ⟨[u], []⟩ [("script", u)]) ∧ ∀ base : Heap, (K w.params).In base → base.Ns mainGlobals mg → FnG l.prog w (K w.params) mg base CX0 9 fa fd ["script"] (spLaw (K w.params))) :
    PySem.W.WalkO q loose XP YP l.row.toRowW d [] (fun f vs => PySem.call f vs) :=
  VK.walk_g (n := 63) (k := 9) (x := "script") (CX := fun _ => CX0) (sp := fun w => spLaw (K w.params)) hn (by decide) hdf ⟨rfl, by decide, by decide⟩ hY F (fun _ _ a ns hl _ hS => ⟨a, ns, rfl, hS, hl, fun _ => rfl⟩) fun _ _ _ _ _ z => z
end My
open PySem PySem.W PyProof.Rows
set_option maxRecDepth 100000 in
set_option maxHeartbeats 0 in
theorem PySem.Challenge.cw_turnweights_k12_switches_on_and_parting_holds : PySem.Challenge.rw_turnweights_k12_switches_on_and_parting.Holds := by
  w_on; o_law; k_head; (case hw => w_witness2)
  k_fill
  refine My.walk (l := PySem.Challenge.rw_turnweights_k12_switches_on_and_parting) rfl rfl (fun w h Y => PySem.W.kIn_of Y) ?F
  case F =>
    intro w mg fa h KX G hmg
    refine' My.all_mk KX G hmg ?a0 ?l0 ?c0 ?k0 ?a1 ?l1 ?c1 ?k1 ?a2 ?l2 ?c2 ?k2 ?a3 ?l3 ?c3 ?k3 ?a4 ?l4 ?c4 ?k4 ?a5 ?l5 ?c5 ?k5 ?a6 ?l6 ?c6 ?k6 ?a7 ?l7 ?c7 ?k7 ?a8 ?l8 ?c8 ?k8 ?a9 ?l9 ?c9 ?k9 ?a10 ?l10 ?c10 ?k10 ?a11 ?l11 ?c11 ?k11 ?a12 ?l12 ?c12 ?k12 ?a13 ?l13 ?c13 ?k13 ?a14 ?l14 ?c14 ?k14 ?a15 ?l15 ?c15 ?k15 ?a16 ?l16 ?c16 ?k16 ?a17 ?l17 ?c17 ?k17 ?a18 ?l18 ?c18 ?k18 ?a19 ?l19 ?c19 ?k19 ?a20 ?l20 ?c20 ?k20 ?a21 ?l21 ?c21 ?k21 ?a22 ?l22 ?c22 ?k22 ?a23 ?l23 ?c23 ?k23 ?a24 ?l24 ?c24 ?k24 ?z_len ?z_int ?z_bool ?z_tuple ?z_list ?z_abs ?z_max ?z_min ?z_range ?z_zip ?z_enumerate ?z_isinstance ?z_sorted ?z_all ?z_repr ?gC ?xC ?kC ?bC ?tC ?iC ?sC ?gD ?xD ?rD ?saD ?gaD ?ggD ?noD ?inD ?tfD ?kD ?bD ?tD ?hD ?iD ?sD ?lI ?cI ?kI
    (case a0 => k_is)
    (case l0 => k_is)
    (case c0 => k_is)
    (case k0 => k_is)
    (case a1 => k_is)
    (case l1 => k_is)
    (case c1 => k_is)
    (case k1 => k_is)
    (case a2 => k_is)
    (case l2 => k_is)
    (case c2 => k_is)
    (case k2 => k_is)
    (case a3 => k_is)
    (case l3 => k_is)
    (case c3 => k_is)
    (case k3 => k_is)
    (case a4 => k_is)
    (case l4 => k_is)
    (case c4 => k_is)
    (case k4 => k_is)
    (case a5 => k_is)
    (case l5 => k_is)
    (case c5 => k_is)
    (case k5 => k_is)
    (case a6 => k_is)
    (case l6 => k_is)
    (case c6 => k_is)
    (case k6 => k_is)
    (case a7 => k_is)
    (case l7 => k_is)
    (case c7 => k_is)
    (case k7 => k_is)
    (case a8 => k_is)
    (case l8 => k_is)
    (case c8 => k_is)
    (case k8 => k_is)
    (case a9 => k_is)
    (case l9 => k_is)
    (case c9 => k_is)
    (case k9 => k_is)
    (case a10 => k_is)
    (case l10 => k_is)
    (case c10 => k_is)
    (case k10 => k_is)
    (case a11 => k_is)
    (case l11 => k_is)
    (case c11 => k_is)
    (case k11 => k_is)
    (case a12 => k_is)
    (case l12 => k_is)
    (case c12 => k_is)
    (case k12 => k_is)
    (case a13 => k_is)
    (case l13 => k_is)
    (case c13 => k_is)
    (case k13 => k_is)
    (case a14 => k_is)
    (case l14 => k_is)
    (case c14 => k_is)
    (case k14 => k_is)
    (case a15 => k_is)
    (case l15 => k_is)
    (case c15 => k_is)
    (case k15 => k_is)
    (case a16 => k_is)
    (case l16 => k_is)
    (case c16 => k_is)
    (case k16 => k_is)
    (case a17 => k_is)
    (case l17 => k_is)
    (case c17 => k_is)
    (case k17 => k_is)
    (case a18 => k_is)
    (case l18 => k_is)
    (case c18 => k_is)
    (case k18 => k_is)
    (case a19 => k_is)
    (case l19 => k_is)
    (case c19 => k_is)
    (case k19 => k_is)
    (case a20 => k_is)
    (case l20 => k_is)
    (case c20 => k_is)
    (case k20 => k_is)
    (case a21 => k_is)
    (case l21 => k_is)
    (case c21 => k_is)
    (case k21 => k_is)
    (case a22 => k_is)
    (case l22 => k_is)
    (case c22 => k_is)
    (case k22 => k_is)
    (case a23 => k_is)
    (case l23 => k_is)
    (case c23 => k_is)
    (case k23 => k_is)
    (case a24 => k_is)
    (case l24 => k_is)
    (case c24 => k_is)
    (case k24 => k_is)
    (case z_len => k_is)
    (case z_int => k_is)
    (case z_bool => k_is)
    (case z_tuple => k_is)
    (case z_list => k_is)
    (case z_abs => k_is)
    (case z_max => k_is)
    (case z_min => k_is)
    (case z_range => k_is)
    (case z_zip => k_is)
    (case z_enumerate => k_is)
    (case z_isinstance => k_is)
    (case z_sorted => k_is)
    (case z_all => k_is)
    (case z_repr => k_is)
    (case gC => k_is)
    (case xC => k_exc)
    (case kC => k_is)
    (case bC => k_is)
    (case tC => k_is)
    (case iC => k_is)
    (case sC => first | rfl | k_is)
    (case gD => k_is)
    (case xD => k_is)
    (case rD => decide +kernel)
    (case saD => k_is)
    (case gaD => k_is)
    (case ggD => k_is)
    (case noD => k_is)
    (case inD => k_is)
    (case tfD => k_is)
    (case kD => k_is)
    (case bD => k_is)
    (case tD => k_is)
    (case hD => k_is)
    (case iD => k_is)
    (case sD => first | rfl | k_is)
    (case lI => k_is)
    (case cI => k_is)
    (case kI => k_is)
#print axioms PySem.Challenge.cw_turnweights_k12_switches_on_and_parting_holds
