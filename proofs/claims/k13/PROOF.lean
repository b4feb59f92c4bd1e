import PyProof.Rows.All
import Wide.All
import OpenK.AllK
import Wide.FinOn
import HandS.ForMost
import HandS.Exc
import HandS.ExcOwn
import HandS.Zip
import HandS.TupAny
import HandS.Deep
import HandS.IsInst
import HandS.WordsExc
import HandS.WordsList
import KE.GoesEnum
import KE.KDictZip
import KE.SortData
import KE.DataMinMax
import HandS.TryOnly
import PySem.Challenge.RW_turnweights_k13_memories_joined_and_met
set_option Elab.async false
set_option linter.all false
set_option maxRecDepth 100000
set_option maxHeartbeats 8000000
namespace VM
/-! ### memories, as lists of naturals -/
def wiped (i e l : Nat) : Bool := if i % 2 = 1 then decide (l ≤ e) else decide (e ≤ l)
def cut (l : Nat) : Nat → List Nat → List Nat
  | _, [] => [l]
  | i, e :: r => if wiped i e l then [l] else e :: cut l (i + 1) r
def moved (m : List Nat) (l : Nat) : List Nat := if l = 0 then [] else cut l 0 m
def followed (m ls : List Nat) : List Nat := ls.foldl moved m
def hstep (d h l : Nat) : Nat := if d < l then (if h < l then l else h) else 0
def height (m : List Nat) (d : Nat) : Nat := m.foldl (hstep d) 0
def heights (top : Nat) (m : List Nat) : List Nat := (List.range top).map (height m)
def mstep (s : List Nat × Nat) (p : Nat × Nat) : List Nat × Nat := if 0 < p.1 then (s.1 ++ [p.2, p.1], p.2 + 1) else s
def memOf (hs : List Nat) : List Nat := let s := hs.zipIdx.foldl mstep ([], 0); followed [] (s.1 ++ [s.2])
def isOn (u d : Nat) (ls : List Nat) : Bool := ls.foldl (fun b l => if l ≤ d then false else if u ≤ l then true else b) false
def switches (top : Nat) : List (List Nat) := ((List.range top).map fun u => (List.range (u + 1)).map fun d => [u + 1, d]).flatten
def on (top : Nat) (ls : List Nat) : List (List Nat) := (switches top).filter fun s => isOn (s.getD 0 0) (s.getD 1 0) ls
/-! the law's memories -/
def lots : Nat → List (List Nat)
  | 0 => [[]]
  | n + 1 => lots n ++ (lots n).map (· ++ [n + 1])
def entries : Nat → Nat → List Nat → List Nat
  | 0, _, _ => []
  | _ + 1, _, [] => []
  | f + 1, i, e :: r => if i % 2 = 0 then ((e :: r).getLastD 0) :: entries f (i + 1) ((e :: r).dropLast) else e :: entries f (i + 1) r
def ent (lot : List Nat) : List Nat := entries lot.length 0 lot
def msOf (top : Nat) : List (List Nat) := (lots top).map ent
def code (hs : List Nat) : Nat := hs.foldl (fun c h => 8 * c + h) 0
/-- the height vectors of all memories are closed under max and min, and lead back to their memories -/
def closed (top : Nat) : Bool :=
  let hs := (msOf top).map (heights top)
  let cs := hs.map code
  hs.all fun a => hs.all fun b => cs.contains (code (List.zipWith max a b)) && cs.contains (code (List.zipWith min a b))
def back (top : Nat) : Bool := (msOf top).all fun a => memOf (heights top a) == a && followed [] a == a && (heights top a).all (· < 8) && a.all fun l => decide (l ≤ top)
theorem closed1 : closed 1 = true := by decide +kernel
theorem closed2 : closed 2 = true := by decide +kernel
theorem closed3 : closed 3 = true := by decide +kernel
theorem closed4 : closed 4 = true := by decide +kernel
theorem closed5 : closed 5 = true := by decide +kernel
theorem closed6 : closed 6 = true := by decide +kernel
theorem back1 : back 1 = true := by decide +kernel
theorem back2 : back 2 = true := by decide +kernel
theorem back3 : back 3 = true := by decide +kernel
theorem back4 : back 4 = true := by decide +kernel
theorem back5 : back 5 = true := by decide +kernel
theorem back6 : back 6 = true := by decide +kernel
end VM
namespace VM
theorem cut_at : ∀ (m : List Nat) (k i e l : Nat), (∀ j x, j < i → m[j]? = some x → wiped (k + j) x l = false) → m[i]? = some e → wiped (k + i) e l = true → cut l k m = m.take i ++ [l]
  | [], k, i, e, l, _, h, _ => by simp at h
  | x :: r, k, 0, e, l, _, h, hw => by
    have : x = e := by simpa using h
    subst this
    simp only [Nat.add_zero] at hw
    simp [cut, hw]
  | x :: r, k, i + 1, e, l, hn, h, hw => by
    have h0 : wiped k x l = false := by simpa using hn 0 x (by omega) (by simp)
    have ih := cut_at r (k + 1) i e l (fun j y hj hy => by
      have := hn (j + 1) y (by omega) (by simpa using hy)
      rw [show k + 1 + j = k + (j + 1) by omega]
      exact this) (by simpa using h) (by rw [show k + 1 + i = k + (i + 1) by omega]; exact hw)
    simp [cut, h0, ih]
theorem cut_none : ∀ (m : List Nat) (k l : Nat), (∀ j x, m[j]? = some x → wiped (k + j) x l = false) → cut l k m = m ++ [l]
  | [], k, l, _ => rfl
  | x :: r, k, l, hn => by
    have h0 : wiped k x l = false := by simpa using hn 0 x (by simp)
    have ih := cut_none r (k + 1) l (fun j y hy => by
      have := hn (j + 1) y (by simpa using hy)
      rw [show k + 1 + j = k + (j + 1) by omega]
      exact this)
    simp [cut, h0, ih]
theorem cut_len : ∀ (m : List Nat) (k l : Nat), (cut l k m).length ≤ m.length + 1
  | [], _, _ => Nat.le_refl _
  | x :: r, k, l => by
    have := cut_len r (k + 1) l
    unfold cut
    split <;> simp <;> omega
theorem moved_len (m : List Nat) (l : Nat) : (moved m l).length ≤ m.length + 1 := by
  unfold moved
  split
  · simp
  · exact cut_len _ _ _
theorem cut_le {b : Nat} : ∀ (m : List Nat) (k l : Nat), (∀ x ∈ m, x ≤ b) → l ≤ b → ∀ x ∈ cut l k m, x ≤ b
  | [], _, l, _, hl, x, hx => by simp [cut] at hx; omega
  | y :: r, k, l, h, hl, x, hx => by
    unfold cut at hx
    split at hx
    · simp at hx; omega
    · rcases List.mem_cons.mp hx with rfl | hx
      · exact h _ (by simp)
      · exact cut_le r (k + 1) l (fun z hz => h z (by simp [hz])) hl x hx
theorem moved_le {b : Nat} (m : List Nat) (l : Nat) (h : ∀ x ∈ m, x ≤ b) (hl : l ≤ b) : ∀ x ∈ moved m l, x ≤ b := by
  unfold moved
  split
  · simp
  · exact cut_le m 0 l h hl
theorem followed_snoc (m ls : List Nat) (l : Nat) : followed m (ls ++ [l]) = moved (followed m ls) l := by simp [followed]
theorem followed_len : ∀ (ls m : List Nat), (followed m ls).length ≤ m.length + ls.length
  | [], m => by simp [followed]
  | l :: r, m => by
    have h1 := followed_len r (moved m l)
    have h2 := moved_len m l
    show (followed (moved m l) r).length ≤ _
    simp only [List.length_cons]
    omega
theorem take_succ {α : Type} {l : List α} {i : Nat} {x : α} (h : l[i]? = some x) : l.take (i + 1) = l.take i ++ [x] := by
  rw [List.take_add_one, h]
  rfl
theorem followed_take {m ls : List Nat} {i l : Nat} (h : ls[i]? = some l) : followed m (ls.take (i + 1)) = moved (followed m (ls.take i)) l := by
  rw [take_succ h, followed_snoc]
theorem height_snoc (m : List Nat) (d l : Nat) : height (m ++ [l]) d = hstep d (height m d) l := by simp [height]
theorem height_take {m : List Nat} {i d l : Nat} (h : m[i]? = some l) : height (m.take (i + 1)) d = hstep d (height (m.take i) d) l := by
  rw [take_succ h, height_snoc]
theorem hstep_le {d h l b : Nat} (hh : h ≤ b) (hl : l ≤ b) : hstep d h l ≤ b := by
  unfold hstep
  split
  · split <;> omega
  · omega
theorem height_le {b : Nat} (d : Nat) : ∀ (ls : List Nat) , (∀ x ∈ ls, x ≤ b) → height ls d ≤ b := by
  intro ls h
  unfold height
  have g : ∀ (ls : List Nat) (s : Nat), (∀ x ∈ ls, x ≤ b) → s ≤ b → ls.foldl (hstep d) s ≤ b := by
    intro ls
    induction ls with
    | nil => intro s _ hs; exact hs
    | cons x r ih => intro s h hs; exact ih _ (fun y hy => h y (by simp [hy])) (hstep_le hs (h x (by simp)))
  exact g ls 0 h (Nat.zero_le _)
def ostep (u d : Nat) (b : Bool) (l : Nat) : Bool := if l ≤ d then false else if u ≤ l then true else b
theorem isOn_take {u d l i : Nat} {ls : List Nat} (h : ls[i]? = some l) : isOn u d (ls.take (i + 1)) = ostep u d (isOn u d (ls.take i)) l := by
  rw [take_succ h]
  simp [isOn, ostep]
theorem isOn_height {u d : Nat} (hd : d < u) (ls : List Nat) : isOn u d ls = decide (u ≤ height ls d) := by
  have g : ∀ (ls : List Nat) (b : Bool) (h : Nat), b = decide (u ≤ h) → ls.foldl (fun b l => if l ≤ d then false else if u ≤ l then true else b) b = decide (u ≤ ls.foldl (hstep d) h) := by
    intro ls
    induction ls with
    | nil => intro b h e; exact e
    | cons l r ih =>
      intro b h e
      refine ih _ _ ?_
      unfold hstep
      by_cases c1 : l ≤ d
      · have n1 : ¬ d < l := by omega
        have n2 : ¬ u ≤ 0 := by omega
        simp [c1, n1, n2]
      · have n1 : d < l := by omega
        by_cases c2 : u ≤ l
        · have : u ≤ (if h < l then l else h) := by split <;> omega
          simp [c1, n1, c2, this]
        · have : decide (u ≤ (if h < l then l else h)) = decide (u ≤ h) := by
            split
            · have a : ¬ u ≤ h := by omega
              simp [a, c2]
            · rfl
          simp [c1, n1, c2, this, e]
  exact g ls false 0 (by
    have : ¬ u ≤ 0 := by omega
    simp [this])
theorem mem_switches {top : Nat} {s : List Nat} : s ∈ switches top ↔ ∃ u d, s = [u, d] ∧ d < u ∧ u ≤ top := by
  unfold switches
  simp only [List.mem_flatten, List.mem_map, List.mem_range]
  constructor
  · rintro ⟨l, ⟨u, hu, rfl⟩, hs⟩
    simp only [List.mem_map, List.mem_range] at hs
    obtain ⟨d, hd, rfl⟩ := hs
    exact ⟨u + 1, d, rfl, by omega, by omega⟩
  · rintro ⟨u, d, rfl, h1, h2⟩
    exact ⟨_, ⟨u - 1, by omega, rfl⟩, by
      simp only [List.mem_map, List.mem_range]
      exact ⟨d, by omega, by rw [show u - 1 + 1 = u by omega]⟩⟩
theorem heights_len (top : Nat) (m : List Nat) : (heights top m).length = top := by simp [heights]
theorem heights_get {top d : Nat} (m : List Nat) (h : d < top) : (heights top m)[d]? = some (height m d) := by simp [heights, h]
theorem code_inj : ∀ (as bs : List Nat) (c e : Nat), as.length = bs.length → (∀ x ∈ as, x < 8) → (∀ x ∈ bs, x < 8) → as.foldl (fun c h => 8 * c + h) c = bs.foldl (fun c h => 8 * c + h) e → c = e ∧ as = bs
  | [], [], c, e, _, _, _, h => ⟨h, rfl⟩
  | a :: as, b :: bs, c, e, hl, ha, hb, h => by
    obtain ⟨h1, h2⟩ := code_inj as bs (8 * c + a) (8 * e + b) (by simpa using hl) (fun x hx => ha x (by simp [hx])) (fun x hx => hb x (by simp [hx])) h
    have := ha a (by simp)
    have := hb b (by simp)
    exact ⟨by omega, by rw [h2, show a = b by omega]⟩
theorem closed_of {top : Nat} (h1 : 1 ≤ top) (h6 : top ≤ 6) : closed top = true ∧ back top = true := by
  rcases (show top = 1 ∨ top = 2 ∨ top = 3 ∨ top = 4 ∨ top = 5 ∨ top = 6 by omega) with rfl | rfl | rfl | rfl | rfl | rfl
  · exact ⟨closed1, back1⟩
  · exact ⟨closed2, back2⟩
  · exact ⟨closed3, back3⟩
  · exact ⟨closed4, back4⟩
  · exact ⟨closed5, back5⟩
  · exact ⟨closed6, back6⟩
structure Good (top : Nat) (a : List Nat) : Prop where
  mem : a ∈ msOf top
  back : memOf (heights top a) = a
  self : followed [] a = a
  small : ∀ x ∈ heights top a, x < 8
  lev : ∀ x ∈ a, x ≤ top
theorem good_of {top : Nat} (h1 : 1 ≤ top) (h6 : top ≤ 6) {a : List Nat} (h : a ∈ msOf top) : Good top a := by
  have q := (closed_of h1 h6).2
  unfold VM.back at q
  have q2 := List.all_eq_true.mp q a h
  simp only [Bool.and_eq_true, beq_iff_eq, List.all_eq_true, decide_eq_true_eq] at q2
  exact ⟨h, q2.1.1.1, q2.1.1.2, q2.1.2, q2.2⟩
theorem zip_small {f : Nat → Nat → Nat} (hf : ∀ a b, a < 8 → b < 8 → f a b < 8) : ∀ (as bs : List Nat), (∀ x ∈ as, x < 8) → (∀ x ∈ bs, x < 8) → ∀ x ∈ List.zipWith f as bs, x < 8
  | [], _, _, _, x, hx => by simp at hx
  | _ :: _, [], _, _, x, hx => by simp at hx
  | a :: as, b :: bs, ha, hb, x, hx => by
    simp only [List.zipWith_cons_cons, List.mem_cons] at hx
    rcases hx with rfl | hx
    · exact hf a b (ha a (by simp)) (hb b (by simp))
    · exact zip_small hf as bs (fun y hy => ha y (by simp [hy])) (fun y hy => hb y (by simp [hy])) x hx
theorem back_to {top : Nat} (h1 : 1 ≤ top) (h6 : top ≤ 6) {a b : List Nat} (ha : a ∈ msOf top) (hb : b ∈ msOf top) (f : Nat → Nat → Nat) (hf : ∀ a b, a < 8 → b < 8 → f a b < 8)
    (hc : code (List.zipWith f (heights top a) (heights top b)) ∈ ((msOf top).map (heights top)).map code) :
    memOf (List.zipWith f (heights top a) (heights top b)) ∈ msOf top ∧ heights top (memOf (List.zipWith f (heights top a) (heights top b))) = List.zipWith f (heights top a) (heights top b) := by
  simp only [List.mem_map] at hc
  obtain ⟨x, ⟨c, hcm, rfl⟩, e⟩ := hc
  have ga := good_of h1 h6 ha
  have gb := good_of h1 h6 hb
  have gc := good_of h1 h6 hcm
  have e2 := (code_inj _ _ 0 0 (by simp [heights_len]) gc.small (zip_small hf _ _ ga.small gb.small) e).2
  rw [← e2, gc.back]
  exact ⟨hcm, rfl⟩
theorem closed_at {top : Nat} (h1 : 1 ≤ top) (h6 : top ≤ 6) {a b : List Nat} (ha : a ∈ msOf top) (hb : b ∈ msOf top) :
    code (List.zipWith max (heights top a) (heights top b)) ∈ ((msOf top).map (heights top)).map code ∧ code (List.zipWith min (heights top a) (heights top b)) ∈ ((msOf top).map (heights top)).map code := by
  have q := (closed_of h1 h6).1
  have q2 : (((msOf top).map (heights top)).all fun a => ((msOf top).map (heights top)).all fun b => (((msOf top).map (heights top)).map code).contains (code (List.zipWith max a b)) && (((msOf top).map (heights top)).map code).contains (code (List.zipWith min a b))) = true := q
  have q3 := List.all_eq_true.mp q2 _ (List.mem_map_of_mem ha)
  have q4 := List.all_eq_true.mp q3 _ (List.mem_map_of_mem hb)
  simp only [Bool.and_eq_true, List.contains_iff_mem] at q4
  exact q4
def joinM (top : Nat) (a b : List Nat) : List Nat := memOf (List.zipWith max (heights top a) (heights top b))
def meetM (top : Nat) (a b : List Nat) : List Nat := memOf (List.zipWith min (heights top a) (heights top b))
theorem join_ok {top : Nat} (h1 : 1 ≤ top) (h6 : top ≤ 6) {a b : List Nat} (ha : a ∈ msOf top) (hb : b ∈ msOf top) : joinM top a b ∈ msOf top ∧ heights top (joinM top a b) = List.zipWith max (heights top a) (heights top b) :=
  back_to h1 h6 ha hb max (fun a b _ _ => by omega) (closed_at h1 h6 ha hb).1
theorem meet_ok {top : Nat} (h1 : 1 ≤ top) (h6 : top ≤ 6) {a b : List Nat} (ha : a ∈ msOf top) (hb : b ∈ msOf top) : meetM top a b ∈ msOf top ∧ heights top (meetM top a b) = List.zipWith min (heights top a) (heights top b) :=
  back_to h1 h6 ha hb min (fun a b _ _ => by omega) (closed_at h1 h6 ha hb).2
theorem zip_comm {f : Nat → Nat → Nat} (hf : ∀ a b, f a b = f b a) : ∀ (as bs : List Nat), List.zipWith f as bs = List.zipWith f bs as
  | [], [] => rfl
  | [], _ :: _ => rfl
  | _ :: _, [] => rfl
  | a :: as, b :: bs => by simp [hf a b, zip_comm hf as bs]
theorem zip_self {f : Nat → Nat → Nat} (hf : ∀ a, f a a = a) : ∀ (as : List Nat), List.zipWith f as as = as
  | [] => rfl
  | a :: as => by
    rw [List.zipWith_cons_cons, hf a, zip_self hf as]
theorem join_comm (top : Nat) (a b : List Nat) : joinM top a b = joinM top b a := by unfold joinM; rw [zip_comm (fun a b => Nat.max_comm a b)]
theorem meet_comm (top : Nat) (a b : List Nat) : meetM top a b = meetM top b a := by unfold meetM; rw [zip_comm (fun a b => Nat.min_comm a b)]
theorem join_self {top : Nat} {a : List Nat} (g : Good top a) : joinM top a a = a := by unfold joinM; rw [zip_self (fun a => Nat.max_self a), g.back]
theorem meet_self {top : Nat} {a : List Nat} (g : Good top a) : meetM top a a = a := by unfold meetM; rw [zip_self (fun a => Nat.min_self a), g.back]
theorem heights_nil (top : Nat) : heights top [] = List.replicate top 0 := by
  unfold heights
  rw [List.eq_replicate_iff]
  simp [height]
theorem zip_zero_max : ∀ (as : List Nat), List.zipWith max (List.replicate as.length 0) as = as
  | [] => rfl
  | a :: as => by simp [List.replicate_succ, zip_zero_max as]
theorem zip_zero_min : ∀ (as : List Nat), List.zipWith min as (List.replicate as.length 0) = List.replicate as.length 0
  | [] => rfl
  | a :: as => by simp [List.replicate_succ, zip_zero_min as]
theorem join_nil {top : Nat} {a : List Nat} (g : Good top a) : joinM top [] a = a := by
  unfold joinM
  have := zip_zero_max (heights top a)
  rw [heights_len] at this
  rw [heights_nil, this, g.back]
theorem nil_mem {top : Nat} (h1 : 1 ≤ top) (h6 : top ≤ 6) : ([] : List Nat) ∈ msOf top := by
  rcases (show top = 1 ∨ top = 2 ∨ top = 3 ∨ top = 4 ∨ top = 5 ∨ top = 6 by omega) with rfl | rfl | rfl | rfl | rfl | rfl <;> decide
theorem meet_nil {top : Nat} (h1 : 1 ≤ top) (h6 : top ≤ 6) (a : List Nat) : meetM top a [] = [] := by
  unfold meetM
  have := zip_zero_min (heights top a)
  rw [heights_len] at this
  rw [heights_nil, this, ← heights_nil]
  exact (good_of h1 h6 (nil_mem h1 h6)).back
theorem on_contains {top : Nat} {ls : List Nat} {u d : Nat} (hd : d < u) (hu : u ≤ top) : (on top ls).contains [u, d] = decide (u ≤ height ls d) := by
  rw [Bool.eq_iff_iff]
  simp only [List.contains_iff_mem, on, List.mem_filter, decide_eq_true_eq]
  constructor
  · rintro ⟨_, h⟩
    simpa [isOn_height hd] using h
  · intro h
    exact ⟨mem_switches.mpr ⟨u, d, rfl, hd, hu⟩, by simpa [isOn_height hd] using h⟩
theorem zip_get {f : Nat → Nat → Nat} {as bs : List Nat} {i x y : Nat} (ha : as[i]? = some x) (hb : bs[i]? = some y) : (List.zipWith f as bs)[i]? = some (f x y) := by
  rw [List.getElem?_zipWith, ha, hb]
theorem on_join {top : Nat} (h1 : 1 ≤ top) (h6 : top ≤ 6) {a b : List Nat} (ha : a ∈ msOf top) (hb : b ∈ msOf top) :
    on top (joinM top a b) = (switches top).filter fun s => (on top a).contains s || (on top b).contains s := by
  unfold on
  refine List.filter_congr fun s hs => ?_
  obtain ⟨u, d, rfl, hd, hu⟩ := mem_switches.mp hs
  show isOn u d _ = ((on top a).contains [u, d] || (on top b).contains [u, d])
  rw [on_contains hd hu, on_contains hd hu, isOn_height hd]
  have e := (join_ok h1 h6 ha hb).2
  have g := heights_get (joinM top a b) (show d < top by omega)
  rw [e, zip_get (heights_get a (by omega)) (heights_get b (by omega))] at g
  have g' := Option.some.inj g
  rw [← g']
  rw [Bool.eq_iff_iff]
  simp only [decide_eq_true_eq, Bool.or_eq_true]
  omega
theorem on_meet {top : Nat} (h1 : 1 ≤ top) (h6 : top ≤ 6) {a b : List Nat} (ha : a ∈ msOf top) (hb : b ∈ msOf top) :
    on top (meetM top a b) = (on top a).filter fun s => (on top b).contains s := by
  have q : (on top a).filter (fun s => (on top b).contains s) = (switches top).filter fun s => (on top b).contains s && isOn (s.getD 0 0) (s.getD 1 0) a := by
    unfold on
    rw [List.filter_filter]
  rw [q]
  unfold on
  refine List.filter_congr fun s hs => ?_
  obtain ⟨u, d, rfl, hd, hu⟩ := mem_switches.mp hs
  show isOn u d _ = ((on top b).contains [u, d] && isOn u d a)
  rw [on_contains hd hu, isOn_height hd, isOn_height hd]
  have e := (meet_ok h1 h6 ha hb).2
  have g := heights_get (meetM top a b) (show d < top by omega)
  rw [e, zip_get (heights_get a (by omega)) (heights_get b (by omega))] at g
  have g' := Option.some.inj g
  rw [← g']
  rw [Bool.eq_iff_iff]
  simp only [decide_eq_true_eq, Bool.and_eq_true]
  omega
end VM
namespace VK
open PySem PySem.Spec PyProof.Rows L2

/-! ### raise C(), C an own exception class without an __init__ of its own -/
section
variable {X : Cx}
theorem pmk_own0 {C : Addr} {bmB : List Value} {B newId initId : String} {x : Str} {p pos : Pos} (F : ExcBaseFacts B newId initId bmB)
    (q : PySem.W.excIn X.K C bmB newId = true) (gC : X.mg x = some (.ref C)) (kC : PySem.W.keepIn X.K (.ref C) = true) (r : Raises X (.ref C)) (hg : Gl X x)
    (hdb : (x == ("__debug__" : Str)) = false := by decide) : PMk X (.Call (.Name x p) [] [] pos) (fun _ H Q => Q (.ref C) none H) := by
  intro pins s σ H Q I h
  refine wpAny_Call_Name_kw (ld_glob I hg gC ?_ hdb)
  refine PySem.W.callWith_K0 I.kIn kC ?_
  show wpAny _ _ (call (.ref C) []) _ _ _
  obtain ⟨bm, N, nm, qn, bs, hdct, sn, sub, ab, col, dd, k0, k1, k2, k3, k5, mN, hC, hN, hni, T⟩ := exc_obj I.kIn q
  exact wpAny_call_exc_subT F T hC hN hni (fun h' e hm => mk_of I hm r h (I.hok.gone hm.new)) (by show 0 ≤ sizeLine; exact Nat.zero_le _)
end

/-! ### the greatest and the least of a tuple of ints -/
section
variable {X : Cx}
theorem dp_ints {K : PySem.W.Frag} {H : Hp} : ∀ ns : List Int, DpAll K H (ns.map V.int) (ns.map PyData.int)
  | [] => .nil
  | n :: r => .cons (.int n) (dp_ints r)
theorem alike_intsAll (ns : List Int) : PySem.W.AlikeAll (ns.map PyData.int) := by
  refine ⟨fun x hx y hy => ?_, fun x hx e => ?_⟩
  · obtain ⟨i, _, rfl⟩ := List.mem_map.mp hx
    obtain ⟨j, _, rfl⟩ := List.mem_map.mp hy
    rfl
  · obtain ⟨i, _, rfl⟩ := List.mem_map.mp hx
    cases e
theorem reads_int {h : Heap} {v : Value} {m : Int} {bs : List Addr} (r : Reads h v (.int m) bs) : ∃ t, v = .int m t := by
  cases r
  exact ⟨_, rfl⟩
def rMaxT (K : PySem.W.Frag) : List V → Hp → VK → Prop := fun vs H Q => ∃ (a : Addr) (n : Int) (ns : List Int), vs = [V.ref a] ∧ SqT K H a ((n :: ns).map V.int) ∧ Q (.int (ns.foldl max n)) H
def rMinT (K : PySem.W.Frag) : List V → Hp → VK → Prop := fun vs H Q => ∃ (a : Addr) (n : Int) (ns : List Int), vs = [V.ref a] ∧ SqT K H a ((n :: ns).map V.int) ∧ Q (.int (ns.foldl min n)) H
theorem cr_maxT (hc : X.calm = true) (hu : X.A.units + 1 < cLine) : CallR X (.builtin "max") (rMaxT X.K) := by
  intro pins s σ H vs us Q I r h
  obtain ⟨a, n, ns, rfl, hs, q⟩ := h
  obtain ⟨its, rv, ht, _⟩ := I.tuple hs
  rw [Vals.ref1 r]
  obtain ⟨as, hr⟩ := Dp.readsAll I ((n :: ns).map PyData.int) _ its (dp_ints (n :: ns)) rv
  refine PySem.W.max_tuple_data (x := .int n) (xs := ns.map .int) (I.ok.hd hc) ht (by simpa using hr) (alike_intsAll (n :: ns)) (by rw [show PyData.depthAll (.int n :: ns.map .int) = 0 from PySem.W.depth_ints (n :: ns)]; exact hu) fun i v h' tk bs _ rd hk => ?_
  rw [PySem.W.maxD_ints] at rd
  obtain ⟨t, rfl⟩ := reads_int rd
  exact ⟨.int _, H, I.kept hk, ⟨_, rfl⟩, q⟩
theorem cr_minT (hc : X.calm = true) (hu : X.A.units + 1 < cLine) : CallR X (.builtin "min") (rMinT X.K) := by
  intro pins s σ H vs us Q I r h
  obtain ⟨a, n, ns, rfl, hs, q⟩ := h
  obtain ⟨its, rv, ht, _⟩ := I.tuple hs
  rw [Vals.ref1 r]
  obtain ⟨as, hr⟩ := Dp.readsAll I ((n :: ns).map PyData.int) _ its (dp_ints (n :: ns)) rv
  refine PySem.W.min_tuple_data (x := .int n) (xs := ns.map .int) (I.ok.hd hc) ht (by simpa using hr) (alike_intsAll (n :: ns)) (by rw [show PyData.depthAll (.int n :: ns.map .int) = 0 from PySem.W.depth_ints (n :: ns)]; exact hu) fun i v h' tk bs _ rd hk => ?_
  rw [PySem.W.minD_ints] at rd
  obtain ⟨t, rfl⟩ := reads_int rd
  exact ⟨.int _, H, I.kept hk, ⟨_, rfl⟩, q⟩
end
end VK
namespace VK
open PySem PySem.Spec PyProof.Rows L2
section
variable {X : Cx}
/-! ### sorted of a list of alike data -/
abbrev srt (xs : List V) (ds : List PyData) : List (V × PyData) := (xs.zip ds).mergeSort (PySem.W.dataLe false Prod.snd)
def rSortD (K : PySem.W.Frag) : List V → Hp → VK → Prop := fun vs H Q => ∃ (a : Addr) (xs : List V) (ds : List PyData), vs = [V.ref a] ∧ SqL K H a xs ∧ DpAll K H xs ds ∧ PySem.W.AllAlike ds ∧ PySem.W.Sortable ds ∧
  (∀ d ∈ ds, d.depth ≤ 60) ∧ ∀ p, H p = none → Q (.ref p) (upd H p (.lst ((srt xs ds).map Prod.fst)))
theorem dpAll_len {K : PySem.W.Frag} {H : Hp} : ∀ {xs : List V} {ds : List PyData}, DpAll K H xs ds → xs.length = ds.length
  | _, _, .nil => rfl
  | _, _, .cons _ t => congrArg (· + 1) (dpAll_len t)
theorem each_of {R : Value → V × PyData → Prop} : ∀ {xs : List V} {ds : List PyData} {us : List Value}, xs.length = ds.length → Vals xs us → (∀ v x d, RelV x v → (x, d) ∈ xs.zip ds → R v (x, d)) → PySem.W.EachIs R us (xs.zip ds)
  | [], [], _, _, .nil, _ => .nil
  | x :: xs, d :: ds, _, hl, .cons r t, f => .cons (f _ _ _ r (by simp)) (each_of (by simpa using hl) t fun v y e ry hm => f v y e ry (by simp [hm]))
theorem dp_zip {K : PySem.W.Frag} {H : Hp} : ∀ {xs : List V} {ds : List PyData}, DpAll K H xs ds → ∀ x d, (x, d) ∈ xs.zip ds → Dp K H x d
  | _, _, .nil, x, d, hm => by simp at hm
  | _, _, .cons h t, x, d, hm => by
    simp only [List.zip_cons_cons, List.mem_cons, Prod.mk.injEq] at hm
    rcases hm with ⟨rfl, rfl⟩ | hm
    · exact h
    · exact dp_zip t x d hm
theorem vals_of_each : ∀ {us : List Value} {bs : List (V × PyData)}, PySem.W.EachIs (fun v b => RelV b.1 v) us bs → Vals (bs.map Prod.fst) us
  | _, _, .nil => .nil
  | _, _, .cons r t => .cons r (vals_of_each t)
theorem snd_zip : ∀ {xs : List V} {ds : List PyData}, xs.length = ds.length → (xs.zip ds).map Prod.snd = ds
  | [], [], _ => rfl
  | x :: xs, d :: ds, h => by simp [snd_zip (xs := xs) (ds := ds) (by simpa using h)]
theorem cr_sortD (hu : X.A.units + 64 < cLine) : CallR X (.builtin "sorted") (rSortD X.K) := by
  intro pins s σ H vs us Q I r h
  obtain ⟨a, xs, ds, rfl, hs, hd, ha, hk, hdep, q⟩ := h
  obtain ⟨its, rv, hl, hz⟩ := I.list hs
  rw [Vals.ref1 r]
  have len := dpAll_len hd
  have e := snd_zip len
  refine PySem.W.sorted_data (R := fun v b => RelV b.1 v) (bs := xs.zip ds) (enc := Prod.snd) hl.isList (each_of len rv fun v x d h1 _ => h1) (each_of len rv fun v x d h1 h2 => Dp.reads I d x v (dp_zip hd x d h2) h1)
    (by rw [e]; exact ha) (by rw [e]; exact hk) (by rw [List.length_zip, len]; simpa [← len] using hz) (fun b hb => ?_) fun out h1 h2 => ?_
  · have : b.2 ∈ ds := by rw [← e]; exact List.mem_map_of_mem hb
    have := hdep _ this
    omega
  · obtain ⟨ep, he⟩ := PyProof.Rows.sortedAll_at s.heap its (List.toArray out)
    have v2 := vals_of_each h2
    have hsz : ((srt xs ds).map Prod.fst).length ≤ sizeLine := by
      rw [List.length_map, List.length_mergeSort, List.length_zip, len]; simpa [← len] using hz
    exact ⟨.ref _, upd H (s.heap.objs.size + 1) (.lst ((srt xs ds).map Prod.fst)), I.laid (t' := s.toks) (fun _ _ => PyProof.Rows.sortedAll_old) (Nat.le_succ _)
      ⟨hsz, out, ep, v2, he⟩, rfl, q _ (I.hok.fresh (Nat.le_succ _))⟩
end
end VK
namespace VK
open PySem PySem.Spec PyProof.Rows L2
/-! ### enumerate(t), t a tuple -/
set_option maxHeartbeats 4000000 in
theorem enumB {v : Value} {o : Obj} {G : Heap → Prop} (B : Begins v o G) :
    Meets (Builtin.«enumerate.__new__» ⟨[.type "enumerate", v], []⟩) (fun _ R s => G s.heap ∧
      R (.ok (.ret (.ref (s.heap.push o).objs.size))) { s with heap := (s.heap.push o).push { cls := .type "enumerate", data := .fields #[.none, .bool false, .ref s.heap.objs.size, rawInt 0, .none, .none] } }) :=
  .of_wp fun prog w A R s hh => by
    obtain ⟨hp, g, dr, tok, os⟩ := s
    obtain ⟨hg, hr⟩ := hh
    have su := sub_enumerate
    have st : ∀ {A' : Around} {E : Value → Shared → Prop} {Q : Value → Shared → Prop}, Q (.ref hp.objs.size) ⟨hp.push o, g, dr, tok, os⟩ → wpAny (model prog w) A' (pyIter v) Q E ⟨hp, g, dr, tok, os⟩ :=
      fun z => B.iter prog w _ _ ⟨hp, g, dr, tok, os⟩ _ hg z
    wp_walk using st
    refine wpAny_stack_any fun sk => wpAny_pure ?_
    split
    · rename_i c _ _ _ _ _
      cases (c == Value.type "enumerate") <;> (wp_walk using st; exact ⟨_, rfl, hr⟩)
    · wp_walk using st
      exact ⟨_, rfl, hr⟩
section
variable {prog : Program} {w : World} {A : Around} {E : Value → Shared → Prop} {s : Shared}
theorem enum1 {v : Value} {o : Obj} {G : Heap → Prop} {Q : Value → Shared → Prop} (B : Begins v o G) (hg : G s.heap)
    (k : ∀ h', IsEnum h' (s.heap.objs.size + 1) s.heap.objs.size 0 .none → h'.get? s.heap.objs.size = some o →
      (∀ b u, s.heap.get? b = some u → h'.get? b = some u) → Q (.ref (s.heap.objs.size + 1)) { s with heap := h' }) :
    wpAny (model prog w) A (call (.type "enumerate") [v]) Q E s := by
  refine callType_new F.called_enumerate (by decide) (F.typeCall_enumerate_1 _) (F.newCall_enumerate_1 _) (fun x => F.args_object_init_2 x _) F.entry_enumerate_new (enumB B) ⟨hg, ?_⟩
  have z1 : (s.heap.push o).objs.size = s.heap.objs.size + 1 := Heap.size_push ..
  have z2 := Heap.get?_push_size (s.heap.push o) (o := { cls := .type "enumerate", data := .fields #[.none, .bool false, .ref s.heap.objs.size, rawInt 0, .none, .none] }) rfl
  show _ ∧ _
  rw [z1]
  rw [z1] at z2
  exact ⟨⟨_, z2, rfl⟩, k _ z2 (Heap.get?_push_of_some _ (Heap.get?_push_size _ B.free)) fun b u x => Heap.get?_push_of_some _ (Heap.get?_push_of_some _ x)⟩
end
/-- the tuple at a, each item in a new pair -/
def IteT (K : PySem.W.Frag) (a : Addr) : It :=
  ⟨fun i H => ∃ (xs : List V) (x : V), SqT K H a xs ∧ xs[i]? = some x,
   fun i H v H' => ∃ T x, v = .ref T ∧ H T = none ∧ H' = upd H T (.tup [.int (i : Nat), x]) ∧ ∀ xs, SqT K H a xs → xs[i]? = some x,
   fun i H => ∃ xs : List V, SqT K H a xs ∧ xs.length = i⟩
theorem turn_enumT {P : Program} {w : World} {K : PySem.W.Frag} {elts : List Expr} {kk : Nat} {tpos : Pos} (a e it : Addr) :
    Turn P w K (.Tuple elts kk tpos) (IteT K a) [e, it] e (fun i h => (∃ old, IsEnum h e it ((i : Nat) : Int) old) ∧ h.IsTupleIter it a i ∧ e ≠ it ∧ a ≠ it ∧ a ≠ e) where
  mem := by simp
  obj := fun i h st b hb => by
    obtain ⟨⟨old, he⟩, ⟨o, ho, hc, hd⟩, _⟩ := st
    simp only [List.mem_cons, List.not_mem_nil, or_false] at hb
    rcases hb with rfl | rfl
    · exact ⟨_, he, fun v q => nomatch q⟩
    · exact ⟨o, ho, fun v q => by rw [hd] at q; cases q⟩
  keep := fun i h h' st k => by
    obtain ⟨⟨old, he⟩, hi, hne⟩ := st
    exact ⟨⟨old, k e (by simp) _ he⟩, hi.at fun o q => k it (by simp) o q, hne⟩
  item := by
    intro X hP hw hK hc i pins s σ H E I hf st hg
    subst hP hw hK
    obtain ⟨⟨old, he⟩, hit, hne, ha1, ha2⟩ := st
    obtain ⟨xs, x, hq, hx⟩ := hg
    obtain ⟨its, rv, p, hz⟩ := I.tuple hq
    obtain ⟨u, hu, ru⟩ := rv.get hx
    have le : e < s.heap.objs.size := Heap.lt_size he
    have li : it < s.heap.objs.size := by obtain ⟨_, q, _⟩ := hit; exact Heap.lt_size q
    have hlt : i < its.toArray.size := by
      have := (List.getElem?_eq_some_iff.mp hu).1
      simpa using this
    refine wpAny_pyNext_enum_itemC (Draws.tuple (A := X.A.in1) (I.ok.hd hc) it a ha1 its.toArray) he ⟨hit, p⟩ hlt hne (by simp [hne, Ne.symm ha2]) fun y h' tk hP ho st' hT hsz hk => ?_
    have ey : y = u := by
      have h1 : its[i]? = some y := by simpa using hP
      rw [hu] at h1
      exact (Option.some.inj h1).symm
    subst ey
    refine ⟨_, rfl, wpAny_letOwnedTupleGo_enum (s := { s with heap := h', toks := tk + 1 }) ho fun h'' he' sb => ?_⟩
    have hT2 : h''.get? s.heap.objs.size = some { cls := .type "tuple", data := .seq #[.int i tk, y] } := (sb.2 _ (Nat.ne_of_gt le)).trans hT
    have new : ObjOk X.prog X.w (upd H s.heap.objs.size (.tup [.int (i : Nat), x])) h'' s.heap.objs.size (.tup [.int (i : Nat), x]) :=
      ⟨by show 2 ≤ sizeLine; decide, [.int i tk, y], .cons ⟨_, rfl⟩ (.cons ru .nil), ⟨_, hT2, rfl, _, rfl⟩⟩
    have I1 : Inv X pins σ (upd H s.heap.objs.size (.tup [.int (i : Nat), x])) { s with heap := h'', toks := tk + 1 } :=
      I.turnedNew (ch := [e, it]) (fun b ob hb q => by
        simp only [List.mem_cons, List.not_mem_nil, or_false, not_or] at hb
        exact (sb.2 b hb.1).trans (hk b ob hb.1 hb.2 q)) hf (Nat.le_refl _) new
    refine ⟨.ref s.heap.objs.size, _, I1, rfl, ⟨_, x, rfl, I.hok.fresh (Nat.le_refl _), rfl, fun ys hy => by rw [I.tuple_inj hy hq]; exact hx⟩, ⟨⟨y, ?_⟩, st'.1.at fun o q => (sb.2 it (Ne.symm hne)).trans q, hne, ha1, ha2⟩, fun b hb => ?_⟩
    · have e1 : ((i + 1 : Nat) : Int) = (i : Int) + 1 := by omega
      rw [e1]
      exact he'
    · have hb' : b < s.heap.objs.size := by
        simp only [List.mem_cons, List.not_mem_nil, or_false] at hb
        rcases hb with rfl | rfl
        · exact le
        · exact li
      rw [upd_ne (Nat.ne_of_lt hb')]
      exact (hf b hb).1
  done := by
    intro X hP hw hK hc i pins s σ H E I hf st hg
    subst hP hw hK
    obtain ⟨⟨old, he⟩, hit, hne, ha1, ha2⟩ := st
    obtain ⟨xs, hq, hx⟩ := hg
    obtain ⟨its, rv, p, hz⟩ := I.tuple hq
    subst hx
    have sz : its.toArray.size = xs.length := by rw [rv.length]; simp
    have fin : s.heap.IsTupleIter it a its.toArray.size ∧ s.heap.IsTuple a its.toArray := ⟨by rw [sz]; exact hit, p⟩
    refine wpAny_pyNext_enum_endD (Draws.tuple (A := X.A.in1) (I.ok.hd hc) it a ha1 its.toArray) he fin fun h' eb => ⟨rfl, ?_⟩
    obtain ⟨f0, f1, f2, f3, f4, f5⟩ := hf it (by simp)
    exact I.turned (t' := s.toks) (fun b o hb q => eb b o hb q) f0 f1 f3 f4 f5
  self := fun A i s Q E st h => let ⟨⟨_, he⟩, _⟩ := st; wpAny_pyIter_enum he h

def iEnumT (K : PySem.W.Frag) (ta : TA) : TI := fun σ H R => ta σ H fun vs H1 => ∃ a xs, vs = [.ref a] ∧ SqT K H1 a xs ∧ R (IteT K a) H1
theorem pi_enumT {X : Cx} {e : Expr} {ta : TA} {p pos tpos : Pos} {elts : List Expr} {kk : Nat} (hg : Gl X "enumerate") (hm : X.mg "enumerate" = none) (ha : PA X [e] ta)
    (hs : starEach [e] X.env = [(false, eval e X.env)] := by rfl) : PI X (.Tuple elts kk tpos) (.Call (.Name "enumerate" p) [e] [] pos) (iEnumT X.K ta) := by
  refine ⟨fun pins s σ H R I h => ?_⟩
  refine Call_ (ld_blt I hg hm boot_enumerate (PyProof.Rows.callWith_type1 (thn (ha.run pos pins s σ H _ I h) fun us s1 ⟨vs, G, J, r1, q1⟩ => ?_) hs rfl))
  obtain ⟨a, xs, ex, hq, q⟩ := q1
  subst ex
  rw [Vals.ref1 r1]
  obtain ⟨its, rv, p', hz⟩ := J.tuple hq
  have la : a < s1.heap.objs.size := by obtain ⟨o, ho, _⟩ := p'; exact Heap.lt_size ho
  refine enum1 (begins_tuple a its.toArray) p' fun h' he hit hk => wpAny_pyIter_enum he ?_
  have J2 : Inv X pins σ G { s1 with heap := h' } := J.kept (t' := s1.toks) hk
  refine ⟨s1.heap.objs.size + 1, [s1.heap.objs.size + 1, s1.heap.objs.size], _, _, G, rfl, J2, turn_enumT a (s1.heap.objs.size + 1) s1.heap.objs.size,
    ⟨⟨.none, he⟩, ⟨_, hit, rfl, rfl⟩, Nat.succ_ne_self _, Nat.ne_of_lt la, Nat.ne_of_lt (Nat.lt_succ_of_lt la)⟩, fun b hb => ?_, q⟩
  have hle : s1.heap.objs.size ≤ b := by
    simp only [List.mem_cons, List.not_mem_nil, or_false] at hb
    rcases hb with rfl | rfl <;> omega
  exact J.fpOk hle (J.hok.fresh hle)
/-- a loop over enumerate of a tuple -/
theorem for_enumT {K : PySem.W.Frag} {a : Addr} {xs : List V} {g : TG} {tb : TS} {D : Ends} {σ : L2.St} {H : Hp} (Pv : Nat → L2.St → Hp → Prop) (h0 : Pv 0 σ H) (hq : ∀ i σ H, Pv i σ H → SqT K H a xs)
    (hs : ∀ (i : Nat) (x : V) (T : Addr) (σ : L2.St) (H : Hp), xs[i]? = some x → Pv i σ H → H T = none → g (.ref T) σ (upd H T (.tup [.int (i : Nat), x])) fun σ2 H2 => tb { D with nx := Pv (i + 1), ct := Pv (i + 1), bk := D.nx } σ2 H2)
    (hd : ∀ σ H, Pv xs.length σ H → D.nx σ H) :
    ∃ W : Nat → Nat → L2.St → Hp → Prop, (∃ m, W 0 m σ H) ∧ ∀ i m σ H, W i m σ H →
      ((IteT K a).stop i H ∧ D.nx σ H) ∨ ((IteT K a).go i H ∧ ∃ N : L2.St → Hp → Prop, (∀ σ' H', N σ' H' → ∃ m', m' < m ∧ W (i + 1) m' σ' H') ∧ ∀ v H', (IteT K a).yld i H v H' → g v σ H' fun σ2 H2 => tb { D with nx := N, ct := N, bk := D.nx } σ2 H2) := by
  refine ⟨fun i m σ H => m = xs.length - i ∧ i ≤ xs.length ∧ Pv i σ H, ⟨xs.length, rfl, Nat.zero_le _, h0⟩, ?_⟩
  rintro i m σ H ⟨rfl, hi, p⟩
  have qx := hq i σ H p
  by_cases lt : i < xs.length
  · refine .inr ⟨⟨xs, _, qx, List.getElem?_eq_getElem lt⟩, Pv (i + 1), fun σ' H' p' => ⟨xs.length - (i + 1), by omega, rfl, lt, p'⟩, fun v H' y => ?_⟩
    obtain ⟨T, x', rfl, hT, rfl, f⟩ := y
    exact hs i x' T σ H (f xs qx) p hT
  · have e : xs.length = i := by omega
    exact .inl ⟨⟨xs, qx, e⟩, hd σ H (by rw [e]; exact p)⟩
end VK
namespace VK
open PySem PySem.Spec PyProof.Rows L2
/-! ### zip(xs, ys) walked by one name: the pair that was handed out last may be alive or not -/
section
variable {prog : Program} {w : World} {A : Around} {E : Value → Shared → Prop} {s : Shared}
theorem dead_free {z TI TO T : Addr} {f : Bool} {Q : Bool → Shared → Prop} (hz : IsZipHeld s.heap z TI TO T f) (hT : s.heap.get? T = none) (h : Q true s) :
    wpAny (model prog w) A (Builtin.SmallTypes.ownedTupleIsFree (.ref z)) Q E s := by
  unfold Builtin.SmallTypes.ownedTupleIsFree
  refine wpAny_bind (wpAny_field hz rfl (x := rawInt T) rfl ?_)
  show wpAny _ _ (loadIfAlive ((T : Int).toNat) >>= _) _ _ _
  rw [Int.toNat_natCast]
  refine wpAny_bind ?_
  have step : wpAny (model prog w) A (loadIfAlive T) (fun r s' => r = none ∧ s' = s) E s := by
    have q : (s.heap.get? T = none ∧ s = s) := ⟨hT, rfl⟩
    exact fun _ _ _ => q
  refine wpAny_mono step (fun r s' hr => ?_) fun _ _ y => y
  obtain ⟨rfl, rfl⟩ := hr
  simp only [Option.isNone_none, if_true]
  exact wpAny_pure h
abbrev ZipF (h : Heap) (z TI TO : Addr) (v : Value) (f : Bool) : Prop :=
  h.get? z = some { cls := .type "zip", dict := none, data := .fields #[v, .bool f, .bool false, .ref TI, .ref TO], slots := #[] }
/-- the heap of a zip whose last pair is gone -/
structure Gone (h : Heap) (z TI TO T : Addr) (f : Bool) (i1 i2 l1 l2 : Addr) (k : Nat) (xs ys : Array Value) : Prop where
  ap : ZipApart z TI TO i1 i2 l1 l2
  hz : IsZipHeld h z TI TO T f
  no : h.get? T = none
  ti : IsPair h TI (.ref i1) (.ref i2)
  to : ∃ a b, IsPair h TO a b
  n1 : h.IsListIter i1 l1 k
  n2 : h.IsListIter i2 l2 k
  g1 : h.IsList l1 xs
  g2 : h.IsList l2 ys
theorem gone_item {z TI TO T i1 i2 l1 l2 : Addr} {f : Bool} {k : Nat} {xs ys : Array Value} {x y : Value} {Q : Value → Shared → Prop} (G : Gone s.heap z TI TO T f i1 i2 l1 l2 k xs ys) (hx : xs[k]? = some x) (hy : ys[k]? = some y)
    (q : ∀ h', IsZip h' z TI TO (rawInt s.heap.objs.size) → IsPair h' TO x y → h'.IsListIter i1 l1 (k + 1) → h'.IsListIter i2 l2 (k + 1) → IsPair h' s.heap.objs.size x y →
      (∀ c o, c ≠ z → c ≠ TO → c ≠ i1 → c ≠ i2 → s.heap.get? c = some o → h'.get? c = some o) → Q (.ref s.heap.objs.size) { s with heap := h' }) :
    wpAny (model prog w) A (Builtin.«zip.__next__» ⟨[.ref z], []⟩) (fun fin s' => ∃ v, fin = .done (.ret v) ∧ Q v s') E s := by
  obtain ⟨D, hz, no, hTI, ⟨a, b, hTO⟩, h1, h2, hl1, hl2⟩ := G
  show wpAny _ _ (field (.ref z) 2 >>= _) _ _ _
  refine wpAny_bind (wpAny_field hz rfl (x := .bool false) rfl ?_); show wpAny _ _ (field (.ref z) 3 >>= _) _ _ _
  refine wpAny_bind (wpAny_field hz rfl (x := .ref TI) rfl (wpAny_bind (wpAny_seqItems hTI rfl ?_)))
  show wpAny _ _ (Builtin.SmallTypes.ownedTupleIsFree (.ref z) >>= _) _ _ _
  refine wpAny_bind (dead_free hz no ?_); simp only [if_true]
  refine wpAny_bind (wpAny_rule (wpAny_bind (wpAny_field hz rfl (x := .ref TO) rfl (wpAny_bind (wpAny_setField_rec hz (by simp) fun g1 hz1 b1 => ?_)))))
  replace hz1 : ZipF g1 z TI TO .ellipsis f := hz1
  refine wpAny_bind ?_; simp only [List.zipIdx_cons, List.zipIdx_nil, List.forIn_cons, List.forIn_nil]
  refine wpAny_bind (wpAny_bind (wpAny_onRaise ?_)); show wpAny _ _ (Builtin.SmallTypes.nextOf (.ref i1) >>= _) _ _ _
  refine wpAny_bind (wpAny_nextOf_list_item (h1.extBut b1.extBut D.i1z) (hl1.extBut b1.extBut D.l1z) hx fun g2 n2 b2 => wpAny_pure ?_)
  replace b2 : Heap.SameBut i1 g1 g2 := b2
  have to2 : IsPair g2 TO a b := b2.extBut _ _ D.TOi1 (b1.extBut _ _ D.TOz hTO)
  refine wpAny_bind (wpAny_seqItems to2 rfl (wpAny_bind (wpAny_updateSeq_pair to2 fun g3 to3 b3 => wpAny_bind (wpAny_letGo (wpAny_pure ?_)))))
  replace to3 : IsPair g3 TO x b := to3
  replace b3 : Heap.SameBut TO g2 g3 := b3
  refine wpAny_bind (wpAny_bind (wpAny_onRaise ?_)); show wpAny _ _ (Builtin.SmallTypes.nextOf (.ref i2) >>= _) _ _ _
  have m2 : g3.IsListIter i2 l2 k := ((h2.extBut b1.extBut D.i2z).extBut b2.extBut D.i12.symm).extBut b3.extBut D.TOi2.symm
  have ml : g3.IsList l2 ys := ((hl2.extBut b1.extBut D.l2z).extBut b2.extBut D.l2i1).extBut b3.extBut D.l2TO
  refine wpAny_bind (wpAny_nextOf_list_item m2 ml hy fun g4 n4 b4 => wpAny_pure ?_)
  replace b4 : Heap.SameBut i2 g3 g4 := b4
  have to4 : IsPair g4 TO x b := b4.extBut _ _ D.TOi2 to3
  refine wpAny_bind (wpAny_seqItems to4 rfl (wpAny_bind (wpAny_updateSeq_pair to4 fun g5 to5 b5 => wpAny_bind (wpAny_letGo (wpAny_pure (wpAny_pure ?_))))))
  replace to5 : IsPair g5 TO x y := to5
  replace b5 : Heap.SameBut TO g4 g5 := b5
  refine wpAny_bind (wpAny_seqItems to5 rfl (wpAny_bind (wpAny_newTuple ?_)))
  have sz : g5.objs.size = s.heap.objs.size := b5.1.trans (b4.1.trans (b3.1.trans (b2.1.trans b1.1)))
  have keep5 : ∀ c o, c ≠ z → c ≠ TO → c ≠ i1 → c ≠ i2 → s.heap.get? c = some o → g5.get? c = some o := fun c o c1 c2 c3 c4 e =>
    b5.extBut c o c2 (b4.extBut c o c4 (b3.extBut c o c2 (b2.extBut c o c3 (b1.extBut c o c1 e))))
  have hz5 : ZipF g5 z TI TO .ellipsis f := b5.extBut _ _ D.TOz.symm (b4.extBut _ _ D.i2z.symm (b3.extBut _ _ D.TOz.symm (b2.extBut _ _ D.i1z.symm hz1)))
  have n15 : g5.IsListIter i1 l1 (k + 1) := ((n2.extBut b3.extBut D.TOi1.symm).extBut b4.extBut D.i12).extBut b5.extBut D.TOi1.symm
  have n25 : g5.IsListIter i2 l2 (k + 1) := n4.extBut b5.extBut D.TOi2.symm
  have lz : z < g5.objs.size := Heap.lt_size hz5
  show wpAny _ _ (Builtin.SmallTypes.ownedTupleHandOut (.ref z) (.ref g5.objs.size) >>= _) _ _ _
  refine wpAny_bind ?_; unfold Builtin.SmallTypes.ownedTupleHandOut
  have hz6 : ZipF (g5.push { cls := .type "tuple", data := .seq #[x, y] }) z TI TO .ellipsis f := Heap.get?_push_of_some _ hz5
  refine wpAny_bind (wpAny_setField_rec hz6 (by simp) fun g7 hz7 b7 => ?_)
  replace hz7 : ZipF g7 z TI TO (rawInt g5.objs.size) f := hz7
  refine wpAny_setField_rec hz7 (by simp) fun g8 hz8 b8 => wpAny_pure ⟨_, rfl, ?_⟩
  replace hz8 : IsZip g8 z TI TO (rawInt g5.objs.size) := hz8
  have up : ∀ c o, c ≠ z → g5.get? c = some o → g8.get? c = some o := fun c o c1 e => b8.extBut _ _ c1 (b7.extBut _ _ c1 (Heap.get?_push_of_some _ e))
  have np : IsPair g8 g5.objs.size x y := b8.extBut _ _ (Nat.ne_of_gt lz) (b7.extBut _ _ (Nat.ne_of_gt lz) (Heap.get?_push_size _ rfl))
  show Q (.ref g5.objs.size) _
  rw [sz] at hz8 np ⊢
  exact q g8 hz8 (up _ _ D.TOz to5) (n15.at fun o e => up _ o D.i1z e) (n25.at fun o e => up _ o D.i2z e) np fun c o c1 c2 c3 c4 e => up c o c1 (keep5 c o c1 c2 c3 c4 e)
theorem gone_end {z TI TO T i1 i2 l1 l2 : Addr} {f : Bool} {k : Nat} {xs ys : Array Value} {Q : Fin → Shared → Prop} (hh : A.handled = none) (G : Gone s.heap z TI TO T f i1 i2 l1 l2 k xs ys) (he : xs[k]? = none)
    (q : ∀ h' e, (∀ c o, c ≠ z → c ≠ TO → c ≠ i1 → c ≠ i2 → s.heap.get? c = some o → h'.get? c = some o) → (∃ o, h'.get? e = some o ∧ o.cls = .type "StopIteration") → E (.ref e) { s with heap := h' }) :
    wpAny (model prog w) A (Builtin.«zip.__next__» ⟨[.ref z], []⟩) Q E s := by
  obtain ⟨D, hz, no, hTI, ⟨a, b, hTO⟩, h1, h2, hl1, hl2⟩ := G
  show wpAny _ _ (field (.ref z) 2 >>= _) _ _ _
  refine wpAny_bind (wpAny_field hz rfl (x := .bool false) rfl ?_); show wpAny _ _ (field (.ref z) 3 >>= _) _ _ _
  refine wpAny_bind (wpAny_field hz rfl (x := .ref TI) rfl (wpAny_bind (wpAny_seqItems hTI rfl ?_)))
  show wpAny _ _ (Builtin.SmallTypes.ownedTupleIsFree (.ref z) >>= _) _ _ _
  refine wpAny_bind (dead_free hz no ?_); simp only [if_true]
  refine wpAny_bind (wpAny_rule (wpAny_bind (wpAny_field hz rfl (x := .ref TO) rfl (wpAny_bind (wpAny_setField_rec hz (by simp) fun g1 hz1 b1 => ?_)))))
  replace hz1 : ZipF g1 z TI TO .ellipsis f := hz1
  refine wpAny_bind ?_; simp only [List.zipIdx_cons, List.zipIdx_nil, List.forIn_cons, List.forIn_nil]
  refine wpAny_bind (wpAny_bind (wpAny_onRaise ?_)); show wpAny _ _ (Builtin.SmallTypes.nextOf (.ref i1) >>= _) _ _ _
  refine wpAny_bind (wpAny_nextOf_list_end hh (h1.extBut b1.extBut D.i1z) (hl1.extBut b1.extBut D.l1z) he fun g2 e b2 hs => ?_)
  obtain ⟨oe, hoe, hce⟩ := hs
  have hz2 : ZipF g2 z TI TO .ellipsis f := b2 _ _ D.i1z.symm hz1
  have ez : e ≠ z := fun y => by subst y; rw [hz2] at hoe; cases hoe; simp at hce
  exact wpAny_setField_rec hz2 (by simp) fun g3 _ b3 => q g3 e (fun c o c1 _ c3 _ y => b3.extBut _ _ c1 (b2 _ _ c3 (b1.extBut _ _ c1 y))) ⟨oe, b3.extBut _ _ ez hoe, hce⟩
end
end VK
namespace VK
open PySem PySem.Spec PyProof.Rows L2
def ItzN (K : PySem.W.Frag) (a b : Addr) : It :=
  ⟨fun i H => ∃ (xs ys : List V), SqL K H a xs ∧ SqL K H b ys ∧ xs.length = ys.length ∧ i < xs.length,
   fun i H v H' => ∃ T x y, v = .ref T ∧ H T = none ∧ H' = upd H T (.tup [x, y]) ∧ (∀ xs, SqL K H a xs → xs[i]? = some x) ∧ ∀ ys, SqL K H b ys → ys[i]? = some y,
   fun i H => ∃ xs ys : List V, SqL K H a xs ∧ SqL K H b ys ∧ xs.length ≤ i⟩
theorem name_go {M : Model} {A : Around} {E : Value → Shared → Prop} {s : Shared} {x : Str} {p : Pos} {it v : Value} {Q : Unit → Shared → Prop} (h : Q () s) : wpAny M A (letOwnedTupleGo (.Name x p) it v) Q E s := by
  unfold letOwnedTupleGo
  exact wpAny_pure h
def ZSt (z TI TO : Addr) (h : Heap) : Prop := IsZip h z TI TO .none ∨ ∃ T f, IsZipHeld h z TI TO T f
theorem pyNext_gone_item {prog : Program} {w : World} {A : Around} {E : Value → Shared → Prop} {s : Shared} {z TI TO T i1 i2 l1 l2 : Addr} {f : Bool} {k : Nat} {xs ys : Array Value} {x y : Value} {Q : Option Value → Shared → Prop} (G : Gone s.heap z TI TO T f i1 i2 l1 l2 k xs ys) (hx : xs[k]? = some x) (hy : ys[k]? = some y)
    (q : ∀ h', IsZip h' z TI TO (rawInt s.heap.objs.size) → IsPair h' TO x y → h'.IsListIter i1 l1 (k + 1) → h'.IsListIter i2 l2 (k + 1) → IsPair h' s.heap.objs.size x y →
      (∀ c o, c ≠ z → c ≠ TO → c ≠ i1 → c ≠ i2 → s.heap.get? c = some o → h'.get? c = some o) → Q (some (.ref s.heap.objs.size)) { s with heap := h' }) :
    wpAny (model prog w) A (pyNext (.ref z)) Q E s := by
  have ty : s.TypeIs (.ref z) "zip" := ⟨_, G.hz, rfl⟩
  unfold pyNext
  refine wpAny_bind (wpAny_attempt (wpAny_callSpecial?_slot (name := Str.ofString "__next__") ty F.slot_zip_next (wpAny_call_entry F.slot_zip_next ty F.entry_zip_next ?_ (F.args_zip_next_1 _))))
  exact gone_item G hx hy fun h' a1 a2 a3 a4 a5 a6 => wpAny_pure (q h' a1 a2 a3 a4 a5 a6)
theorem pyNext_gone_end {prog : Program} {w : World} {A : Around} {E : Value → Shared → Prop} {s : Shared} {z TI TO T i1 i2 l1 l2 : Addr} {f : Bool} {k : Nat} {xs ys : Array Value} {Q : Option Value → Shared → Prop} (hh : A.handled = none) (G : Gone s.heap z TI TO T f i1 i2 l1 l2 k xs ys) (he : xs[k]? = none)
    (q : ∀ h', (∀ c o, c ≠ z → c ≠ TO → c ≠ i1 → c ≠ i2 → s.heap.get? c = some o → h'.get? c = some o) → Q none { s with heap := h' }) :
    wpAny (model prog w) A (pyNext (.ref z)) Q E s := by
  have ty : s.TypeIs (.ref z) "zip" := ⟨_, G.hz, rfl⟩
  unfold pyNext
  refine wpAny_bind (wpAny_attempt (wpAny_callSpecial?_slot (name := Str.ofString "__next__") ty F.slot_zip_next (wpAny_call_entry F.slot_zip_next ty F.entry_zip_next ?_ (F.args_zip_next_1 _))))
  refine gone_end hh G he fun h' e hk hs => ?_
  obtain ⟨o, ho, hc⟩ := hs
  exact wpAny_bind (wpAny_isInstance (T := "StopIteration") (b := true) ⟨o, ho, hc⟩ isSubtype_stop (wpAny_pure (q _ hk)))
theorem turn_zipN {P : Program} {w : World} {K : PySem.W.Frag} {nx : Str} {np : Pos} {a b z TI TO i1 i2 : Addr} (D : ZipApart z TI TO i1 i2 a b) :
    Turn P w K (.Name nx np) (ItzN K a b) [z, TI, TO, i1, i2] z (fun i h => ZSt z TI TO h ∧ IsPair h TI (.ref i1) (.ref i2) ∧ (∃ x y, IsPair h TO x y) ∧ h.IsListIter i1 a i ∧ h.IsListIter i2 b i) where
  mem := by simp
  obj := fun i h st c hc => by
    obtain ⟨hz, hTI, ⟨x, y, hTO⟩, ⟨o1, e1, _, d1⟩, ⟨o2, e2, _, d2⟩⟩ := st
    simp only [List.mem_cons, List.not_mem_nil, or_false] at hc
    rcases hc with rfl | rfl | rfl | rfl | rfl
    · rcases hz with hz | ⟨T, f, hz⟩ <;> exact ⟨_, hz, fun v q => nomatch q⟩
    · exact ⟨_, hTI, fun v q => nomatch q⟩
    · exact ⟨_, hTO, fun v q => nomatch q⟩
    · exact ⟨o1, e1, fun v q => by rw [d1] at q; cases q⟩
    · exact ⟨o2, e2, fun v q => by rw [d2] at q; cases q⟩
  keep := fun i h h' st k => by
    obtain ⟨hz, hTI, ⟨x, y, hTO⟩, h1, h2⟩ := st
    refine ⟨?_, k TI (by simp) _ hTI, ⟨x, y, k TO (by simp) _ hTO⟩, h1.at fun o q => k i1 (by simp) o q, h2.at fun o q => k i2 (by simp) o q⟩
    rcases hz with hz | ⟨T, f, hz⟩
    · exact .inl (k z (by simp) _ hz)
    · exact .inr ⟨T, f, k z (by simp) _ hz⟩
  item := by
    intro X hP hw hK hc i pins s σ H E I hf st hg
    subst hP hw hK
    obtain ⟨hz, hTI, ⟨x0, y0, hTO⟩, h1, h2⟩ := st
    obtain ⟨xs, ys, hqx, hqy, hlen, hlt⟩ := hg
    obtain ⟨its, rv, p, _⟩ := I.list hqx
    obtain ⟨its2, rv2, p2, _⟩ := I.list hqy
    obtain ⟨u, hu, ru⟩ := rv.get (List.getElem?_eq_getElem hlt)
    obtain ⟨u2, hu2, ru2⟩ := rv2.get (List.getElem?_eq_getElem (show i < ys.length by omega))
    have zl : z < s.heap.objs.size := by rcases hz with hz | ⟨_, _, hz⟩ <;> exact Heap.lt_size hz
    have core : ∀ h' : Heap, ZSt z TI TO h' → (∃ x y, IsPair h' TO x y) → h'.IsListIter i1 a (i + 1) → h'.IsListIter i2 b (i + 1) → IsPair h' s.heap.objs.size u u2 →
        (∀ c o, c ≠ z → c ≠ TO → c ≠ i1 → c ≠ i2 → s.heap.get? c = some o → h'.get? c = some o) →
        ∃ u', some (Value.ref s.heap.objs.size) = some u' ∧ wpAny (model X.prog X.w) X.A (letOwnedTupleGo (.Name nx np) (.ref z) u') (fun _ s2 => ∃ x H', Inv X pins σ H' s2 ∧ RelV x u' ∧ (ItzN X.K a b).yld i H x H' ∧
          (ZSt z TI TO s2.heap ∧ IsPair s2.heap TI (.ref i1) (.ref i2) ∧ (∃ x y, IsPair s2.heap TO x y) ∧ s2.heap.IsListIter i1 a (i + 1) ∧ s2.heap.IsListIter i2 b (i + 1)) ∧ ∀ c ∈ [z, TI, TO, i1, i2], H' c = none) E { s with heap := h' } := by
      intro h' z' to' n1 n2 hT hk
      refine ⟨_, rfl, name_go ?_⟩
      have new : ObjOk X.prog X.w (upd H s.heap.objs.size (.tup [xs[i], ys[i]])) h' s.heap.objs.size (.tup [xs[i], ys[i]]) :=
        ⟨by show 2 ≤ sizeLine; decide, [u, u2], .cons ru (.cons ru2 .nil), ⟨_, hT, rfl, _, rfl⟩⟩
      have I1 : Inv X pins σ (upd H s.heap.objs.size (.tup [xs[i], ys[i]])) { s with heap := h' } :=
        I.turnedNew (t' := s.toks) (ch := [z, TI, TO, i1, i2]) (fun c o hb q => by
          simp only [List.mem_cons, List.not_mem_nil, or_false, not_or] at hb
          exact hk c o hb.1 hb.2.2.1 hb.2.2.2.1 hb.2.2.2.2 q) hf (Nat.le_refl _) new
      refine ⟨.ref s.heap.objs.size, _, I1, rfl, ⟨_, xs[i], ys[i], rfl, I.hok.fresh (Nat.le_refl _), rfl, fun l hl => by rw [I.list_inj hl hqx]; exact List.getElem?_eq_getElem hlt, fun l hl => by rw [I.list_inj hl hqy]; exact List.getElem?_eq_getElem _⟩,
        ⟨z', hk _ _ D.TIz D.TITO D.TIi1 D.TIi2 hTI, to', n1, n2⟩, fun c hcm => ?_⟩
      have lt : c < s.heap.objs.size := by
        simp only [List.mem_cons, List.not_mem_nil, or_false] at hcm
        rcases hcm with rfl | rfl | rfl | rfl | rfl
        · exact zl
        · exact Heap.lt_size hTI
        · exact Heap.lt_size hTO
        · obtain ⟨_, e1, _⟩ := h1; exact Heap.lt_size e1
        · obtain ⟨_, e2, _⟩ := h2; exact Heap.lt_size e2
      rw [upd_ne (Nat.ne_of_lt lt)]
      exact (hf c hcm).1
    rcases hz with hz | ⟨T, f, hz⟩
    · exact wpAny_pyNext_zip_item D hz hTI hTO h1 h2 p.isList p2.isList (x := u) (y := u2) (by simpa using hu) (by simpa using hu2) fun h' a1 a2 a3 a4 a5 _ a7 => core h' (.inr ⟨_, _, a1⟩) ⟨_, _, a2⟩ a3 a4 a5 a7
    · cases al : s.heap.get? T with
      | some oT => exact wpAny_pyNext_zip_item_held D hz al hTI h1 h2 p.isList p2.isList (x := u) (y := u2) (by simpa using hu) (by simpa using hu2) fun h' a1 a3 a4 a5 _ a7 => core h' (.inr ⟨_, _, a1⟩) ⟨_, _, a7 TO _ D.TOz D.TOi1 D.TOi2 hTO⟩ a3 a4 a5 fun c o c1 _ c3 c4 e => a7 c o c1 c3 c4 e
      | none => exact pyNext_gone_item ⟨D, hz, al, hTI, ⟨_, _, hTO⟩, h1, h2, p.isList, p2.isList⟩ (x := u) (y := u2) (by simpa using hu) (by simpa using hu2) fun h' a1 a2 a3 a4 a5 a6 => core h' (.inr ⟨_, _, a1⟩) ⟨_, _, a2⟩ a3 a4 a5 a6
  done := by
    intro X hP hw hK hc i pins s σ H E I hf st hg
    subst hP hw hK
    obtain ⟨hz, hTI, ⟨x0, y0, hTO⟩, h1, h2⟩ := st
    obtain ⟨xs, ys, hqx, hqy, hend⟩ := hg
    obtain ⟨its, rv, p, _⟩ := I.list hqx
    obtain ⟨its2, rv2, p2, _⟩ := I.list hqy
    have l1 := rv.length
    have he : its.toArray[i]? = none := by simp; omega
    have core : ∀ h' : Heap, (∀ c o, c ≠ z → c ≠ TO → c ≠ i1 → c ≠ i2 → s.heap.get? c = some o → h'.get? c = some o) → (none : Option Value) = none ∧ Inv X pins σ H { s with heap := h' } := fun h' hk =>
      ⟨rfl, I.turnedL (t' := s.toks) (ch := [z, TI, TO, i1, i2]) (fun c o hb q => by
        simp only [List.mem_cons, List.not_mem_nil, or_false, not_or] at hb
        exact hk c o hb.1 hb.2.2.1 hb.2.2.2.1 hb.2.2.2.2 q) hf⟩
    rcases hz with hz | ⟨T, f, hz⟩
    · exact wpAny_pyNext_zip_end (I.ok.hd hc) D hz hTI hTO h1 h2 p.isList p2.isList (.inl he) fun h' hk => core h' hk
    · cases al : s.heap.get? T with
      | some oT => exact wpAny_pyNext_zip_end_held (I.ok.hd hc) D hz al hTI h1 h2 p.isList p2.isList (.inl he) fun h' hk => core h' fun c o c1 _ c3 c4 e => hk c o c1 c3 c4 e
      | none => exact pyNext_gone_end (I.ok.hd hc) ⟨D, hz, al, hTI, ⟨_, _, hTO⟩, h1, h2, p.isList, p2.isList⟩ he fun h' hk => core h' hk
  self := fun A i s Q E st h => by
    have ty : s.TypeIs (.ref z) "zip" := by rcases st.1 with hz | ⟨T, f, hz⟩ <;> exact ⟨_, hz, rfl⟩
    refine wpAny_pyIter_slot ty F.slot_zip_iter (wpAny_call_entry F.slot_zip_iter ty F.entry_zip_iter ?_ (F.args_zip_iter_1 _)); show wpAny _ _ (ret (.ref z)) _ _ s
    exact wpAny_pure ⟨.ref z, rfl, "zip", _, ty, F.slot_zip_next.lookup, h⟩
def iZipN (K : PySem.W.Frag) (ta : TA) : TI := fun σ H R => ta σ H fun vs H1 => ∃ a b xs ys, vs = [.ref a, .ref b] ∧ SqL K H1 a xs ∧ SqL K H1 b ys ∧ R (ItzN K a b) H1
theorem pi_zipN {X : Cx} {e e2 : Expr} {ta : TA} {p pos np : Pos} {nx : Str} (hg : Gl X "zip") (hm : X.mg "zip" = none) (ha : PA X [e, e2] ta)
    (hs : starEach [e, e2] X.env = (false, eval e X.env) :: starEach [e2] X.env := by rfl) (hpl : (backTo pos (starEach [e2] X.env)).any (·.1) = false := by rfl) :
    PI X (.Name nx np) (.Call (.Name "zip" p) [e, e2] [] pos) (iZipN X.K ta) := by
  refine ⟨fun pins s σ H R I h => ?_⟩
  refine Call_ (ld_blt I hg hm PyProof.Rows.boot_zip (PyProof.Rows.callWith_type1 (thn (ha.run pos pins s σ H _ I h) fun us s1 ⟨vs, G, J, r1, q1⟩ => ?_) hs hpl))
  obtain ⟨a, b, xs, ys, ex, hqx, hqy, q⟩ := q1
  subst ex
  cases r1 with
  | cons r rr =>
    cases rr with
    | cons r' rr =>
      cases rr
      cases r
      cases r'
      obtain ⟨its, rv, p1, _⟩ := J.list hqx
      obtain ⟨its2, rv2, p2, _⟩ := J.list hqy
      refine call_zip_2 p1.isList p2.isList fun h' hz hTI hTO h1 h2 hsz hk => wpAny_pyIter_zip hz ?_
      have J2 : Inv X pins σ G { s1 with heap := h' } := J.kept (t' := s1.toks) hk
      refine ⟨s1.heap.objs.size + 4, [s1.heap.objs.size + 4, s1.heap.objs.size + 2, s1.heap.objs.size + 3, s1.heap.objs.size, s1.heap.objs.size + 1], _, _, G, rfl, J2,
        turn_zipN (PySem.W.ktu_apart s1.heap.objs.size a b p1.lt p2.lt), ⟨.inl hz, hTI, ⟨_, _, hTO⟩, h1, h2⟩, fun c hc => ?_, q⟩
      have le : s1.heap.objs.size ≤ c := by
        simp only [List.mem_cons, List.not_mem_nil, or_false] at hc
        rcases hc with rfl | rfl | rfl | rfl | rfl <;> omega
      exact J.fpOk le (J.hok.fresh le)
/-- a comprehension over zip of two lists of one length, its name one -/
theorem lc_zipN {K : PySem.W.Frag} {a b : Addr} {xs ys : List V} {g : TG} {tt : TT} {te : TE} {vs : List Nat} {σ : L2.St} {H1 : Hp} {D : Addr} {Qd : Hp → Prop} (hl : xs.length = ys.length) (Pv : Nat → Hp → Prop) (h0 : Pv 0 (upd H1 D (.lst [])))
    (hq : ∀ i H, Pv i H → SqL K H a xs ∧ SqL K H b ys)
    (hs : ∀ (i : Nat) (x y : V) (T : Addr) (H : Hp), xs[i]? = some x → ys[i]? = some y → Pv i H → H T = none → g (.ref T) (wipe σ vs) (upd H T (.tup [x, y])) fun σ2 H2 => wipe σ2 vs = wipe σ vs ∧ tt σ2 H2 fun b H3 =>
      if b = true then te σ2 H3 fun y H4 => ∃ acc, H4 D = some (.lst acc) ∧ acc.length < sizeLine ∧ Pv (i + 1) (upd H4 D (.lst (acc ++ [y]))) else Pv (i + 1) H3) (hd : ∀ H, Pv xs.length H → Qd H) :
    ∃ W : Nat → Nat → Hp → Prop, (∃ m, W 0 m (upd H1 D (.lst []))) ∧ ∀ i m H, W i m H →
      ((ItzN K a b).stop i H ∧ Qd H) ∨ ((ItzN K a b).go i H ∧ ∃ Nx : Hp → Prop, (∀ H', Nx H' → ∃ m', m' < m ∧ W (i + 1) m' H') ∧ ∀ x H', (ItzN K a b).yld i H x H' → g x (wipe σ vs) H' fun σ2 H2 => wipe σ2 vs = wipe σ vs ∧ tt σ2 H2 fun b H3 =>
        if b = true then te σ2 H3 fun y H4 => ∃ acc, H4 D = some (.lst acc) ∧ acc.length < sizeLine ∧ Nx (upd H4 D (.lst (acc ++ [y]))) else Nx H3) := by
  refine ⟨fun i m H => m = xs.length - i ∧ i ≤ xs.length ∧ Pv i H, ⟨xs.length, by simp, Nat.zero_le _, h0⟩, ?_⟩
  rintro i m H ⟨rfl, hi, p⟩
  obtain ⟨qx, qy⟩ := hq i H p
  by_cases lt : i < xs.length
  · refine .inr ⟨⟨xs, ys, qx, qy, hl, lt⟩, Pv (i + 1), fun H' p' => ⟨xs.length - (i + 1), by omega, rfl, lt, p'⟩, fun v H' y => ?_⟩
    obtain ⟨T, x', y', rfl, hT, rfl, f1, f2⟩ := y
    exact hs i x' y' T H (f1 xs qx) (f2 ys qy) p hT
  · have e : i = xs.length := by omega
    subst e
    exact .inl ⟨⟨xs, ys, qx, qy, Nat.le_refl _⟩, hd H p⟩
end VK
namespace VK
open PySem PySem.Spec PyProof.Rows L2
/-! ### a def of the text: where it stands, and what it promises -/
structure Def (P : Program) (w : World) (K : PySem.W.Frag) (mg : Str → Option Value) (base : Heap) (CX : CXT) (k : Nat) (x : Str) (ps : List Str) (sp : Sp) : Prop where
  ex : ∃ (f : Addr) (fd : FuncData), mg x = some (.ref f) ∧ PySem.W.keepIn K (.ref f) = true ∧ Binds K fd ps [] ∧ FnOk P w K mg base CX k f fd ps sp
section
variable {X : Cx} {CX : CXT} {k : Nat} {x : Str} {ps : List Str} {sp : Sp} {E : XK} {e : Expr} {es : List Expr} {t : TA} {p pos : Pos}
theorem pe_callD (D : Def X.prog X.w X.K X.mg X.base CX k x ps sp) (hr : Room k X.A) (hg : Gl X x) (hx : Passes CX X E) (ha : PA X (e :: es) t) (hdb : (x == ("__debug__" : Str)) = false := by decide)
    (he : starEach (e :: es) X.env = (false, eval e X.env) :: starEach es X.env := by rfl) (hpl : (backTo pos (starEach es X.env)).any (·.1) = false := by rfl) :
    PE X (.Call (.Name x p) (e :: es) [] pos) (tCall sp [] E t) := by
  obtain ⟨f, fd, hm, hk, hb, F⟩ := D.ex
  exact pe_call F hr hg hm hk hb .nil hx ha hdb he hpl
theorem pe_callDS {E : L2.St → XK} (D : Def X.prog X.w X.K X.mg X.base CX k x ps sp) (hr : Room k X.A) (hg : Gl X x) (hx : ∀ σ, PassesAt CX X σ (E σ)) (ha : PA X (e :: es) t) (hdb : (x == ("__debug__" : Str)) = false := by decide)
    (he : starEach (e :: es) X.env = (false, eval e X.env) :: starEach es X.env := by rfl) (hpl : (backTo pos (starEach es X.env)).any (·.1) = false := by rfl) :
    PE X (.Call (.Name x p) (e :: es) [] pos) (tCallS sp E t) := by
  obtain ⟨f, fd, hm, hk, hb, F⟩ := D.ex
  exact pe_callS F hr hg hm hk hb hx ha hdb he hpl
end
theorem pi_or {X : Cx} {tg it : Expr} {w1 w2 : TI} (h1 : PI X tg it w1) (h2 : PI X tg it w2) : PI X tg it (fun σ H R => w1 σ H R ∨ w2 σ H R) :=
  ⟨fun pins s σ H R I h => h.elim (fun q => h1.run pins s σ H R I q) fun q => h2.run pins s σ H R I q⟩
theorem u65 {k : Nat} {A : Around} (r : Room k A) : A.units + 65 < cLine := by
  have := r.un
  omega
theorem u1 {k : Nat} {A : Around} (r : Room k A) : A.units + 1 < cLine := by
  have := r.un
  omega
/-! ### heaps that keep all but one -/
def But (f : Addr) (H H' : Hp) : Prop := ∀ b o, H b = some o → b ≠ f → H' b = some o
theorem upd_new {H : Hp} {a q : Addr} {o o' : HO} (hq : H q = none) (h : H a = some o) : upd H q o' a = some o := by
  rw [upd_ne (ne_of_none h hq)]
  exact h
theorem upd_old {H : Hp} {a f : Addr} {o o' : HO} (hf : a ≠ f) (h : H a = some o) : upd H f o' a = some o := by
  rw [upd_ne hf]
  exact h
theorem same_new {H : Hp} {q : Addr} {o' : HO} (hq : H q = none) : Same H (upd H q o') := fun _ _ h => upd_new hq h
theorem sqT_same {K : PySem.W.Frag} {H H' : Hp} {a : Addr} {xs : List V} (e : Same H H') (h : SqT K H a xs) : SqT K H' a xs := by
  rcases h with (h | ⟨o, h⟩) | h
  · exact .inl (.inl (e _ _ h))
  · exact .inl (.inr ⟨o, e _ _ h⟩)
  · exact .inr h
theorem but_same {f : Addr} {H H' : Hp} (e : Same H H') : But f H H' := fun b o h _ => e b o h
theorem but_trans {f : Addr} {H H1 H2 : Hp} (a : But f H H1) (b : But f H1 H2) : But f H H2 := fun c o h ne => b c o (a c o h ne) ne
theorem but_upd {f : Addr} {H : Hp} {o : HO} : But f H (upd H f o) := fun b u h ne => upd_old ne h
theorem sqT_but {K : PySem.W.Frag} {f : Addr} {H H' : Hp} {a : Addr} {xs : List V} {u : List V} (e : But f H H') (hf : H f = some (.lst u)) (h : SqT K H a xs) : SqT K H' a xs := by
  rcases h with (h | ⟨o, h⟩) | h
  · exact .inl (.inl (e _ _ h (ne_of h hf (by intro z; cases z))))
  · exact .inl (.inr ⟨o, e _ _ h (ne_of h hf (by intro z; cases z))⟩)
  · exact .inr h
theorem sqL_but {K : PySem.W.Frag} {f : Addr} {H H' : Hp} {a : Addr} {xs : List V} (e : But f H H') (ne : a ≠ f) (h : SqL K H a xs) : SqL K H' a xs := by
  rcases h with (h | ⟨o, h⟩) | h
  · exact .inl (.inl (e _ _ h ne))
  · exact .inl (.inr ⟨o, e _ _ h ne⟩)
  · exact .inr h
end VK
namespace VK
open PySem PySem.Spec PyProof.Rows L2
/-! ### steps of readings, each concluding the form in which a reading opens -/
variable {K : PySem.W.Frag} {H : Hp} {p q : Addr} {xs ys : List V} {v x y : V} {i j : Int}
theorem v_I {C : Int → Int → Prop} {R : Int → Int → Prop} (hc : C i j) (r : R i j) : ∃ i' j', V.int i = V.int i' ∧ V.int j = V.int j' ∧ C i' j' ∧ R i' j' := ⟨i, j, rfl, rfl, hc, r⟩
theorem v_ixL {R : V → Prop} (h : SqL K H p xs) (ha : atI xs i = some v) (r : R v) : ∃ p' xs' i' v', V.ref p = V.ref p' ∧ V.int i = V.int i' ∧ SqL K H p' xs' ∧ atI xs' i' = some v' ∧ R v' := ⟨p, xs, i, v, rfl, rfl, h, ha, r⟩
theorem v_ixT {R : V → Prop} (h : SqT K H p xs) (ha : atI xs i = some v) (r : R v) : ∃ p' xs' i' v', V.ref p = V.ref p' ∧ V.int i = V.int i' ∧ SqT K H p' xs' ∧ atI xs' i' = some v' ∧ R v' := ⟨p, xs, i, v, rfl, rfl, h, ha, r⟩
theorem v_setL {R : Addr → List V → Nat → Prop} {n : Nat} (h : H p = some (.lst xs)) (ha : ixN xs.length i = some n) (r : R p xs n) :
    ∃ p' xs' k j, V.ref p = V.ref p' ∧ V.int i = V.int k ∧ H p' = some (.lst xs') ∧ ixN xs'.length k = some j ∧ R p' xs' j := ⟨p, xs, i, n, rfl, rfl, h, ha, r⟩
theorem v_lenL {R : List V → Prop} (h : SqL K H p xs) (r : R xs) : ∃ p' ys, [V.ref p] = [.ref p'] ∧ (SqL K H p' ys ∨ SqT K H p' ys) ∧ R ys := ⟨p, xs, rfl, .inl h, r⟩
theorem v_lenT {R : List V → Prop} (h : SqT K H p xs) (r : R xs) : ∃ p' ys, [V.ref p] = [.ref p'] ∧ (SqL K H p' ys ∨ SqT K H p' ys) ∧ R ys := ⟨p, xs, rfl, .inr h, r⟩
theorem v_app {R : Addr → List V → V → Prop} (h : H p = some (.lst xs)) (hz : xs.length < sizeLine) (r : R p xs v) :
    ∃ l xs' y, V.ref p = .ref l ∧ [v] = [y] ∧ H l = some (.lst xs') ∧ xs'.length < sizeLine ∧ R l xs' y := ⟨p, xs, v, rfl, rfl, h, hz, r⟩
theorem v_cat {R : List V → List V → Prop} (h1 : H p = some (.lst xs)) (h2 : H q = some (.lst ys)) (hz : xs.length + ys.length ≤ sizeLine) (r : R xs ys) :
    ∃ l b xs' zs, V.ref p = .ref l ∧ V.ref q = .ref b ∧ H l = some (.lst xs') ∧ H b = some (.lst zs) ∧ xs'.length + zs.length ≤ sizeLine ∧ R xs' zs := ⟨p, q, xs, ys, rfl, rfl, h1, h2, hz, r⟩
theorem v_ext {R : Addr → List V → List V → Prop} (h1 : H p = some (.lst xs)) (h2 : H q = some (.lst ys)) (hz : xs.length + ys.length ≤ sizeLine) (r : R p xs ys) :
    ∃ l b xs' zs, V.ref p = .ref l ∧ [V.ref q] = [.ref b] ∧ H l = some (.lst xs') ∧ H b = some (.lst zs) ∧ xs'.length + zs.length ≤ sizeLine ∧ R l xs' zs := ⟨p, q, xs, ys, rfl, rfl, h1, h2, hz, r⟩
theorem v_slL {R : List V → Prop} (h : SqL K H p xs) (r : R xs) : ∃ a xs', V.ref p = .ref a ∧ SqL K H a xs' ∧ R xs' := ⟨p, xs, rfl, h, r⟩
theorem v_slT {R : Addr → List V → Prop} (h : SqT K H p xs) (r : R p xs) : ∃ a xs', V.ref p = .ref a ∧ SqT K H a xs' ∧ R a xs' := ⟨p, xs, rfl, h, r⟩
theorem v_catT {R : Addr → Addr → List V → List V → Prop} (h1 : SqT K H p xs) (h2 : SqT K H q ys) (r : R p q xs ys) :
    ∃ a b xs' ys', V.ref p = .ref a ∧ V.ref q = .ref b ∧ SqT K H a xs' ∧ SqT K H b ys' ∧ R a b xs' ys' := ⟨p, q, xs, ys, rfl, rfl, h1, h2, r⟩
theorem small {n : Nat} (h : n ≤ 100000) : n ≤ sizeLine := Nat.le_trans h (by decide)
theorem small' {n : Nat} (h : n < 100000) : n < sizeLine := Nat.lt_of_lt_of_le h (by decide)
theorem v_ifd {c : Prop} [Decidable c] {A B : Prop} (h1 : c → A) (h2 : ¬ c → B) : if decide c = true then A else B := by
  by_cases h : c
  · rw [decide_eq_true h]
    exact h1 h
  · rw [decide_eq_false h, if_neg Bool.false_ne_true]
    exact h2 h
theorem v_ifn {c : Prop} [Decidable c] {A B : Prop} (h1 : ¬ c → A) (h2 : c → B) : if (!decide c) = true then A else B := by
  by_cases h : c
  · rw [decide_eq_true h]
    exact h2 h
  · rw [decide_eq_false h]
    exact h1 h
theorem v_ifb {b : Bool} {A B : Prop} (h1 : b = true → A) (h2 : b = false → B) : if b = true then A else B := by
  cases b with
  | true => exact h1 rfl
  | false => exact h2 rfl
theorem v_ift {b : Bool} {A B : Prop} (hb : b = true) (h : A) : if b = true then A else B := by
  rw [hb]
  exact h
theorem v_iff {b : Bool} {A B : Prop} (hb : b = false) (h : B) : if b = true then A else B := by
  rw [hb]
  exact h
end VK
namespace VK
open PySem PySem.Spec PyProof.Rows L2
/-- a loop over enumerate of a list -/
theorem for_enumL {K : PySem.W.Frag} {a : Addr} {xs : List V} {g : TG} {tb : TS} {D : Ends} {σ : L2.St} {H : Hp} (Pv : Nat → L2.St → Hp → Prop) (h0 : Pv 0 σ H) (hq : ∀ i σ H, Pv i σ H → SqL K H a xs)
    (hs : ∀ (i : Nat) (x : V) (T : Addr) (σ : L2.St) (H : Hp), xs[i]? = some x → Pv i σ H → H T = none → g (.ref T) σ (upd H T (.tup [.int (i : Nat), x])) fun σ2 H2 => tb { D with nx := Pv (i + 1), ct := Pv (i + 1), bk := D.nx } σ2 H2)
    (hd : ∀ σ H, Pv xs.length σ H → D.nx σ H) :
    ∃ W : Nat → Nat → L2.St → Hp → Prop, (∃ m, W 0 m σ H) ∧ ∀ i m σ H, W i m σ H →
      ((Ite K a).stop i H ∧ D.nx σ H) ∨ ((Ite K a).go i H ∧ ∃ N : L2.St → Hp → Prop, (∀ σ' H', N σ' H' → ∃ m', m' < m ∧ W (i + 1) m' σ' H') ∧ ∀ v H', (Ite K a).yld i H v H' → g v σ H' fun σ2 H2 => tb { D with nx := N, ct := N, bk := D.nx } σ2 H2) := by
  refine ⟨fun i m σ H => m = xs.length - i ∧ i ≤ xs.length ∧ Pv i σ H, ⟨xs.length, rfl, Nat.zero_le _, h0⟩, ?_⟩
  rintro i m σ H ⟨rfl, hi, p⟩
  have qx := hq i σ H p
  by_cases lt : i < xs.length
  · refine .inr ⟨⟨xs, _, qx, List.getElem?_eq_getElem lt⟩, Pv (i + 1), fun σ' H' p' => ⟨xs.length - (i + 1), by omega, rfl, lt, p'⟩, fun v H' y => ?_⟩
    obtain ⟨T, x', rfl, hT, rfl, f⟩ := y
    exact hs i x' T σ H (f xs qx) p hT
  · have e : i = xs.length := by omega
    subst e
    exact .inl ⟨⟨xs, qx, Nat.le_refl _⟩, hd σ H p⟩
theorem same_mut {H H' : Hp} {p : Addr} {o : HO} (hp : H p = none) (e : Same H H') : Same H (upd H' p o) := fun b u hb => upd_old (fun z => by rw [z, hp] at hb; cases hb) (e b u hb)
/-! ### rules whose reading hangs on the written part, said of K itself (within a comprehension) -/
theorem kOp {X : Cx} {f : Value → Value → Sem Value} (r : PySem.W.Frag → R2) (K : PySem.W.Frag) (h : OpR X f (r X.K)) (e : X.K = K := by rfl) : OpR X f (r K) := e ▸ h
theorem kCall {X : Cx} {f : Value} (r : PySem.W.Frag → List V → Hp → VK → Prop) (K : PySem.W.Frag) (h : CallR X f (r X.K)) (e : X.K = K := by rfl) : CallR X f (r K) := e ▸ h
theorem kIx {X : Cx} (r : PySem.W.Frag → R2) (K : PySem.W.Frag) (h : IxR X (r X.K)) (e : X.K = K := by rfl) : IxR X (r K) := e ▸ h
theorem pg_tupK {X : Cx} (K : PySem.W.Frag) {es : List Expr} {kk : Nat} {pos : Pos} {t : TGs} {n : Nat} (h : PG X (.Tuple es kk pos) (gTup X.K n t)) (e : X.K = K := by rfl) : PG X (.Tuple es kk pos) (gTup K n t) := e ▸ h
/-! ### values and data -/
def vn (n : Nat) : V := .int (n : Int)
abbrev vns (ns : List Nat) : List V := ns.map vn
theorem vns_inj : ∀ {as bs : List Nat}, vns as = vns bs → as = bs
  | [], [], _ => rfl
  | [], _ :: _, h => by simp [vns] at h
  | _ :: _, [], h => by simp [vns] at h
  | a :: as, b :: bs, h => by
    simp only [vns, List.map_cons, List.cons.injEq] at h
    have h1 : (a : Int) = b := by
      have := h.1
      unfold vn at this
      injection this
    rw [vns_inj h.2, show a = b by omega]
theorem tyX_same {K : PySem.W.Frag} {H H' : Hp} (e : Same H H') {x : V} {t : Value} (h : TyX K H x t) : TyX K H' x t := by
  cases h with
  | base b =>
    refine .base ?_
    cases b with
    | non => exact .non
    | bl => exact .bl _
    | int => exact .int _
    | str => exact .str _
    | flt => exact .flt _
    | lst h => exact .lst (e _ _ h)
    | frz h => exact .frz (e _ _ h)
    | tup h => exact .tup (e _ _ h)
    | dK h => exact .dK (e _ _ h)
    | dT h => exact .dT (e _ _ h)
    | ins h a b c d f => exact .ins (e _ _ h) a b c d f
  | byt => exact .byt _
  | set h => exact .set (e _ _ h)
  | kList h c => exact .kList h c
  | kTuple h c => exact .kTuple h c
  | kDict h c => exact .kDict h c
  | fTuple h => exact .fTuple (e _ _ h)
  | fDict h => exact .fDict (e _ _ h)
def kinds : List String := ["NoneType", "bool", "int", "str", "list", "tuple", "dict"]
/-- a value of one of the kinds that the document names -/
structure OkT (K : PySem.W.Frag) (H : Hp) (x : V) (n : String) : Prop where
  ty : TyX K H x (.type n)
  kd : n ∈ kinds
theorem OkT.same {K : PySem.W.Frag} {H H' : Hp} {x : V} {n : String} (e : Same H H') (h : OkT K H x n) : OkT K H' x n := ⟨tyX_same e h.ty, h.kd⟩
theorem kit_int {n : String} (h : n ∈ kinds) : kitB n "int" = some (n == "int" || n == "bool") := by
  simp only [kinds, List.mem_cons, List.not_mem_nil, or_false] at h
  rcases h with rfl | rfl | rfl | rfl | rfl | rfl | rfl <;> decide +kernel
theorem kit_bool {n : String} (h : n ∈ kinds) : kitB n "bool" = some (n == "bool") := by
  simp only [kinds, List.mem_cons, List.not_mem_nil, or_false] at h
  rcases h with rfl | rfl | rfl | rfl | rfl | rfl | rfl <;> decide +kernel
theorem kit_tuple {n : String} (h : n ∈ kinds) : kitB n "tuple" = some (n == "tuple") := by
  simp only [kinds, List.mem_cons, List.not_mem_nil, or_false] at h
  rcases h with rfl | rfl | rfl | rfl | rfl | rfl | rfl <;> decide +kernel
theorem kit_list {n : String} (h : n ∈ kinds) : kitB n "list" = some (n == "list") := by
  simp only [kinds, List.mem_cons, List.not_mem_nil, or_false] at h
  rcases h with rfl | rfl | rfl | rfl | rfl | rfl | rfl <;> decide +kernel
theorem int_of' {K : PySem.W.Frag} {H : Hp} {x : V} {t : Value} (h : TyX K H x t) (e : t = .type "int") : ∃ i, x = .int i := by
  cases h with
  | base b =>
    cases b with
    | int i => exact ⟨i, rfl⟩
    | _ => first | (injection e with e; exact absurd e (by decide)) | cases e
  | _ => injection e with e; exact absurd e (by decide)
theorem int_of {K : PySem.W.Frag} {H : Hp} {x : V} (h : TyX K H x (.type "int")) : ∃ i, x = .int i := int_of' h rfl
theorem int_ty {K : PySem.W.Frag} {H : Hp} {i : Int} {t : Value} (h : TyX K H (.int i) t) : t = .type "int" := by
  cases h with
  | base b => cases b with
    | int i => rfl
theorem v_isi {K : PySem.W.Frag} {H : Hp} {x : V} {n c : String} {b : Bool} {R : Bool → Prop} (h : OkT K H x n) (e : kitB n c = some b) (r : R b) :
    ∃ (x' c' : V) (t u : Value) (b' : Bool), [x, V.ty c] = [x', c'] ∧ ClsV c' u ∧ TyX K H x' t ∧ PySem.W.kitOne K t u = some b' ∧ R b' :=
  ⟨x, .ty c, .type n, .type c, b, rfl, .ty c, h.ty, kit_ty e, r⟩
/-- whether a value is a level -/
def lvl (top : Nat) : V → Bool
  | .int i => decide (0 ≤ i ∧ i ≤ (top : Int))
  | _ => false
theorem lvl_not {K : PySem.W.Frag} {H : Hp} {x : V} {n : String} (h : TyX K H x (.type n)) (hn : n ≠ "int") (top : Nat) : lvl top x = false := by
  cases x with
  | int i =>
    have := int_ty h
    injection this with e
    exact absurd e hn
  | _ => rfl
def natV : V → Nat
  | .int i => i.toNat
  | _ => 0
theorem all_lvl {top : Nat} : ∀ {xs : List V}, xs.all (lvl top) = true → xs = vns (xs.map natV) ∧ ∀ n ∈ xs.map natV, n ≤ top
  | [], _ => ⟨rfl, by simp⟩
  | x :: r, h => by
    simp only [List.all_cons, Bool.and_eq_true] at h
    obtain ⟨e, f⟩ := all_lvl h.2
    cases x with
    | int i =>
      have h1 : 0 ≤ i ∧ i ≤ (top : Int) := by simpa [lvl] using h.1
      refine ⟨?_, ?_⟩
      · show V.int i :: r = vn i.toNat :: vns (r.map natV)
        rw [← e]
        unfold vn
        rw [Int.toNat_of_nonneg h1.1]
      · intro n hn
        simp only [List.map_cons, List.mem_cons] at hn
        rcases hn with rfl | hn
        · show i.toNat ≤ top
          omega
        · exact f n hn
    | _ => simp [lvl] at h
theorem lvl_vns {top : Nat} : ∀ {ns : List Nat}, (∀ n ∈ ns, n ≤ top) → (vns ns).all (lvl top) = true
  | [], _ => rfl
  | n :: r, h => by
    simp only [vns, List.map_cons, List.all_cons, Bool.and_eq_true]
    refine ⟨?_, lvl_vns fun m hm => h m (by simp [hm])⟩
    have := h n (by simp)
    simp only [lvl, vn, decide_eq_true_eq]
    omega
theorem nat_vns (ns : List Nat) : (vns ns).map natV = ns := by
  induction ns with
  | nil => rfl
  | cons n r ih =>
    simp only [vns, List.map_cons, List.cons.injEq]
    exact ⟨by simp [vn, natV], ih⟩
/-- whether a tuple of these items is a memory -/
def isMem (top : Nat) (xs : List V) : Bool := xs.all (lvl top) && decide (VM.followed [] (xs.map natV) = xs.map natV)
def pint (n : Nat) : PyData := .int (n : Int)
theorem dp_vns {K : PySem.W.Frag} {H : Hp} : ∀ ns : List Nat, DpAll K H (vns ns) (ns.map pint)
  | [] => .nil
  | n :: r => .cons (.int _) (dp_vns r)
/-- tuples of naturals as data, lists of such -/
def ptup (ns : List Nat) : PyData := .tuple (ns.map pint)
def plist (nss : List (List Nat)) : PyData := .list (nss.map ptup)
theorem lay_ints : ∀ ns : List Nat, PyData.canLayAll0 (ns.map pint) = true
  | [] => rfl
  | _ :: r => lay_ints r
theorem lay_tups : ∀ nss : List (List Nat), PyData.canLayAll0 (nss.map ptup) = true
  | [] => rfl
  | n :: r => by
    show (PyData.canLayAll0 (n.map pint) && PyData.canLayAll0 (r.map ptup)) = true
    rw [lay_ints, lay_tups r]
    rfl
theorem dep_ints : ∀ ns : List Nat, PyData.depthAll (ns.map pint) = 0
  | [] => rfl
  | _ :: r => by
    show max 0 (PyData.depthAll (r.map pint)) = 0
    rw [dep_ints r]
    rfl
theorem dep_tups : ∀ nss : List (List Nat), PyData.depthAll (nss.map ptup) ≤ 1
  | [] => Nat.zero_le _
  | n :: r => by
    show max (PyData.depthAll (n.map pint) + 1) (PyData.depthAll (r.map ptup)) ≤ 1
    have := dep_tups r
    rw [dep_ints]
    omega
theorem shaped_tup (ns : List Nat) : SeqAt.shaped (ptup ns) = true := by
  show (PyData.canLayAll0 (ns.map pint) && decide (PyData.depthAll (ns.map pint) + 1 ≤ 64)) = true
  rw [lay_ints, dep_ints]
  rfl
theorem shaped_ilist (ns : List Nat) : SeqAt.shaped (.list (ns.map pint)) = true := by
  show (PyData.canLayAll0 (ns.map pint) && decide (PyData.depthAll (ns.map pint) + 1 ≤ 64)) = true
  rw [lay_ints, dep_ints]
  rfl
theorem shaped_list (nss : List (List Nat)) : SeqAt.shaped (plist nss) = true := by
  have := dep_tups nss
  show (PyData.canLayAll0 (nss.map ptup) && decide (PyData.depthAll (nss.map ptup) + 1 ≤ 64)) = true
  rw [lay_tups, decide_eq_true (by omega)]
  rfl
theorem eqv_ints : ∀ as bs : List Nat, PyData.eqvAll (as.map pint) (bs.map pint) = decide (as = bs)
  | [], [] => rfl
  | [], _ :: _ => rfl
  | _ :: _, [] => rfl
  | a :: as, b :: bs => by
    show (((a : Int) == (b : Int)) && PyData.eqvAll (as.map pint) (bs.map pint)) = _
    rw [eqv_ints as bs, Bool.eq_iff_iff]
    simp only [Bool.and_eq_true, beq_iff_eq, decide_eq_true_eq, List.cons.injEq]
    exact ⟨fun h => ⟨by omega, h.2⟩, fun h => ⟨by omega, h.2⟩⟩
theorem eqv_tup (as bs : List Nat) : PyData.eqv (ptup as) (ptup bs) = decide (as = bs) := eqv_ints as bs
theorem eqv_ilist (as bs : List Nat) : PyData.eqv (.list (as.map pint)) (.list (bs.map pint)) = decide (as = bs) := eqv_ints as bs
theorem eqv_tups : ∀ as bs : List (List Nat), PyData.eqvAll (as.map ptup) (bs.map ptup) = decide (as = bs)
  | [], [] => rfl
  | [], _ :: _ => rfl
  | _ :: _, [] => rfl
  | a :: as, b :: bs => by
    show (PyData.eqv (ptup a) (ptup b) && PyData.eqvAll (as.map ptup) (bs.map ptup)) = _
    rw [eqv_tups as bs, eqv_tup, Bool.eq_iff_iff]
    simp only [Bool.and_eq_true, decide_eq_true_eq, List.cons.injEq]
theorem eqv_list (as bs : List (List Nat)) : PyData.eqv (plist as) (plist bs) = decide (as = bs) := eqv_tups as bs
theorem any_tups (nss : List (List Nat)) (ns : List Nat) : ((nss.map ptup).any fun z => PyData.eqv z (ptup ns)) = nss.contains ns := by
  induction nss with
  | nil => rfl
  | cons n r ih =>
    simp only [List.map_cons, List.any_cons, ih, eqv_tup, List.contains_cons]
    congr 1
    rw [Bool.eq_iff_iff]
    simp only [decide_eq_true_eq, beq_iff_eq]
    exact eq_comm
/-- references to tuples of naturals -/
inductive Tups (K : PySem.W.Frag) (H : Hp) : List V → List (List Nat) → Prop
  | nil : Tups K H [] []
  | cons {a : Addr} {ns : List Nat} {xs : List V} {nss : List (List Nat)} : SqT K H a (vns ns) → Tups K H xs nss → Tups K H (.ref a :: xs) (ns :: nss)
theorem Tups.len {K : PySem.W.Frag} {H : Hp} : ∀ {xs : List V} {nss : List (List Nat)}, Tups K H xs nss → xs.length = nss.length
  | _, _, .nil => rfl
  | _, _, .cons _ t => congrArg (· + 1) t.len
theorem Tups.but {K : PySem.W.Frag} {H H' : Hp} (f : ∀ a ns, SqT K H a (vns ns) → SqT K H' a (vns ns)) : ∀ {xs : List V} {nss : List (List Nat)}, Tups K H xs nss → Tups K H' xs nss
  | _, _, .nil => .nil
  | _, _, .cons h t => .cons (f _ _ h) (t.but f)
theorem Tups.same {K : PySem.W.Frag} {H H' : Hp} (e : Same H H') {xs : List V} {nss : List (List Nat)} (t : Tups K H xs nss) : Tups K H' xs nss := t.but fun _ _ h => sqT_same e h
theorem Tups.get {K : PySem.W.Frag} {H : Hp} : ∀ {xs : List V} {nss : List (List Nat)} {i : Nat} {x : V}, Tups K H xs nss → xs[i]? = some x → ∃ a ns, x = .ref a ∧ nss[i]? = some ns ∧ SqT K H a (vns ns)
  | _, _, i, _, .nil, h => by simp at h
  | _, _, 0, x, .cons h t, e => by
    have e' := Option.some.inj (show some _ = some x from e)
    subst e'
    exact ⟨_, _, rfl, rfl, h⟩
  | _, _, i + 1, x, .cons h t, e => by
    obtain ⟨a, ns, h1, h2, h3⟩ := t.get (i := i) (x := x) (by simpa using e)
    exact ⟨a, ns, h1, by simpa using h2, h3⟩
theorem Tups.mem {K : PySem.W.Frag} {H : Hp} {xs : List V} {nss : List (List Nat)} {x : V} (t : Tups K H xs nss) (h : x ∈ xs) : ∃ a ns, x = .ref a ∧ ns ∈ nss ∧ SqT K H a (vns ns) := by
  obtain ⟨i, hi, e⟩ := List.mem_iff_getElem.mp h
  obtain ⟨a, ns, h1, h2, h3⟩ := t.get (i := i) (x := x) (by rw [← e]; simp)
  exact ⟨a, ns, h1, List.mem_of_getElem? h2, h3⟩
theorem Tups.append {K : PySem.W.Frag} {H : Hp} : ∀ {xs ys : List V} {nss mss : List (List Nat)}, Tups K H xs nss → Tups K H ys mss → Tups K H (xs ++ ys) (nss ++ mss)
  | _, _, _, _, .nil, u => u
  | _, _, _, _, .cons h t, u => .cons h (t.append u)
theorem Tups.one {K : PySem.W.Frag} {H : Hp} {a : Addr} {ns : List Nat} (h : SqT K H a (vns ns)) : Tups K H [.ref a] [ns] := .cons h .nil
theorem Tups.dp {K : PySem.W.Frag} {H : Hp} : ∀ {xs : List V} {nss : List (List Nat)}, Tups K H xs nss → DpAll K H xs (nss.map ptup)
  | _, _, .nil => .nil
  | _, _, .cons h t => .cons (.tup h (dp_vns _)) t.dp
theorem dp_tup {K : PySem.W.Frag} {H : Hp} {a : Addr} {ns : List Nat} (h : SqT K H a (vns ns)) : Dp K H (.ref a) (ptup ns) := .tup h (dp_vns ns)
theorem dp_list {K : PySem.W.Frag} {H : Hp} {a : Addr} {xs : List V} {nss : List (List Nat)} (h : SqL K H a xs) (t : Tups K H xs nss) : Dp K H (.ref a) (plist nss) := .lst h t.dp
end VK
namespace My
open PySem L2 VK
def top (i : Nat) : Stmt := PySem.Challenge.pw_turnweights_k13_memories_joined_and_met.main.body.getD i (.Pass ⟨0, 0, 0, 0⟩)
abbrev sis_integer : Stmt := top 4
abbrev nis_integer : List Str := ["value"]
theorem scis_integer : FnScope nis_integer ["value"] (defScope sis_integer) := ⟨rfl, rfl, rfl, by decide +kernel, rfl, by decide +kernel, by decide +kernel⟩
abbrev sjoined : Stmt := top 6
abbrev njoined : List Str := ["top", "first", "second", "pair"]
theorem scjoined : FnScope njoined ["top", "first", "second"] (defScope sjoined) := ⟨rfl, rfl, rfl, by decide +kernel, rfl, by decide +kernel, by decide +kernel⟩
abbrev smet : Stmt := top 7
abbrev nmet : List Str := ["top", "first", "second", "pair"]
theorem scmet : FnScope nmet ["top", "first", "second"] (defScope smet) := ⟨rfl, rfl, rfl, by decide +kernel, rfl, by decide +kernel, by decide +kernel⟩
abbrev sis_level : Stmt := top 8
abbrev nis_level : List Str := ["top", "value"]
theorem scis_level : FnScope nis_level ["top", "value"] (defScope sis_level) := ⟨rfl, rfl, rfl, by decide +kernel, rfl, by decide +kernel, by decide +kernel⟩
abbrev sis_memory : Stmt := top 9
abbrev nis_memory : List Str := ["top", "value", "entry"]
theorem scis_memory : FnScope nis_memory ["top", "value"] (defScope sis_memory) := ⟨rfl, rfl, rfl, by decide +kernel, rfl, by decide +kernel, by decide +kernel⟩
abbrev scheck_memory : Stmt := top 10
abbrev ncheck_memory : List Str := ["top", "memory"]
theorem sccheck_memory : FnScope ncheck_memory ["top", "memory"] (defScope scheck_memory) := ⟨rfl, rfl, rfl, by decide +kernel, rfl, by decide +kernel, by decide +kernel⟩
abbrev smoved : Stmt := top 11
abbrev nmoved : List Str := ["memory", "level", "place", "entry", "is_wiped"]
theorem scmoved : FnScope nmoved ["memory", "level"] (defScope smoved) := ⟨rfl, rfl, rfl, by decide +kernel, rfl, by decide +kernel, by decide +kernel⟩
abbrev s_followed : Stmt := top 12
abbrev n_followed : List Str := ["memory", "levels", "level"]
theorem sc_followed : FnScope n_followed ["memory", "levels"] (defScope s_followed) := ⟨rfl, rfl, rfl, by decide +kernel, rfl, by decide +kernel, by decide +kernel⟩
abbrev s_heights : Stmt := top 13
abbrev n_heights : List Str := ["top", "memory", "down"]
theorem sc_heights : FnScope n_heights ["top", "memory"] (defScope s_heights) := ⟨rfl, rfl, rfl, by decide +kernel, rfl, by decide +kernel, by decide +kernel⟩
abbrev s_height : Stmt := top 14
abbrev n_height : List Str := ["memory", "down", "height", "level"]
theorem sc_height : FnScope n_height ["memory", "down"] (defScope s_height) := ⟨rfl, rfl, rfl, by decide +kernel, rfl, by decide +kernel, by decide +kernel⟩
abbrev s_memory_of_heights : Stmt := top 15
abbrev n_memory_of_heights : List Str := ["heights", "history", "level", "down", "height"]
theorem sc_memory_of_heights : FnScope n_memory_of_heights ["heights"] (defScope s_memory_of_heights) := ⟨rfl, rfl, rfl, by decide +kernel, rfl, by decide +kernel, by decide +kernel⟩
abbrev s_law_feed : Stmt := top 17
abbrev n_law_feed : List Str := ["script", "k", "seed", "digits"]
theorem sc_law_feed : FnScope n_law_feed ["script", "k"] (defScope s_law_feed) := ⟨rfl, rfl, rfl, by decide +kernel, rfl, by decide +kernel, by decide +kernel⟩
abbrev s_law_take : Stmt := top 18
abbrev n_law_take : List Str := ["feed", "size", "digit"]
theorem sc_law_take : FnScope n_law_take ["feed", "size"] (defScope s_law_take) := ⟨rfl, rfl, rfl, by decide +kernel, rfl, by decide +kernel, by decide +kernel⟩
abbrev s_law_pick : Stmt := top 19
abbrev n_law_pick : List Str := ["feed", "things"]
theorem sc_law_pick : FnScope n_law_pick ["feed", "things"] (defScope s_law_pick) := ⟨rfl, rfl, rfl, by decide +kernel, rfl, by decide +kernel, by decide +kernel⟩
abbrev s_law_is_on : Stmt := top 20
abbrev n_law_is_on : List Str := ["switch", "levels", "found", "level"]
theorem sc_law_is_on : FnScope n_law_is_on ["switch", "levels"] (defScope s_law_is_on) := ⟨rfl, rfl, rfl, by decide +kernel, rfl, by decide +kernel, by decide +kernel⟩
abbrev s_law_switches : Stmt := top 21
abbrev n_law_switches : List Str := ["top", "found", "up", "down"]
theorem sc_law_switches : FnScope n_law_switches ["top"] (defScope s_law_switches) := ⟨rfl, rfl, rfl, by decide +kernel, rfl, by decide +kernel, by decide +kernel⟩
abbrev s_law_memories : Stmt := top 22
abbrev n_law_memories : List Str := ["top", "lots", "found", "level", "lot", "left", "entries", "many"]
theorem sc_law_memories : FnScope n_law_memories ["top"] (defScope s_law_memories) := ⟨rfl, rfl, rfl, by decide +kernel, rfl, by decide +kernel, by decide +kernel⟩
abbrev s_law_on : Stmt := top 23
abbrev n_law_on : List Str := ["top", "memory", "switch"]
theorem sc_law_on : FnScope n_law_on ["top", "memory"] (defScope s_law_on) := ⟨rfl, rfl, rfl, by decide +kernel, rfl, by decide +kernel, by decide +kernel⟩
abbrev s_law_refused : Stmt := top 24
abbrev n_law_refused : List Str := ["way", "top", "first", "second", "found"]
theorem sc_law_refused : FnScope n_law_refused ["way", "top", "first", "second"] (defScope s_law_refused) := ⟨rfl, rfl, rfl, by decide +kernel, rfl, by decide +kernel, by decide +kernel⟩
abbrev slaw : Stmt := top 25
abbrev nlaw : List Str := ["script", "k", "feed", "top", "every", "turn", "first", "second", "one", "other", "more", "less", "odd", "way", "switch"]
theorem sclaw : FnScope nlaw ["script"] (defScope slaw) := ⟨rfl, rfl, rfl, by decide +kernel, rfl, by decide +kernel, by decide +kernel⟩

/-- what the top has left -/
structure Txt (K : PySem.W.Frag) (mg : Str → Option Value) (C : Addr) : Prop where
  len_ : mg "len" = none
  int_ : mg "int" = none
  bool_ : mg "bool" = none
  tuple_ : mg "tuple" = none
  list_ : mg "list" = none
  abs_ : mg "abs" = none
  max_ : mg "max" = none
  min_ : mg "min" = none
  range_ : mg "range" = none
  zip_ : mg "zip" = none
  enumerate_ : mg "enumerate" = none
  isinstance_ : mg "isinstance" = none
  sorted_ : mg "sorted" = none
  all_ : mg "all" = none
  gC : mg "BadMemory" = some (.ref C)
  xC : PySem.W.excIn K C [.type "ValueError", .type "Exception", .type "BaseException", .type "object"] "ValueError.__new__" = true
  kC : PySem.W.keepIn K (.ref C) = true
  bC : PySem.W.subIn K (.ref C) (.type "BaseException") = some true
  tC : PySem.W.typeIn K (.ref C) = some (.type "type")
  eC : PySem.W.exmOne K (.ref C) (.ref C) = some true
theorem Txt.BadMemory_pmk {X : Cx} {C : Addr} {p pos : Pos} (T : Txt X.K X.mg C) (hg : Gl X "BadMemory" := by rfl) : PMk X (.Call (.Name "BadMemory" p) [] [] pos) (fun _ H Q => Q (.ref C) none H) :=
  pmk_own0 PySem.F.excBase_ValueError T.xC T.gC T.kC (raises_own T.bC T.tC) hg
theorem Txt.BadMemory_names {X : Cx} {C : Addr} (T : Txt X.K X.mg C) (hg : Gl X "BadMemory" := by rfl) : Names X "BadMemory" (.ref C) := ⟨hg, by decide, .inl T.gC⟩
/-! ### readings answered step by step -/
local macro_rules | `(tactic| walk_at "hp") => `(tactic| first
  | assumption | exact upd_same | (refine upd_new (by assumption) ?_; walk_at "hp") | (refine upd_old (by assumption) ?_; walk_at "hp"))
local macro_rules | `(tactic| walk_at "sq") => `(tactic| first
  | assumption | (apply SqL.of; walk_at "hp") | (apply SqT.of; walk_at "hp"))
local macro_rules | `(tactic| walk_at "side") => `(tactic| first
  | omega | (show (0 : Int) < _; omega) | exact .inr ⟨by decide, by decide⟩ | exact .inl ⟨by decide, by decide⟩ | exact .inl ⟨by omega, by omega⟩ | exact .inr ⟨by omega, by omega⟩ | exact ⟨by decide, by decide⟩ | exact ⟨by omega, by omega⟩
  | (refine ⟨by decide, by decide, ?_⟩; decide))
local macro_rules | `(tactic| walk_at "size") => `(tactic| (refine small ?_; first | omega | decide | (simp only [List.length_cons, List.length_nil, List.length_append, List.length_map] at *; omega)))
local macro_rules | `(tactic| walk_at "v") => `(tactic| first
  | refine ⟨_, rfl, ?_⟩
  | (apply v_I; (walk_at "side"))
  | refine ⟨_, _, rfl, rfl, ?_⟩
  | (apply v_ixL; (walk_at "sq"); rfl)
  | (apply v_ixT; (walk_at "sq"); rfl)
  | (apply v_setL; (walk_at "hp"); rfl)
  | (apply v_lenL; (walk_at "sq"))
  | (apply v_lenT; (walk_at "sq"))
  | refine .inl ⟨_, rfl, ?_⟩
  | refine ⟨rfl, _, rfl, ?_⟩
  | refine ⟨_, _, rfl, ?_⟩)
local macro_rules | `(tactic| walk_at "vs") => `(tactic| repeat (walk_at "v"))

section
variable {P : Program} {w : World} {K : PySem.W.Frag} {mg : Str → Option Value} {base : Heap} {C : Addr}
/-! ### is_integer, is_level -/
def isI : V → Bool
  | .int _ => true
  | _ => false
theorem isI_lvl {x : V} (h : isI x = false) (top : Nat) : lvl top x = false := by
  cases x with
  | int i => cases h
  | _ => rfl
theorem isI_not {K : PySem.W.Frag} {H : Hp} {x : V} {n : String} (h : TyX K H x (.type n)) (hn : n ≠ "int") : isI x = false := by
  cases x with
  | int i =>
    have := int_ty h
    simp at this
    exact absurd this hn
  | _ => rfl
def spIsInteger (K : PySem.W.Frag) : Sp := fun vs H Q _ => ∃ (x : V) (n : String), vs = [x] ∧ OkT K H x n ∧ Q (.bl (isI x)) H
theorem ok_is_integer {f : Addr} {fd : FuncData} (F : Fun K "is_integer" "is_integer" sis_integer f fd) (T : Txt K mg C) : FnOk P w K mg base CX0 1 f fd ["value"] (spIsInteger K) := by
  have nd := scis_integer.nd
  refine F.ok scis_integer (fun vs H Q E h => ?_) (fun cdv A outer s H vs Q E hr h => ?_)
  · obtain ⟨x, n, rfl, _⟩ := h
    rfl
  · obtain ⟨x, n, rfl, ok, k⟩ := h
    refine ⟨_, (pss_one (ps_ret (pe_and (pe_callB call_isi (by rfl) T.isinstance_ (by decide +kernel) (pa_cons (pv 0) (pa_cons (pe_bltn (v := .ty "int") (by rfl) T.int_ (by decide +kernel) rfl) pa_nil))) (pe_one (pe_not (pe_callB call_isi (by rfl) T.isinstance_ (by decide +kernel) (pa_cons (pv 0) (pa_cons (pe_bltn (v := .ty "bool") (by rfl) T.bool_ (by decide +kernel) rfl) pa_nil)))))))), ?_⟩
    refine ⟨_, rfl, ?_⟩
    apply v_isi ok (kit_int ok.kd)
    refine ⟨_, rfl, ?_⟩
    refine v_ifb (fun e1 => ?_) (fun e1 => ?_)
    · refine ⟨_, rfl, ?_⟩
      apply v_isi ok (kit_bool ok.kd)
      refine ⟨_, rfl, ?_⟩
      by_cases hn : n = "int"
      · subst hn
        obtain ⟨i, rfl⟩ := int_of ok.ty
        exact k
      · have e2 : n = "bool" := by
          simp only [Bool.or_eq_true, beq_iff_eq] at e1
          rcases e1 with e1 | e1
          · exact absurd e1 hn
          · exact e1
        subst e2
        rw [isI_not ok.ty hn] at k
        exact k
    · have hn : n ≠ "int" := by
        rintro rfl
        simp at e1
      show Q (.bl false) H
      rw [← isI_not ok.ty hn]
      exact k
def spIsLevel (K : PySem.W.Frag) : Sp := fun vs H Q _ => ∃ (top : Nat) (x : V) (n : String), vs = [vn top, x] ∧ OkT K H x n ∧ Q (.bl (lvl top x)) H
theorem ok_is_level {f : Addr} {fd : FuncData} (F : Fun K "is_level" "is_level" sis_level f fd) (T : Txt K mg C) (Dis_integer : Def P w K mg base CX0 1 "is_integer" ["value"] (spIsInteger K)) : FnOk P w K mg base CX0 2 f fd ["top", "value"] (spIsLevel K) := by
  have nd := scis_level.nd
  refine F.ok scis_level (fun vs H Q E h => ?_) (fun cdv A outer s H vs Q E hr h => ?_)
  · obtain ⟨top, x, n, rfl, _⟩ := h
    rfl
  · obtain ⟨top, x, n, rfl, ok, k⟩ := h
    refine ⟨_, (pss_one (ps_ret (pe_and (pe_callD Dis_integer (hr.mono (by decide)) rfl pass0 (pa_cons (pv 1) pa_nil)) (pe_one (pe_chain op_le op_le pe_int (pv 1) (pv 0)))))), ?_⟩
    refine ⟨_, rfl, x, n, rfl, ok, _, rfl, ?_⟩
    refine v_ifb (fun e1 => ?_) (fun e1 => ?_)
    · obtain ⟨i, rfl⟩ : ∃ i, x = .int i := by
        cases x with
        | int i => exact ⟨i, rfl⟩
        | _ => cases e1
      refine ⟨_, rfl, _, _, rfl, rfl, _, rfl, ?_⟩
      refine v_ifd (fun hc => ?_) (fun hc => ?_)
      · refine ⟨_, rfl, _, _, rfl, rfl, ?_⟩
        have e : decide (i ≤ (top : Int)) = lvl top (.int i) := by
          unfold lvl
          rw [Bool.eq_iff_iff]
          simp only [decide_eq_true_eq]
          omega
        show Q (.bl (decide (i ≤ (top : Int)))) H
        rw [e]
        exact k
      · have e : false = lvl top (.int i) := by
          unfold lvl
          rw [Bool.eq_iff_iff]
          simp only [decide_eq_true_eq]
          constructor
          · intro z; cases z
          · intro z; exact absurd z.1 hc
        show Q (.bl false) H
        rw [e]
        exact k
    · show Q (.bl false) H
      rw [← isI_lvl e1 top]
      exact k
/-! ### moved -/
def spMoved (K : PySem.W.Frag) : Sp := fun vs H Q _ => ∃ (a : Addr) (m : List Nat) (l : Nat), vs = [.ref a, vn l] ∧ SqT K H a (vns m) ∧ m.length ≤ 50000 ∧
  ∀ p H', Same H H' → SqT K H' p (vns (VM.moved m l)) → Q (.ref p) H'
theorem truth_mod (i : Nat) : ((((i : Nat) : Int) % 2) != 0) = decide (i % 2 = 1) := by
  rw [Bool.eq_iff_iff]
  simp only [bne_iff_ne, ne_eq, decide_eq_true_eq]
  omega
theorem okmoved {f : Addr} {fd : FuncData} (F : Fun K "moved" "moved" smoved f fd) (T : Txt K mg C) : FnOk P w K mg base CX0 1 f fd ["memory", "level"] (spMoved K) := by
  have nd := scmoved.nd
  refine F.ok scmoved (fun vs H Q E h => ?_) (fun cdv A outer s H vs Q E hr h => ?_)
  · obtain ⟨a, m, l, rfl, _⟩ := h
    rfl
  · obtain ⟨a, m, l, rfl, ha, hm, k⟩ := h
    refine ⟨_, (pss_cons (ps_if (pt_cmpR op_eq (pv 1) pe_int (nomark _)) (pss_one (ps_ret (pe_tup pa_nil))) pss_nil) (pss_cons (ps_for PassesOwn.never rfl (pi_enumT (by rfl) T.enumerate_ (pa_cons (pv 0) pa_nil)) (pg_tup rfl (pgs_cons (pg_name (i := 2) nd rfl (Or.inl rfl)) (pgs_cons (pg_name (i := 3) nd rfl (Or.inl rfl)) pgs_nil))) (pss_cons (ps_set (i := 4) nd rfl (Or.inl rfl) (pe_ifExp (pt_truth (pe_op op_mod (pv 2) pe_int) (by intro _; rfl)) (pe_cmpR op_ge (pv 3) (pv 1) (nomark _)) (pe_cmpR op_le (pv 3) (pv 1) (nomark _)))) (pss_one (ps_if (pt_val (pv 4)) (pss_one (ps_ret (pe_op op_catA (pe_slice sl_tupA (pv 0) po_none (po_some (pv 2))) (pe_tup (pa_cons (pv 1) pa_nil))))) pss_nil)))) (pss_one (ps_ret (pe_op op_catA (pv 0) (pe_tup (pa_cons (pv 1) pa_nil))))))), ?_⟩
    refine ⟨_, rfl, rfl, _, rfl, ?_⟩
    refine v_ifd (fun hc => ?_) (fun hc => ?_)
    · refine ⟨by decide, fun p hp => ?_⟩
      refine k p _ (same_new hp) ?_
      have e : l = 0 := by
        have h0 : (vn l) = V.int 0 := hc
        unfold vn at h0
        injection h0 with h1
        omega
      subst e
      exact SqT.of upd_same
    · have hl : l ≠ 0 := by
        rintro rfl
        exact hc rfl
      refine ⟨_, rfl, a, vns m, rfl, ha, for_enumT (K := K) (a := a) (xs := vns m) (fun i σ H' => (∃ v2 v3 v4, σ = [some (.ref a), some (vn l), v2, v3, v4]) ∧ Same H H' ∧ ∀ j x, j < i → m[j]? = some x → VM.wiped (0 + j) x l = false)
        ⟨⟨_, _, _, rfl⟩, Same.refl _, fun j x hj => by omega⟩ (fun i σ H' ⟨_, e, _⟩ => sqT_same e ha) ?_ ?_⟩
      · rintro i x Tt σ H' hx ⟨⟨v2, v3, v4, rfl⟩, e, hn⟩ hT
        obtain ⟨y, hy, rfl⟩ : ∃ y, m[i]? = some y ∧ x = vn y := by
          rw [List.getElem?_map] at hx
          cases q : m[i]? with
          | none => rw [q] at hx; cases hx
          | some y => rw [q] at hx; exact ⟨y, rfl, (Option.some.inj hx).symm⟩
        refine ⟨Tt, _, rfl, SqT.of upd_same, rfl, _, _, rfl, _, _, rfl, rfl, ?_⟩
        have e1 : Same H (upd H' Tt (.tup [.int (i : Nat), vn y])) := e.trans (same_new hT)
        -- is_wiped
        refine ⟨_, rfl, _, _, rfl, rfl, (by show (0 : Int) < 2; decide), _, rfl, ?_⟩
        have hlen : i < m.length := (List.getElem?_eq_some_iff.mp hy).1
        have hcut : cutV (vns m) none (some ((i : Nat) : Int)) = vns (m.take i) := by
          unfold cutV
          rw [HT.sIx_none, HT.sIx_nat, List.length_map, Nat.min_eq_left (by omega)]
          simp [vns, List.map_take]
        have fin : ∀ (H2 : Hp) (Q' : VK), Same H H2 → SqT K H2 a (vns m) → VM.wiped (0 + i) y l = true → (∀ p H', Same H H' → SqT K H' p (vns (VM.moved m l)) → Q' (.ref p) H') →
            tOp (rCatA K) (tSl (rSlA K) (tVar 0) tNoPart (tPart (tVar 2))) (tTup (tCons (tVar 1) tNil)) [some (.ref a), some (vn l), some (.int (i : Nat)), some (vn y), some (.bl true)] H2 Q' := by
          intro H2 Q' s2 a2 hw k2
          have em : VM.moved m l = m.take i ++ [l] := by
            unfold VM.moved
            rw [if_neg hl]
            exact VM.cut_at m 0 i y l hn hy hw
          refine ⟨_, rfl, _, rfl, _, rfl, ?_⟩
          apply v_slT a2
          refine ⟨fun hh => ?_, fun _ p hp => ?_⟩
          · have := hh.2
            rw [HT.sIx_nat, List.length_map, Nat.min_eq_left (by omega)] at this
            omega
          rw [hcut]
          refine ⟨_, rfl, (show 1 ≤ sizeLine by decide), fun q hq => ?_⟩
          apply v_catT (SqT.of (upd_new hq upd_same)) (SqT.of upd_same)
          have s3 := (s2.trans (same_new (o' := .tup (vns (m.take i))) hp)).trans (same_new (o' := .tup [vn l]) hq)
          refine ⟨?_, fun e0 => k2 q _ s3 ?_, fun _ e0 => (by cases e0), fun _ _ r hr => k2 r _ (s3.trans (same_new hr)) ?_⟩
          · refine small ?_
            simp only [List.length_map, List.length_take, List.length_cons, List.length_nil]
            omega
          · have : m.take i = [] := by simpa [vns] using e0
            rw [em, this]
            exact SqT.of upd_same
          · rw [em]
            refine SqT.of (upd_same.trans ?_)
            simp [vns]
        have s1 : SqT K (upd H' Tt (.tup [.int (i : Nat), vn y])) a (vns m) := sqT_same e1 ha
        have step : VM.wiped (0 + i) y l = false → ∀ j x, j < i + 1 → m[j]? = some x → VM.wiped (0 + j) x l = false := by
          intro hw j x hj hjx
          by_cases c : j < i
          · exact hn j x c hjx
          · have : j = i := by omega
            subst this
            rw [hy] at hjx
            cases hjx
            exact hw
        refine v_ifb (fun ep => ?_) (fun ep => ?_)
        · have ep' : i % 2 = 1 := by
            rw [truth_mod] at ep
            simpa using ep
          refine ⟨_, rfl, _, rfl, _, _, rfl, rfl, _, rfl, _, rfl, ?_⟩
          refine v_ifd (fun hw => ?_) (fun hw => ?_)
          · have hw' : VM.wiped (0 + i) y l = true := by
              unfold VM.wiped
              rw [Nat.zero_add, if_pos ep']
              exact decide_eq_true (by omega)
            have q := fin _ Q e1 s1 hw' k
            show tOp (rCatA K) (tSl (rSlA K) (tVar 0) tNoPart (tPart (tVar 2))) (tTup (tCons (tVar 1) tNil)) [some (.ref a), some (vn l), some (.int (i : Nat)), some (vn y), some (.bl (decide ((l : Int) ≤ (y : Int))))] _ Q
            rw [decide_eq_true hw]
            exact q
          · have hw' : VM.wiped (0 + i) y l = false := by
              unfold VM.wiped
              rw [Nat.zero_add, if_pos ep']
              exact decide_eq_false (by omega)
            exact ⟨⟨_, _, _, rfl⟩, e1, step hw'⟩
        · have ep' : ¬ i % 2 = 1 := by
            rw [truth_mod] at ep
            simpa using ep
          refine ⟨_, rfl, _, rfl, _, _, rfl, rfl, _, rfl, _, rfl, ?_⟩
          refine v_ifd (fun hw => ?_) (fun hw => ?_)
          · have hw' : VM.wiped (0 + i) y l = true := by
              unfold VM.wiped
              rw [Nat.zero_add, if_neg ep']
              exact decide_eq_true (by omega)
            have q := fin _ Q e1 s1 hw' k
            show tOp (rCatA K) (tSl (rSlA K) (tVar 0) tNoPart (tPart (tVar 2))) (tTup (tCons (tVar 1) tNil)) [some (.ref a), some (vn l), some (.int (i : Nat)), some (vn y), some (.bl (decide ((y : Int) ≤ (l : Int))))] _ Q
            rw [decide_eq_true hw]
            exact q
          · have hw' : VM.wiped (0 + i) y l = false := by
              unfold VM.wiped
              rw [Nat.zero_add, if_neg ep']
              exact decide_eq_false (by omega)
            exact ⟨⟨_, _, _, rfl⟩, e1, step hw'⟩
      · rintro σ H' ⟨⟨v2, v3, v4, rfl⟩, e, hn⟩
        have em : VM.moved m l = m ++ [l] := by
          unfold VM.moved
          rw [if_neg hl]
          exact VM.cut_none m 0 l fun j x hx => hn j x (by rw [List.length_map]; exact (List.getElem?_eq_some_iff.mp hx).1) hx
        refine ⟨_, rfl, _, rfl, (show 1 ≤ sizeLine by decide), fun q hq => ?_⟩
        have s3 := e.trans (same_new (o' := .tup [vn l]) hq)
        apply v_catT (sqT_same s3 ha) (SqT.of upd_same)
        refine ⟨?_, fun e0 => k q _ s3 ?_, fun _ e0 => (by cases e0), fun _ _ r hr => k r _ (s3.trans (same_new hr)) ?_⟩
        · refine small ?_
          simp only [List.length_map, List.length_cons, List.length_nil]
          omega
        · have : m = [] := by simpa [vns] using e0
          rw [em, this]
          exact SqT.of upd_same
        · rw [em]
          refine SqT.of (upd_same.trans ?_)
          simp [vns]
end

section
variable {P : Program} {w : World} {K : PySem.W.Frag} {mg : Str → Option Value} {base : Heap} {C : Addr}
theorem vns_get {ns : List Nat} {i : Nat} {x : V} (h : (vns ns)[i]? = some x) : ∃ n, ns[i]? = some n ∧ x = vn n := by
  rw [List.getElem?_map] at h
  cases q : ns[i]? with
  | none => rw [q] at h; cases h
  | some n => rw [q] at h; exact ⟨n, rfl, (Option.some.inj h).symm⟩
/-! ### _followed -/
def spFollowed (K : PySem.W.Frag) : Sp := fun vs H Q _ => ∃ (a b : Addr) (m ls : List Nat), vs = [.ref a, .ref b] ∧ SqT K H a (vns m) ∧ (SqL K H b (vns ls) ∨ SqT K H b (vns ls)) ∧ m.length + ls.length ≤ 50000 ∧
  ∀ p H', Same H H' → SqT K H' p (vns (VM.followed m ls)) → Q (.ref p) H'
theorem ok_followed {f : Addr} {fd : FuncData} (F : Fun K "_followed" "_followed" s_followed f fd) (T : Txt K mg C) (Dmoved : Def P w K mg base CX0 1 "moved" ["memory", "level"] (spMoved K)) : FnOk P w K mg base CX0 2 f fd ["memory", "levels"] (spFollowed K) := by
  have nd := sc_followed.nd
  refine F.ok sc_followed (fun vs H Q E h => ?_) (fun cdv A outer s H vs Q E hr h => ?_)
  · obtain ⟨a, b, m, ls, rfl, _⟩ := h
    rfl
  · obtain ⟨a, b, m, ls, rfl, ha, hb, hm, k⟩ := h
    refine ⟨_, (pss_cons (ps_for PassesOwn.never rfl (pi_or (pi_list (pv 1)) (pi_tup (pv 1))) (pg_name (i := 2) nd rfl (Or.inl rfl)) (pss_one (ps_set (i := 0) nd rfl (Or.inl rfl) (pe_callD Dmoved (hr.mono (by decide)) rfl pass0 (pa_cons (pv 0) (pa_cons (pv 2) pa_nil)))))) (pss_one (ps_ret (pv 0)))), ?_⟩
    have turn : ∀ (i : Nat) (x : V) (σ : L2.St) (H' : Hp) (D : Ends), (vns ls)[i]? = some x → (∃ p v, σ = [some (.ref p), some (.ref b), v] ∧ SqT K H' p (vns (VM.followed m (ls.take i)))) ∧ Same H H' →
        (∀ σ H', (∃ p v, σ = [some (.ref p), some (.ref b), v] ∧ SqT K H' p (vns (VM.followed m (ls.take (i + 1))))) ∧ Same H H' → D.nx σ H') →
        tAsg (tCall (spMoved K) [] E0 (tCons (tVar 0) (tCons (tVar 2) tNil))) (gName 0) D (σ.set 2 (some x)) H' := by
      rintro i x σ H' D hx ⟨⟨p, v, rfl, hp⟩, e⟩ kk
      obtain ⟨l, hl, rfl⟩ := vns_get hx
      refine ⟨_, rfl, _, rfl, p, _, l, rfl, hp, ?_, fun q H2 e2 hq => ?_⟩
      · have h1 := VM.followed_len (ls.take i) m
        have h2 : (ls.take i).length ≤ ls.length := by
          rw [List.length_take]
          omega
        omega
      · refine kk _ _ ⟨⟨q, _, rfl, ?_⟩, e.trans e2⟩
        rw [VM.followed_take hl]
        exact hq
    rcases hb with hb | hb
    · refine .inl ⟨_, rfl, b, rfl, ⟨_, hb⟩, for_list (K := K) (a := b) (xs := vns ls) (fun i σ H' => (∃ p v, σ = [some (.ref p), some (.ref b), v] ∧ SqT K H' p (vns (VM.followed m (ls.take i)))) ∧ Same H H')
        ⟨⟨a, _, rfl, ha⟩, Same.refl _⟩ (fun i σ H' _ h => h.2.seq hb) (fun i x σ H' hx h => turn i x σ H' _ hx h fun _ _ q => q) ?_⟩
      rintro σ H' ⟨⟨p, v, rfl, hp⟩, e⟩
      rw [List.length_map, List.take_length] at hp
      exact ⟨_, rfl, k p _ e hp⟩
    · refine .inr ⟨_, rfl, b, rfl, ⟨_, hb⟩, for_tup (K := K) (a := b) (xs := vns ls) (fun i σ H' => (∃ p v, σ = [some (.ref p), some (.ref b), v] ∧ SqT K H' p (vns (VM.followed m (ls.take i)))) ∧ Same H H')
        ⟨⟨a, _, rfl, ha⟩, Same.refl _⟩ (fun i σ H' _ h => sqT_same h.2 hb) (fun i x σ H' hx h => turn i x σ H' _ hx h fun _ _ q => q) ?_⟩
      rintro σ H' ⟨⟨p, v, rfl, hp⟩, e⟩
      rw [List.length_map, List.take_length] at hp
      exact ⟨_, rfl, k p _ e hp⟩
/-! ### _height, _heights -/
def spHeight (K : PySem.W.Frag) : Sp := fun vs H Q _ => ∃ (a : Addr) (m : List Nat) (d : Nat), vs = [.ref a, vn d] ∧ SqT K H a (vns m) ∧ Q (vn (VM.height m d)) H
theorem ok_height {f : Addr} {fd : FuncData} (F : Fun K "_height" "_height" s_height f fd) (T : Txt K mg C) : FnOk P w K mg base CX0 1 f fd ["memory", "down"] (spHeight K) := by
  have nd := sc_height.nd
  refine F.ok sc_height (fun vs H Q E h => ?_) (fun cdv A outer s H vs Q E hr h => ?_)
  · obtain ⟨a, m, d, rfl, _⟩ := h
    rfl
  · obtain ⟨a, m, d, rfl, ha, k⟩ := h
    refine ⟨_, (pss_cons (ps_set (i := 2) nd rfl (Or.inl rfl) pe_int) (pss_cons (ps_for PassesOwn.never rfl (pi_tup (pv 0)) (pg_name (i := 3) nd rfl (Or.inl rfl)) (pss_one (ps_set (i := 2) nd rfl (Or.inl rfl) (pe_ifExp (pt_cmpR op_gt (pv 3) (pv 1) (nomark _)) (pe_callB (call_max2 rfl) (by rfl) T.max_ (by decide +kernel) (pa_cons (pv 2) (pa_cons (pv 3) pa_nil))) pe_int)))) (pss_one (ps_ret (pv 2))))), ?_⟩
    refine ⟨_, rfl, a, rfl, ⟨_, ha⟩, for_tup (K := K) (a := a) (xs := vns m) (fun i σ H' => (∃ v, σ = [some (.ref a), some (vn d), some (vn (VM.height (m.take i) d)), v]) ∧ H' = H)
        ⟨⟨_, rfl⟩, rfl⟩ (fun i σ H' _ h => by rw [h.2]; exact ha) ?_ ?_⟩
    · rintro i x σ H' hx ⟨⟨v, rfl⟩, rfl⟩
      obtain ⟨l, hl, rfl⟩ := vns_get hx
      refine ⟨_, rfl, _, rfl, _, _, rfl, rfl, _, rfl, ?_⟩
      have e := VM.height_take (d := d) hl
      refine v_ifd (fun hc => ?_) (fun hc => ?_)
      · refine ⟨_, rfl, _, rfl, _, _, rfl, ?_⟩
        refine ⟨⟨some (vn l), ?_⟩, rfl⟩
        rw [e]
        have : (if (l : Int) > (VM.height (m.take i) d : Int) then (l : Int) else (VM.height (m.take i) d : Int)) = ((VM.hstep d (VM.height (m.take i) d) l : Nat) : Int) := by
          unfold VM.hstep
          rw [if_pos (show d < l by omega)]
          split <;> split <;> omega
        rw [this]
        rfl
      · refine ⟨⟨some (vn l), ?_⟩, rfl⟩
        rw [e]
        have : VM.hstep d (VM.height (m.take i) d) l = 0 := by
          unfold VM.hstep
          rw [if_neg (show ¬ d < l by omega)]
        rw [this]
        rfl
    · rintro σ H' ⟨⟨v, rfl⟩, rfl⟩
      refine ⟨_, rfl, ?_⟩
      rw [List.length_map, List.take_length]
      exact k
def spHeights (K : PySem.W.Frag) : Sp := fun vs H Q _ => ∃ (a : Addr) (m : List Nat) (top : Nat), vs = [vn top, .ref a] ∧ SqT K H a (vns m) ∧ top ≤ 100 ∧
  ∀ p H', H p = none → Same H H' → H' p = some (.lst (vns (VM.heights top m))) → Q (.ref p) H'
theorem ok_heights {f : Addr} {fd : FuncData} (F : Fun K "_heights" "_heights" s_heights f fd) (T : Txt K mg C) (D_height : Def P w K mg base CX0 1 "_height" ["memory", "down"] (spHeight K)) : FnOk P w K mg base CX0 2 f fd ["top", "memory"] (spHeights K) := by
  have nd := sc_heights.nd
  refine F.ok sc_heights (fun vs H Q E h => ?_) (fun cdv A outer s H vs Q E hr h => ?_)
  · obtain ⟨a, m, top, rfl, _⟩ := h
    rfl
  · obtain ⟨a, m, top, rfl, ha, ht, k⟩ := h
    refine ⟨_, (pss_one (ps_ret (pe_lc (own := [("down", 2)]) (by rfl) nd (pi_range1 (by rfl) T.range_ (pa_cons (pv 0) pa_nil)) (blkOk_by (own := [("down", 2)]) (N := n_heights) (sc := defScope s_heights) (by decide +kernel)) (fun _ _ _ _ _ => (pg_name (i := 2) nd rfl (Or.inl rfl))) (fun _ _ _ _ _ => pts_nil) (fun _ _ _ _ _ => (pe_callD D_height (hr.mono (by decide)) rfl pass0 (pa_cons (pv 1) (pa_cons (pv 2) pa_nil))))))), ?_⟩
    refine ⟨_, rfl, _, rfl, by omega, by omega, fun D hD => lc_range (lo := 0) (n := ((top : Nat) : Int).toNat) (fun i H' => Same H H' ∧ H' D = some (.lst (vns ((List.range i).map (VM.height m)))))
      ⟨same_new hD, upd_same⟩ ?_ ?_⟩
    · rintro i H' hi ⟨e, hd⟩
      refine ⟨rfl, _, rfl, _, rfl, a, m, i, ?_, sqT_same e ha, _, hd, ?_, ?_, ?_⟩
      · simp [vn]
      · refine small' ?_
        simp only [List.length_map, List.length_range]
        simp at hi
        omega
      · intro b o hb
        exact upd_old (fun z => by rw [z, hD] at hb; cases hb) (e _ _ hb)
      · rw [upd_same]
        simp [List.range_succ, vns]
    · rintro H' ⟨e, hd⟩
      rw [Int.toNat_natCast] at hd
      exact k D H' hD e hd
end

section
variable {P : Program} {w : World} {K : PySem.W.Frag} {mg : Str → Option Value} {base : Heap} {C : Addr}
/-! ### _memory_of_heights -/
def spMemOf (K : PySem.W.Frag) : Sp := fun vs H Q _ => ∃ (a : Addr) (hs : List Nat), vs = [.ref a] ∧ SqL K H a (vns hs) ∧ hs.length ≤ 100 ∧
  ∀ p H', Same H H' → SqT K H' p (vns (VM.memOf hs)) → Q (.ref p) H'
def mst (hs : List Nat) : List Nat × Nat := hs.zipIdx.foldl VM.mstep ([], 0)
theorem mst_take {hs : List Nat} {i h : Nat} (e : hs[i]? = some h) : mst (hs.take (i + 1)) = VM.mstep (mst (hs.take i)) (h, i) := by
  have hi : i < hs.length := (List.getElem?_eq_some_iff.mp e).1
  unfold mst
  rw [VM.take_succ e, List.zipIdx_append, List.foldl_append]
  simp [Nat.min_eq_left (Nat.le_of_lt hi)]
theorem mst_len : ∀ (hs : List Nat) (i : Nat), (mst (hs.take i)).1.length ≤ 2 * i
  | hs, 0 => by simp [mst]
  | hs, i + 1 => by
    cases e : hs[i]? with
    | none =>
      have h := List.getElem?_eq_none_iff.mp e
      have h1 := mst_len hs i
      rw [List.take_of_length_le (by omega)] at h1 ⊢
      omega
    | some h =>
      have h1 := mst_len hs i
      rw [mst_take e]
      unfold VM.mstep
      split
      · simp
        omega
      · omega
theorem ok_memOf {f : Addr} {fd : FuncData} (F : Fun K "_memory_of_heights" "_memory_of_heights" s_memory_of_heights f fd) (T : Txt K mg C) (D_followed : Def P w K mg base CX0 2 "_followed" ["memory", "levels"] (spFollowed K)) : FnOk P w K mg base CX0 3 f fd ["heights"] (spMemOf K) := by
  have nd := sc_memory_of_heights.nd
  refine F.ok sc_memory_of_heights (fun vs H Q E h => ?_) (fun cdv A outer s H vs Q E hr h => ?_)
  · obtain ⟨a, hs, rfl, _⟩ := h
    rfl
  · obtain ⟨a, hs, rfl, ha, hz, k⟩ := h
    refine ⟨_, (pss_cons (ps_set (i := 1) nd rfl (Or.inl rfl) (pe_lst pa_nil)) (pss_cons (ps_set (i := 2) nd rfl (Or.inl rfl) pe_int) (pss_cons (ps_for PassesOwn.never rfl (pi_enum (by rfl) T.enumerate_ (pa_cons (pv 0) pa_nil)) (pg_tup rfl (pgs_cons (pg_name (i := 3) nd rfl (Or.inl rfl)) (pgs_cons (pg_name (i := 4) nd rfl (Or.inl rfl)) pgs_nil))) (pss_one (ps_if (pt_cmpR op_gt (pv 4) pe_int (nomark _)) (pss_cons (ps_expr (pe_bm PySem.F.plainAttrs_list PySem.F.slot_list_extend PySem.F.type_list_extend mt_extend (pv 1) (pa_cons (pe_lst (pa_cons (pv 3) (pa_cons (pv 4) pa_nil))) pa_nil))) (pss_one (ps_set (i := 2) nd rfl (Or.inl rfl) (pe_op op_add (pv 3) pe_int)))) pss_nil))) (pss_one (ps_ret (pe_callD D_followed (hr.mono (by decide)) rfl pass0 (pa_cons (pe_tup pa_nil) (pa_cons (pe_op op_cat (pv 1) (pe_lst (pa_cons (pv 2) pa_nil))) pa_nil)))))))), ?_⟩
    refine ⟨(by show 0 ≤ sizeLine; decide), fun p hp => ?_⟩
    refine ⟨_, rfl, a, _, rfl, (same_new hp).seq ha, for_enumL (K := K) (a := a) (xs := vns hs) (fun i σ H' => (∃ v3 v4, σ = [some (.ref a), some (.ref p), some (vn (mst (hs.take i)).2), v3, v4]) ∧ Same H H' ∧ H' p = some (.lst (vns (mst (hs.take i)).1)) ∧ i ≤ hs.length)
      ⟨⟨_, _, rfl⟩, same_new hp, upd_same, Nat.zero_le _⟩ (fun i σ H' h => h.2.1.seq ha) ?_ ?_⟩
    · rintro i x Tt σ H' hx ⟨⟨v3, v4, rfl⟩, e, hl, hi⟩ hT
      obtain ⟨h, hh, rfl⟩ := vns_get hx
      have hi' : i < hs.length := (List.getElem?_eq_some_iff.mp hh).1
      refine ⟨Tt, _, rfl, SqT.of upd_same, rfl, _, _, rfl, _, _, rfl, rfl, ?_⟩
      refine ⟨_, rfl, _, _, rfl, rfl, _, rfl, ?_⟩
      have e1 : Same H (upd H' Tt (.tup [.int (i : Nat), vn h])) := e.trans (same_new hT)
      have l1 : upd H' Tt (.tup [.int (i : Nat), vn h]) p = some (.lst (vns (mst (hs.take i)).1)) := upd_new hT hl
      have em := mst_take hh
      refine v_ifd (fun hc => ?_) (fun hc => ?_)
      · refine ⟨_, rfl, .inl ⟨rfl, _, SqL.of l1⟩, _, rfl, _, rfl, (by show 2 ≤ sizeLine; decide), fun q hq => ?_⟩
        apply v_ext (upd_new hq l1) upd_same
        · have := mst_len hs i
          refine small ?_
          simp only [List.length_map, List.length_cons, List.length_nil]
          omega
        · refine ⟨_, rfl, _, _, rfl, rfl, ?_⟩
          · have hc' : 0 < h := by
              have hc'' : (0 : Int) < (h : Int) := hc
              omega
            have e2 : VM.mstep (mst (hs.take i)) (h, i) = ((mst (hs.take i)).1 ++ [i, h], i + 1) := by
              unfold VM.mstep
              rw [if_pos hc']
            rw [e2] at em
            refine ⟨⟨some (vn i), some (vn h), ?_⟩, same_mut hp (e1.trans (same_new hq)), ?_, hi'⟩
            · rw [em]
              show _ = [some (V.ref a), some (V.ref p), some (vn (i + 1)), some (vn i), some (vn h)]
              have : (vn (i + 1) : V) = .int ((i : Int) + 1) := by
                unfold vn
                congr 1
              rw [this]
              rfl
            · rw [upd_same, em]
              simp [vns, vn]
      · have hc' : ¬ 0 < h := by
          have hc'' : ¬ (0 : Int) < (h : Int) := hc
          omega
        have e2 : VM.mstep (mst (hs.take i)) (h, i) = mst (hs.take i) := by
          unfold VM.mstep
          rw [if_neg hc']
        rw [e2] at em
        refine ⟨⟨some (vn i), some (vn h), ?_⟩, e1, ?_, hi'⟩
        · rw [em]
          rfl
        · rw [em]
          exact l1
    · rintro σ H' ⟨⟨v3, v4, rfl⟩, e, hl, _⟩
      rw [List.length_map, List.take_length] at hl
      have hlen := mst_len hs hs.length
      rw [List.take_length] at hlen
      refine ⟨(by show 0 ≤ sizeLine; decide), fun t ht => ⟨_, rfl, _, rfl, (by show 1 ≤ sizeLine; decide), fun q hq => ?_⟩⟩
      apply v_cat (upd_new hq (upd_new ht hl)) upd_same
      · refine small ?_
        simp only [List.length_map, List.length_cons, List.length_nil]
        omega
      · intro r hr
        · refine ⟨t, r, [], (mst hs).1 ++ [(mst hs).2], rfl, ?_, .inl (SqL.of ?_), ?_, fun p' H2 e2 h2 => ?_⟩
          · exact SqT.of (upd_new hr (upd_new hq upd_same))
          · refine upd_same.trans ?_
            rw [List.length_map, List.take_length]
            simp [vns]
          · simp only [List.length_append, List.length_cons, List.length_nil]
            omega
          · refine k p' H2 ?_ h2
            exact (((e.trans (same_new ht)).trans (same_new hq)).trans (same_new hr)).trans e2
end

section
variable {P : Program} {w : World} {K : PySem.W.Frag} {mg : Str → Option Value} {base : Heap} {C : Addr}
/-! ### is_memory, check_memory -/
/-- a value that a caller may hand in as a memory, and whether it is one -/
inductive MemV (K : PySem.W.Frag) (H : Hp) (top : Nat) : V → Bool → Prop
  | tup {a : Addr} {xs : List V} (h : SqT K H a xs) (ht : OkT K H (.ref a) "tuple") (hi : ∀ x ∈ xs, ∃ n, OkT K H x n) (hz : xs.length ≤ 1000) : MemV K H top (.ref a) (isMem top xs)
  | other {x : V} {n : String} (h : OkT K H x n) (hn : n ≠ "tuple") : MemV K H top x false
theorem MemV.same {H H' : Hp} {top : Nat} (e : Same H H') {x : V} {b : Bool} (h : MemV K H top x b) : MemV K H' top x b := by
  cases h with
  | tup h ht hi hz => exact .tup (sqT_same e h) (ht.same e) (fun x hx => let ⟨n, q⟩ := hi x hx; ⟨n, q.same e⟩) hz
  | other h hn => exact .other (h.same e) hn
def spIsMemory (K : PySem.W.Frag) : Sp := fun vs H Q _ => ∃ (top : Nat) (x : V) (b : Bool), vs = [vn top, x] ∧ MemV K H top x b ∧ ∀ H', Same H H' → Q (.bl b) H'
theorem ok_is_memory {f : Addr} {fd : FuncData} (F : Fun K "is_memory" "is_memory" sis_memory f fd) (T : Txt K mg C) (Dis_level : Def P w K mg base CX0 2 "is_level" ["top", "value"] (spIsLevel K))
    (D_followed : Def P w K mg base CX0 2 "_followed" ["memory", "levels"] (spFollowed K)) : FnOk P w K mg base CX0 3 f fd ["top", "value"] (spIsMemory K) := by
  have nd := scis_memory.nd
  refine F.ok scis_memory (fun vs H Q E h => ?_) (fun cdv A outer s H vs Q E hr h => ?_)
  · obtain ⟨top, x, b, rfl, _⟩ := h
    rfl
  · obtain ⟨top, x, b, rfl, hm, k⟩ := h
    refine ⟨_, (pss_cons (ps_if (PW.pt (pw_or (pt_not (pt_val (pe_callB call_isi (by rfl) T.isinstance_ (by decide +kernel) (pa_cons (pv 1) (pa_cons (pe_bltn (v := .ty "tuple") (by rfl) T.tuple_ (by decide +kernel) rfl) pa_nil))))) (pw_or1 (pt_not (pt_val (pe_callB (cr_all rfl) (by rfl) T.all_ (by decide +kernel) (pa_cons (pe_lc (own := [("entry", 2)]) (by rfl) nd (pi_tup (pv 1)) (blkOk_by (own := [("entry", 2)]) (N := nis_memory) (sc := defScope sis_memory) (by decide +kernel)) (fun _ _ _ _ _ => (pg_name (i := 2) nd rfl (Or.inl rfl))) (fun _ _ _ _ _ => pts_nil) (fun _ _ _ _ _ => (pe_callD Dis_level (hr.mono (by decide)) rfl pass0 (pa_cons (pv 0) (pa_cons (pv 2) pa_nil))))) pa_nil))))))) (pss_one (ps_ret pe_bl)) pss_nil) (pss_one (ps_ret (pe_cmpR (op_eqD hr.units) (pe_callD D_followed (hr.mono (by decide)) rfl pass0 (pa_cons (pe_tup pa_nil) (pa_cons (pv 1) pa_nil))) (pv 1) (nomark _))))), ?_⟩
    cases hm with
    | other ok hn =>
      refine ⟨_, rfl, ?_⟩
      apply v_isi ok (kit_tuple ok.kd)
      refine ⟨_, rfl, ?_⟩
      refine v_ift ?_ ?_
      · simp [hn]
      · exact k H (Same.refl _)
    | @tup a xs h ht hi hz =>
      refine ⟨_, rfl, ?_⟩
      apply v_isi ht (kit_tuple ht.kd)
      refine ⟨_, rfl, ?_⟩
      refine v_iff (by rfl) ?_
      refine ⟨_, rfl, a, rfl, ⟨_, h⟩, fun D hD => lc_tup (K := K) (a := a) (xs := xs) (fun i H' => Same H H' ∧ H' D = some (.lst (((xs.take i).map (lvl top)).map V.bl)))
        ⟨same_new hD, upd_same⟩ (fun i H' _ h' => sqT_same h'.1 h) ?_ ?_⟩
      · rintro i x H' hx ⟨e, hd⟩
        obtain ⟨n, ok⟩ := hi x (List.mem_of_getElem? hx)
        refine ⟨rfl, _, rfl, _, rfl, top, x, n, rfl, ok.same e, _, hd, ?_, ?_, ?_⟩
        · refine small' ?_
          simp only [List.length_map, List.length_take]
          omega
        · exact same_mut hD e
        · rw [upd_same, VM.take_succ hx]
          simp
      · rintro H' ⟨e, hd⟩
        rw [List.take_length] at hd
        refine ⟨D, xs.map (lvl top), rfl, SqL.of hd, _, rfl, ?_⟩
        have eall : (xs.map (lvl top)).all id = xs.all (lvl top) := by
          rw [List.all_map]
          rfl
        rw [eall]
        refine v_ifb (fun hb => ?_) (fun hb => ?_)
        · have hf : xs.all (lvl top) = false := by simpa using hb
          have q := k H' e
          unfold isMem at q
          rw [hf] at q
          exact q
        · have hf : xs.all (lvl top) = true := by simpa using hb
          obtain ⟨ex, hle⟩ := all_lvl hf
          have h' : SqT K H' a (vns (xs.map natV)) := by
            rw [← ex]
            exact sqT_same e h
          refine ⟨(by show 0 ≤ sizeLine; decide), fun t ht => ⟨_, rfl, t, a, [], xs.map natV, rfl, SqT.of upd_same, .inr (sqT_same (same_new ht) h'), ?_, fun p H2 e2 h2 => ?_⟩⟩
          · simp only [List.length_map, List.length_nil]
            omega
          · have e3 := (e.trans (same_new ht)).trans e2
            refine ⟨_, rfl, _, _, dp_tup h2, dp_tup (sqT_same ((same_new ht).trans e2) h'), shaped_tup _, shaped_tup _, ?_⟩
            rw [eqv_tup]
            have q := k H2 e3
            unfold isMem at q
            rw [hf] at q
            exact q
def spCheckMemory (K : PySem.W.Frag) (C : Addr) : Sp := fun vs H Q E => ∃ (top : Nat) (x : V) (b : Bool), vs = [vn top, x] ∧ MemV K H top x b ∧ (b = true → ∀ H', Same H H' → Q .non H') ∧ (b = false → ∀ H', Same H H' → E (.ref C) none H')
theorem ok_check_memory {f : Addr} {fd : FuncData} (F : Fun K "check_memory" "check_memory" scheck_memory f fd) (T : Txt K mg C) (Dis_memory : Def P w K mg base CX0 3 "is_memory" ["top", "value"] (spIsMemory K)) :
    FnOk P w K mg base (L2.CX P w) 4 f fd ["top", "memory"] (spCheckMemory K C) := by
  have nd := sccheck_memory.nd
  refine F.okX sccheck_memory (fun vs H Q E h => ?_) (fun cdv A outer s H vs Q E hr h => ?_)
  · obtain ⟨top, x, b, rfl, _⟩ := h
    rfl
  · obtain ⟨top, x, b, rfl, hm, k1, k2⟩ := h
    refine ⟨_, (pss_one (ps_if (pt_not (pt_val (pe_callD Dis_memory (hr.mono (by decide)) rfl pass0 (pa_cons (pv 0) (pa_cons (pv 1) pa_nil))))) (pss_one (ps_raise rfl (takes_of rfl rfl rfl rfl) T.BadMemory_pmk)) pss_nil)), ?_⟩
    refine ⟨_, rfl, _, rfl, top, x, b, rfl, hm, fun H' e => ⟨_, rfl, ?_⟩⟩
    cases b with
    | true => exact k1 rfl H' e
    | false => exact k2 rfl H' e
/-! ### joined, met -/
theorem heights_le (top : Nat) (m : List Nat) : (VM.heights top m).length ≤ 100 ↔ top ≤ 100 := by rw [VM.heights_len]
def spJoined (K : PySem.W.Frag) (C : Addr) (g : Nat → Nat → Nat) : Sp := fun vs H Q E => ∃ (top : Nat) (x y : V) (b c : Bool), vs = [vn top, x, y] ∧ top ≤ 100 ∧ MemV K H top x b ∧ MemV K H top y c ∧
  ((b = false ∨ c = false) → ∀ H', Same H H' → E (.ref C) none H') ∧
  (b = true → c = true → ∃ p q m n, x = .ref p ∧ y = .ref q ∧ SqT K H p (vns m) ∧ SqT K H q (vns n) ∧ ∀ r H', Same H H' → SqT K H' r (vns (VM.memOf (List.zipWith g (VM.heights top m) (VM.heights top n)))) → Q (.ref r) H')
theorem isMem_nat {top : Nat} {xs : List V} (h : isMem top xs = true) : xs = vns (xs.map natV) := by
  unfold isMem at h
  simp only [Bool.and_eq_true] at h
  exact (all_lvl h.1).1
theorem MemV.true {H : Hp} {top : Nat} {x : V} {b : Bool} (h : MemV K H top x b) (hb : b = true) : ∃ p m, x = .ref p ∧ SqT K H p (vns m) := by
  cases h with
  | @tup a xs h ht hi hz => exact ⟨a, xs.map natV, rfl, by rw [← isMem_nat hb]; exact h⟩
  | other => cases hb
theorem zip_take {g : Nat → Nat → Nat} {as bs : List Nat} {i x y : Nat} (ha : as[i]? = some x) (hb : bs[i]? = some y) : (List.zipWith g as bs).take (i + 1) = (List.zipWith g as bs).take i ++ [g x y] := VM.take_succ (VM.zip_get ha hb)
theorem ok_joined {f : Addr} {fd : FuncData} (F : Fun K "joined" "joined" sjoined f fd) (T : Txt K mg C) (Dcheck_memory : Def P w K mg base (L2.CX P w) 4 "check_memory" ["top", "memory"] (spCheckMemory K C))
    (D_heights : Def P w K mg base CX0 2 "_heights" ["top", "memory"] (spHeights K)) (D_memory_of_heights : Def P w K mg base CX0 3 "_memory_of_heights" ["heights"] (spMemOf K)) :
    FnOk P w K mg base (L2.CX P w) 5 f fd ["top", "first", "second"] (spJoined K C max) := by
  have nd := scjoined.nd
  refine F.okX scjoined (fun vs H Q E h => ?_) (fun cdv A outer s H vs Q E hr h => ?_)
  · obtain ⟨top, x, y, b, c, rfl, _⟩ := h
    rfl
  · obtain ⟨top, x, y, b, c, rfl, ht, hx, hy, k1, k2⟩ := h
    refine ⟨_, (pss_cons (ps_expr (pe_callD Dcheck_memory (hr.mono (by decide)) rfl (passes_call (takes_of rfl rfl rfl rfl) (fun _ _ _ _ h => h)) (pa_cons (pv 0) (pa_cons (pv 1) pa_nil)))) (pss_cons (ps_expr (pe_callD Dcheck_memory (hr.mono (by decide)) rfl (passes_call (takes_of rfl rfl rfl rfl) (fun _ _ _ _ h => h)) (pa_cons (pv 0) (pa_cons (pv 2) pa_nil)))) (pss_one (ps_ret (pe_callD D_memory_of_heights (hr.mono (by decide)) rfl pass0 (pa_cons (pe_lc (own := [("pair", 3)]) (by rfl) nd (pi_zipN (by rfl) T.zip_ (pa_cons (pe_callD D_heights (hr.mono (by decide)) rfl pass0 (pa_cons (pv 0) (pa_cons (pv 1) pa_nil))) (pa_cons (pe_callD D_heights (hr.mono (by decide)) rfl pass0 (pa_cons (pv 0) (pa_cons (pv 2) pa_nil))) pa_nil))) (blkOk_by (own := [("pair", 3)]) (N := njoined) (sc := defScope sjoined) (by decide +kernel)) (fun _ _ _ _ _ => (pg_name (i := 3) nd rfl (Or.inl rfl))) (fun _ _ _ _ _ => pts_nil) (fun _ _ _ _ _ => (pe_callB (kCall rMaxT K (cr_maxT rfl (u1 hr))) (by rfl) T.max_ (by decide +kernel) (pa_cons (pv 3) pa_nil)))) pa_nil)))))), ?_⟩
    refine ⟨_, rfl, _, rfl, top, x, b, rfl, hx, fun hb H1 e1 => ?_, fun hb H1 e1 => k1 (.inl hb) H1 e1⟩
    refine ⟨_, rfl, _, rfl, top, y, c, rfl, hy.same e1, fun hc H2 e2 => ?_, fun hc H2 e2 => k1 (.inr hc) H2 (e1.trans e2)⟩
    obtain ⟨p, q, m, n, rfl, rfl, hp, hq, kk⟩ := k2 hb hc
    have e12 := e1.trans e2
    refine ⟨_, rfl, _, rfl, p, m, top, rfl, sqT_same e12 hp, ht, fun l1 H3 n1 e3 h3 => ?_⟩
    refine ⟨_, rfl, _, rfl, q, n, top, rfl, sqT_same (e12.trans e3) hq, ht, fun l2 H4 n2 e4 h4 => ?_⟩
    have e14 := (e12.trans e3).trans e4
    refine ⟨l1, l2, _, _, rfl, SqL.of (e4 _ _ h3), SqL.of h4, fun D hD => lc_zipN (K := K) (a := l1) (b := l2) (xs := vns (VM.heights top m)) (ys := vns (VM.heights top n)) (by simp [VM.heights_len])
      (fun i H' => Same H4 H' ∧ H' D = some (.lst (vns ((List.zipWith max (VM.heights top m) (VM.heights top n)).take i)))) ⟨same_new hD, upd_same⟩ (fun i H' h' => ⟨h'.1.seq (SqL.of (e4 _ _ h3)), h'.1.seq (SqL.of h4)⟩) ?_ ?_⟩
    · rintro i x y Tt H' hx hy ⟨e, hd⟩ hT
      obtain ⟨x, hx', rfl⟩ := vns_get hx
      obtain ⟨y, hy', rfl⟩ := vns_get hy
      have hz := zip_take (g := max) hx' hy'
      refine ⟨rfl, _, rfl, Tt, (x : Int), [(y : Int)], rfl, SqT.of upd_same, _, upd_new hT hd, ?_, ?_, ?_⟩
      · refine small' ?_
        simp only [List.length_map, List.length_take, List.length_zipWith, VM.heights_len]
        omega
      · exact same_mut hD (e.trans (same_new hT))
      · rw [upd_same, hz]
        have : V.int ([(y : Int)].foldl max (x : Int)) = vn (max x y) := by
          unfold vn
          congr 1
          show max (x : Int) (y : Int) = _
          omega
        rw [this]
        simp [vns]
    · rintro H' ⟨e, hd⟩
      rw [List.take_of_length_le (by simp [VM.heights_len])] at hd
      refine ⟨D, _, rfl, SqL.of hd, ?_, fun r H5 e5 h5 => kk r H5 ((e14.trans e).trans e5) h5⟩
      simp only [List.length_zipWith, VM.heights_len]
      omega
theorem ok_met {f : Addr} {fd : FuncData} (F : Fun K "met" "met" smet f fd) (T : Txt K mg C) (Dcheck_memory : Def P w K mg base (L2.CX P w) 4 "check_memory" ["top", "memory"] (spCheckMemory K C))
    (D_heights : Def P w K mg base CX0 2 "_heights" ["top", "memory"] (spHeights K)) (D_memory_of_heights : Def P w K mg base CX0 3 "_memory_of_heights" ["heights"] (spMemOf K)) :
    FnOk P w K mg base (L2.CX P w) 5 f fd ["top", "first", "second"] (spJoined K C min) := by
  have nd := scmet.nd
  refine F.okX scmet (fun vs H Q E h => ?_) (fun cdv A outer s H vs Q E hr h => ?_)
  · obtain ⟨top, x, y, b, c, rfl, _⟩ := h
    rfl
  · obtain ⟨top, x, y, b, c, rfl, ht, hx, hy, k1, k2⟩ := h
    refine ⟨_, (pss_cons (ps_expr (pe_callD Dcheck_memory (hr.mono (by decide)) rfl (passes_call (takes_of rfl rfl rfl rfl) (fun _ _ _ _ h => h)) (pa_cons (pv 0) (pa_cons (pv 1) pa_nil)))) (pss_cons (ps_expr (pe_callD Dcheck_memory (hr.mono (by decide)) rfl (passes_call (takes_of rfl rfl rfl rfl) (fun _ _ _ _ h => h)) (pa_cons (pv 0) (pa_cons (pv 2) pa_nil)))) (pss_one (ps_ret (pe_callD D_memory_of_heights (hr.mono (by decide)) rfl pass0 (pa_cons (pe_lc (own := [("pair", 3)]) (by rfl) nd (pi_zipN (by rfl) T.zip_ (pa_cons (pe_callD D_heights (hr.mono (by decide)) rfl pass0 (pa_cons (pv 0) (pa_cons (pv 1) pa_nil))) (pa_cons (pe_callD D_heights (hr.mono (by decide)) rfl pass0 (pa_cons (pv 0) (pa_cons (pv 2) pa_nil))) pa_nil))) (blkOk_by (own := [("pair", 3)]) (N := nmet) (sc := defScope smet) (by decide +kernel)) (fun _ _ _ _ _ => (pg_name (i := 3) nd rfl (Or.inl rfl))) (fun _ _ _ _ _ => pts_nil) (fun _ _ _ _ _ => (pe_callB (kCall rMinT K (cr_minT rfl (u1 hr))) (by rfl) T.min_ (by decide +kernel) (pa_cons (pv 3) pa_nil)))) pa_nil)))))), ?_⟩
    refine ⟨_, rfl, _, rfl, top, x, b, rfl, hx, fun hb H1 e1 => ?_, fun hb H1 e1 => k1 (.inl hb) H1 e1⟩
    refine ⟨_, rfl, _, rfl, top, y, c, rfl, hy.same e1, fun hc H2 e2 => ?_, fun hc H2 e2 => k1 (.inr hc) H2 (e1.trans e2)⟩
    obtain ⟨p, q, m, n, rfl, rfl, hp, hq, kk⟩ := k2 hb hc
    have e12 := e1.trans e2
    refine ⟨_, rfl, _, rfl, p, m, top, rfl, sqT_same e12 hp, ht, fun l1 H3 n1 e3 h3 => ?_⟩
    refine ⟨_, rfl, _, rfl, q, n, top, rfl, sqT_same (e12.trans e3) hq, ht, fun l2 H4 n2 e4 h4 => ?_⟩
    have e14 := (e12.trans e3).trans e4
    refine ⟨l1, l2, _, _, rfl, SqL.of (e4 _ _ h3), SqL.of h4, fun D hD => lc_zipN (K := K) (a := l1) (b := l2) (xs := vns (VM.heights top m)) (ys := vns (VM.heights top n)) (by simp [VM.heights_len])
      (fun i H' => Same H4 H' ∧ H' D = some (.lst (vns ((List.zipWith min (VM.heights top m) (VM.heights top n)).take i)))) ⟨same_new hD, upd_same⟩ (fun i H' h' => ⟨h'.1.seq (SqL.of (e4 _ _ h3)), h'.1.seq (SqL.of h4)⟩) ?_ ?_⟩
    · rintro i x y Tt H' hx hy ⟨e, hd⟩ hT
      obtain ⟨x, hx', rfl⟩ := vns_get hx
      obtain ⟨y, hy', rfl⟩ := vns_get hy
      have hz := zip_take (g := min) hx' hy'
      refine ⟨rfl, _, rfl, Tt, (x : Int), [(y : Int)], rfl, SqT.of upd_same, _, upd_new hT hd, ?_, ?_, ?_⟩
      · refine small' ?_
        simp only [List.length_map, List.length_take, List.length_zipWith, VM.heights_len]
        omega
      · exact same_mut hD (e.trans (same_new hT))
      · rw [upd_same, hz]
        have : V.int ([(y : Int)].foldl min (x : Int)) = vn (min x y) := by
          unfold vn
          congr 1
          show min (x : Int) (y : Int) = _
          omega
        rw [this]
        simp [vns]
    · rintro H' ⟨e, hd⟩
      rw [List.take_of_length_le (by simp [VM.heights_len])] at hd
      refine ⟨D, _, rfl, SqL.of hd, ?_, fun r H5 e5 h5 => kk r H5 ((e14.trans e).trans e5) h5⟩
      simp only [List.length_zipWith, VM.heights_len]
      omega
end

section
variable {P : Program} {w : World} {K : PySem.W.Frag} {mg : Str → Option Value} {base : Heap} {C : Addr}
/-! ### the draws -/
def spTake : Sp := fun vs H Q _ => ∃ (f : Addr) (a b n : Int), vs = [.ref f, .int n] ∧ H f = some (.lst [.int a, .int b]) ∧ 0 ≤ a ∧ 0 ≤ b ∧ 0 < n ∧ n < 1000000 ∧
  ∀ (r a' b' : Int), 0 ≤ r → r < n → 0 ≤ a' → 0 ≤ b' → Q (.int r) (upd H f (.lst [.int a', .int b']))
theorem ok_take {f : Addr} {fd : FuncData} (F : Fun K "_law_take" "_law_take" s_law_take f fd) (T : Txt K mg C) : FnOk P w K mg base CX0 1 f fd ["feed", "size"] spTake := by
  have nd := sc_law_take.nd
  refine F.ok sc_law_take (fun vs H Q E h => ?_) (fun cdv A outer s H vs Q E hr h => ?_)
  · obtain ⟨f, a, b, n, rfl, _⟩ := h
    rfl
  · obtain ⟨f, a, b, n, rfl, hf, ha, hb, h0, h1, k⟩ := h
    refine ⟨_, (pss_cons (ps_if (pt_cmpR op_gt (pe_ix ix_list (pv 0) pe_int (fun _ _ => rfl)) pe_int (nomark _)) (pss_cons (ps_set (i := 2) nd rfl (Or.inl rfl) (pe_op op_mod (pe_callTy call_int1 (by rfl) T.int_ (by decide +kernel) (pa_cons (pe_ix ix_list (pv 0) pe_int (fun _ _ => rfl)) pa_nil)) (pv 1))) (pss_cons (ps_asg (pe_op op_fdiv (pe_ix ix_list (pv 0) pe_int (fun _ _ => rfl)) (pv 1)) (pg_sub (pv 0) pe_int set_list)) (pss_one (ps_ret (pv 2))))) pss_nil) (pss_cons (ps_asg (pe_op op_mod (pe_callTy call_int1 (by rfl) T.int_ (by decide +kernel) (pa_cons (pe_op op_add (pe_op op_mul (pe_ix ix_list (pv 0) pe_int (fun _ _ => rfl)) pe_int) pe_int) pa_nil)) pe_int) (pg_sub (pv 0) pe_int set_list)) (pss_one (ps_ret (pe_op op_mod (pe_callTy call_int1 (by rfl) T.int_ (by decide +kernel) (pa_cons (pe_op op_fdiv (pe_ix ix_list (pv 0) pe_int (fun _ _ => rfl)) pe_int) pa_nil)) (pv 1)))))), ?_⟩
    walk_at "vs"
    refine v_ifd (fun hc => ?_) (fun hc => ?_)
    · walk_at "vs"
      exact k (a % n) (a / n) b (Int.emod_nonneg _ (by omega)) (Int.emod_lt_of_pos _ h0) (Int.ediv_nonneg ha (by omega)) hb
    · walk_at "vs"
      exact k _ a _ (Int.emod_nonneg _ (by omega)) (Int.emod_lt_of_pos _ h0) ha (Int.emod_nonneg _ (by omega))
def spPick (K : PySem.W.Frag) : Sp := fun vs H Q _ => ∃ (f t : Addr) (a b : Int) (xs : List V), vs = [.ref f, .ref t] ∧ H f = some (.lst [.int a, .int b]) ∧ 0 ≤ a ∧ 0 ≤ b ∧ SqL K H t xs ∧ t ≠ f ∧ 0 < xs.length ∧ xs.length < 100000 ∧
  ∀ (v : V) (a' b' : Int), v ∈ xs → 0 ≤ a' → 0 ≤ b' → Q v (upd H f (.lst [.int a', .int b']))
theorem ok_pick {f : Addr} {fd : FuncData} (F : Fun K "_law_pick" "_law_pick" s_law_pick f fd) (T : Txt K mg C) (D_law_take : Def P w K mg base CX0 1 "_law_take" ["feed", "size"] spTake) : FnOk P w K mg base CX0 2 f fd ["feed", "things"] (spPick K) := by
  have nd := sc_law_pick.nd
  refine F.ok sc_law_pick (fun vs H Q E h => ?_) (fun cdv A outer s H vs Q E hr h => ?_)
  · obtain ⟨f, t, a, b, xs, rfl, _⟩ := h
    rfl
  · obtain ⟨f, t, a, b, xs, rfl, hf, ha, hb, ht, hne, h0, h1, k⟩ := h
    refine ⟨_, (pss_one (ps_ret (pe_ix ix_list (pv 1) (pe_callD D_law_take (hr.mono (by decide)) rfl pass0 (pa_cons (pv 0) (pa_cons (pe_callB call_len_seq (by rfl) T.len_ PySem.boot_len (pa_cons (pv 1) pa_nil)) pa_nil))) (fun _ _ => rfl)))), ?_⟩
    refine ⟨_, rfl, _, rfl, _, rfl, ?_⟩
    apply v_lenL ht
    refine ⟨f, a, b, _, rfl, hf, ha, hb, by omega, by omega, fun r a' b' hr0 hr1 ha' hb' => ?_⟩
    have hlt : r.toNat < xs.length := by omega
    have ht' : SqL K (upd H f (.lst [.int a', .int b'])) t xs := sqL_but but_upd hne ht
    apply v_ixL ht' (at_of (j := r.toNat) (by omega) (List.getElem?_eq_getElem hlt))
    exact k _ a' b' (List.getElem_mem hlt) ha' hb'
def spFeed (K : PySem.W.Frag) : Sp := fun vs H Q _ => ∃ (a : Addr) (ns : List Int) (k : Nat), vs = [.ref a, vn k] ∧ SqL K H a (ns.map V.int) ∧ ns.length ≤ 63 ∧ k ≤ 10 ∧
  ∀ p H' x y, H p = none → Same H H' → H' p = some (.lst [.int x, .int y]) → 0 ≤ x → 0 ≤ y → Q (.ref p) H'
theorem cut_one {ns : List Int} {k : Nat} : ∃ ms : List Int, cutV (ns.map V.int) (some (k : Int)) (some ((k : Int) + 1)) = ms.map V.int ∧ ms.length ≤ 1 := by
  refine ⟨(ns.drop (HT.sIx ns.length 0 (some (k : Int)))).take (HT.sIx ns.length ns.length (some ((k + 1 : Nat) : Int)) - HT.sIx ns.length 0 (some (k : Int))), ?_, ?_⟩
  · unfold cutV
    rw [show ((k : Int) + 1) = ((k + 1 : Nat) : Int) by omega]
    simp [List.map_take, List.map_drop]
  · rw [HT.sIx_nat, HT.sIx_nat, List.length_take]
    omega
theorem ok_feed {f : Addr} {fd : FuncData} (F : Fun K "_law_feed" "_law_feed" s_law_feed f fd) (T : Txt K mg C) : FnOk P w K mg base CX0 1 f fd ["script", "k"] (spFeed K) := by
  have nd := sc_law_feed.nd
  refine F.ok sc_law_feed (fun vs H Q E h => ?_) (fun cdv A outer s H vs Q E hr h => ?_)
  · obtain ⟨a, ns, k, rfl, _⟩ := h
    rfl
  · obtain ⟨a, ns, k, rfl, ha, hz, hk, kk⟩ := h
    refine ⟨_, (pss_cons (ps_set (i := 2) nd rfl (Or.inl rfl) (pe_ix ix_list (pe_op op_cat (pe_callTy call_list_of (by rfl) T.list_ (by decide +kernel) (pa_cons (pe_slice sl_list (pv 0) (po_some (pv 1)) (po_some (pe_op op_add (pv 1) pe_int))) pa_nil)) (pe_lst (pa_cons (pe_op op_add (pe_op op_mul pe_int (pv 1)) pe_int) pa_nil))) pe_int (fun _ _ => rfl))) (pss_cons (ps_set (i := 3) nd rfl (Or.inl rfl) (pe_callB (call_max2 rfl) (by rfl) T.max_ (by decide +kernel) (pa_cons pe_int (pa_cons (pe_op op_sub (pe_callB call_abs (by rfl) T.abs_ (by decide +kernel) (pa_cons (pv 2) pa_nil)) (pe_op op_pow pe_int pe_int)) pa_nil)))) (pss_one (ps_ret (pe_lst (pa_cons (pv 3) (pa_cons (pe_op op_mod (pe_callTy call_int1 (by rfl) T.int_ (by decide +kernel) (pa_cons (pe_op op_add (pe_op op_add (pe_op op_mul (pe_op op_mod (pe_callTy call_int1 (by rfl) T.int_ (by decide +kernel) (pa_cons (pe_callB call_abs (by rfl) T.abs_ (by decide +kernel) (pa_cons (pv 2) pa_nil)) pa_nil)) pe_int) pe_int) (pe_op op_mul pe_int (pv 1))) pe_int) pa_nil)) pe_int) pa_nil))))))), ?_⟩
    refine ⟨_, rfl, _, rfl, _, rfl, _, rfl, _, _, rfl, rfl, _, rfl, ?_⟩
    apply v_slL ha
    intro p hp
    obtain ⟨ms, em, hm⟩ := cut_one (ns := ns) (k := k)
    have up : (upd H p (.lst (cutV (ns.map V.int) (some (k : Int)) (some ((k : Int) + 1))))) p = some (.lst (ms.map V.int)) := by
      rw [upd_same, em]
    refine ⟨p, _, rfl, .inl (SqL.of up), fun q hq => ?_⟩
    refine ⟨_, rfl, ?_⟩
    apply v_I
    · exact .inl ⟨by decide, by decide⟩
    refine ⟨_, _, rfl, rfl, (by show 1 ≤ sizeLine; decide), fun r hr' => ?_⟩
    apply v_cat (upd_new hr' upd_same) upd_same
    · refine small ?_
      simp only [List.length_map, List.length_cons, List.length_nil]
      omega
    intro t ht
    obtain ⟨c, rest, ec⟩ : ∃ (c : Int) (rest : List Int), ms.map V.int ++ [V.int (71 * (k : Int) + 23)] = V.int c :: rest.map V.int := by
      cases ms with
      | nil => exact ⟨_, [], rfl⟩
      | cons m r => exact ⟨m, r ++ [71 * (k : Int) + 23], by simp⟩
    apply v_ixL (SqL.of (upd_same.trans (by rw [show (List.map V.int ms ++ [V.int ((fun i j => i + j) ((fun i j => i * j) 71 (k : Int)) 23)]) = V.int c :: rest.map V.int from ec]))) (at_of (j := 0) rfl rfl)
    walk_at "vs"
    refine ⟨(by show 2 ≤ sizeLine; decide), fun u hu => ?_⟩
    refine kk u _ _ _ (((((same_new hp).trans (same_new hq)).trans (same_new hr')).trans (same_new ht)).free hu) (((((same_new hp).trans (same_new hq)).trans (same_new hr')).trans (same_new ht)).trans (same_new hu)) upd_same ?_ (Int.emod_nonneg _ (by decide))
    split <;> omega
/-! ### switches -/
def spIsOn (K : PySem.W.Frag) : Sp := fun vs H Q _ => ∃ (s a : Addr) (u d : Nat) (ls : List Nat), vs = [.ref s, .ref a] ∧ SqT K H s (vns [u, d]) ∧ SqT K H a (vns ls) ∧ Q (.bl (VM.isOn u d ls)) H
theorem ok_is_on {f : Addr} {fd : FuncData} (F : Fun K "_law_is_on" "_law_is_on" s_law_is_on f fd) (T : Txt K mg C) : FnOk P w K mg base CX0 1 f fd ["switch", "levels"] (spIsOn K) := by
  have nd := sc_law_is_on.nd
  refine F.ok sc_law_is_on (fun vs H Q E h => ?_) (fun cdv A outer s H vs Q E hr h => ?_)
  · obtain ⟨s, a, u, d, ls, rfl, _⟩ := h
    rfl
  · obtain ⟨s, a, u, d, ls, rfl, hs, ha, k⟩ := h
    refine ⟨_, (pss_cons (ps_set (i := 2) nd rfl (Or.inl rfl) pe_bl) (pss_cons (ps_for PassesOwn.never rfl (pi_tup (pv 1)) (pg_name (i := 3) nd rfl (Or.inl rfl)) (pss_cons (ps_if (pt_cmpR op_ge (pv 3) (pe_ix ix_tup (pv 0) pe_int (fun _ _ => rfl)) (nomark _)) (pss_one (ps_set (i := 2) nd rfl (Or.inl rfl) pe_bl)) pss_nil) (pss_one (ps_if (pt_cmpR op_le (pv 3) (pe_ix ix_tup (pv 0) pe_int (fun _ _ => rfl)) (nomark _)) (pss_one (ps_set (i := 2) nd rfl (Or.inl rfl) pe_bl)) pss_nil)))) (pss_one (ps_ret (pv 2))))), ?_⟩
    refine ⟨_, rfl, a, rfl, ⟨_, ha⟩, for_tup (K := K) (a := a) (xs := vns ls) (fun i σ H' => (∃ v, σ = [some (.ref s), some (.ref a), some (.bl (VM.isOn u d (ls.take i))), v]) ∧ H' = H)
        ⟨⟨_, rfl⟩, rfl⟩ (fun i σ H' _ h => by rw [h.2]; exact ha) ?_ ?_⟩
    · rintro i x σ H' hx ⟨⟨v, rfl⟩, rfl⟩
      obtain ⟨l, hl, rfl⟩ := vns_get hx
      have e := VM.isOn_take (u := u) (d := d) hl
      refine ⟨_, rfl, _, rfl, ?_⟩
      apply v_ixT hs rfl
      refine ⟨_, _, rfl, rfl, _, rfl, ?_⟩
      refine v_ifd (fun hc => ?_) (fun hc => ?_)
      all_goals
        refine ⟨_, rfl, _, rfl, ?_⟩
        apply v_ixT hs rfl
        refine ⟨_, _, rfl, rfl, _, rfl, ?_⟩
        refine v_ifd (fun hd => ?_) (fun hd => ?_)
      all_goals
        have hc' := hc
        have hd' := hd
        refine ⟨⟨some (vn l), ?_⟩, rfl⟩
        rw [e]
        unfold VM.ostep
      · rw [if_pos (show l ≤ d by omega)]
        rfl
      · rw [if_neg (show ¬ l ≤ d by omega), if_pos (show u ≤ l by omega)]
        rfl
      · rw [if_pos (show l ≤ d by omega)]
        rfl
      · rw [if_neg (show ¬ l ≤ d by omega), if_neg (show ¬ u ≤ l by omega)]
        rfl
    · rintro σ H' ⟨⟨v, rfl⟩, rfl⟩
      refine ⟨_, rfl, ?_⟩
      rw [List.length_map, List.take_length]
      exact k
def spSwitches (K : PySem.W.Frag) : Sp := fun vs H Q _ => ∃ (top : Nat), vs = [vn top] ∧ top ≤ 6 ∧ ∀ p H' xs, H p = none → Same H H' → H' p = some (.lst xs) → Tups K H' xs (VM.switches top) → Q (.ref p) H'
def swPart (u : Nat) : List (List Nat) := (List.range (u + 1)).map fun d => [u + 1, d]
theorem fl_succ {α : Type} (f : Nat → List α) (n : Nat) : ((List.range (n + 1)).map f).flatten = ((List.range n).map f).flatten ++ f n := by
  rw [List.range_succ, List.map_append, List.flatten_append]
  simp
theorem sw_succ (n : Nat) : VM.switches (n + 1) = VM.switches n ++ swPart n := fl_succ _ n
theorem sw_len (n : Nat) : (VM.switches n).length ≤ n * 7 ∨ 6 < n := by
  by_cases h : n ≤ 6
  · left
    rcases (show n = 0 ∨ n = 1 ∨ n = 2 ∨ n = 3 ∨ n = 4 ∨ n = 5 ∨ n = 6 by omega) with rfl | rfl | rfl | rfl | rfl | rfl | rfl <;> decide
  · right
    omega
theorem ok_switches {f : Addr} {fd : FuncData} (F : Fun K "_law_switches" "_law_switches" s_law_switches f fd) (T : Txt K mg C) : FnOk P w K mg base CX0 1 f fd ["top"] (spSwitches K) := by
  have nd := sc_law_switches.nd
  refine F.ok sc_law_switches (fun vs H Q E h => ?_) (fun cdv A outer s H vs Q E hr h => ?_)
  · obtain ⟨top, rfl, _⟩ := h
    rfl
  · obtain ⟨top, rfl, ht, k⟩ := h
    refine ⟨_, (pss_cons (ps_set (i := 1) nd rfl (Or.inl rfl) (pe_lst pa_nil)) (pss_cons (ps_for PassesOwn.never rfl (pi_range2 (by rfl) T.range_ (pa_cons pe_int (pa_cons (pe_op op_add (pv 0) pe_int) pa_nil))) (pg_name (i := 2) nd rfl (Or.inr rfl)) (pss_one (ps_set (i := 1) nd rfl (Or.inl rfl) (pe_op op_cat (pv 1) (pe_lc (own := [("down", 3)]) (by rfl) nd (pi_range1 (by rfl) T.range_ (pa_cons (pv 2) pa_nil)) (blkOk_by (own := [("down", 3)]) (N := n_law_switches) (sc := defScope s_law_switches) (by decide +kernel)) (fun _ _ _ _ _ => (pg_name (i := 3) nd rfl (Or.inl rfl))) (fun _ _ _ _ _ => pts_nil) (fun _ _ _ _ _ => (pe_tup (pa_cons (pv 2) (pa_cons (pv 3) pa_nil))))))))) (pss_one (ps_ret (pv 1))))), ?_⟩
    refine ⟨(by show 0 ≤ sizeLine; decide), fun p hp => ?_⟩
    refine ⟨_, rfl, _, _, rfl, rfl, _, _, rfl, ⟨by decide, by decide, by omega, by omega⟩, for_range (lo := 1) (n := (((top : Nat) : Int) + 1 - 1).toNat)
      (fun i σ H' => ∃ q xs v2 v3, σ = [some (vn top), some (.ref q), v2, v3] ∧ H q = none ∧ Same H H' ∧ H' q = some (.lst xs) ∧ Tups K H' xs (VM.switches i) ∧ i ≤ top) ?_ ?_ ?_⟩
    · exact ⟨p, [], _, _, rfl, hp, same_new hp, upd_same, .nil, Nat.zero_le _⟩
    · rintro i σ H' hi ⟨q, xs, v2, v3, rfl, hq, e, hlq, ht', hi'⟩
      have hi2 : i < top := by omega
      have hqx : ∀ (H2 : Hp) (o : HO) (r : Addr), H2 r = none → Same H' H2 → Same H' (upd H2 r o) := fun H2 o r h1 h2 => h2.trans (same_new h1)
      refine ⟨_, rfl, _, rfl, _, rfl, by omega, by omega, fun D hD => lc_range (lo := 0) (n := ((1 : Int) + (i : Int)).toNat)
        (fun j H2 => Same H' H2 ∧ ∃ ys, H2 D = some (.lst ys) ∧ Tups K H2 ys ((List.range j).map fun d => [i + 1, d])) ⟨same_new hD, [], upd_same, .nil⟩ ?_ ?_⟩
      · rintro j H2 hj ⟨e2, ys, hy, hty⟩
        refine ⟨rfl, _, rfl, _, rfl, (by show 2 ≤ sizeLine; decide), fun t ht => ⟨_, upd_new ht hy, ?_, ?_⟩⟩
        · have hl := hty.len
          refine small' ?_
          rw [hl, List.length_map, List.length_range]
          omega
        · have e3 : Same H' (upd H2 t (.tup [.int (1 + (i : Int)), .int (0 + (j : Int))])) := e2.trans (same_new ht)
          have nD : ∀ (H3 : Hp) (o : HO), Same H' H3 → Same H' (upd H3 D o) := fun H3 o h3 => same_mut hD h3
          refine ⟨nD _ _ e3, _, upd_same, ?_⟩
          rw [List.range_succ, List.map_append]
          have tD : t ≠ D := fun z => by rw [z, hy] at ht; cases ht
          have ht2 : Tups K (upd H2 t (.tup [.int (1 + (i : Int)), .int (0 + (j : Int))])) ys ((List.range j).map fun d => [i + 1, d]) := hty.same (same_new ht)
          have hy2 : (upd H2 t (.tup [.int (1 + (i : Int)), .int (0 + (j : Int))])) D = some (.lst ys) := upd_new ht hy
          refine Tups.append (ht2.but fun a ns h => ?_) (Tups.one (SqT.of ?_))
          · exact sqT_but (f := D) but_upd hy2 h
          · rw [upd_ne tD, upd_same]
            have h1 : ((1 : Int) + (i : Int)) = ((i + 1 : Nat) : Int) := by omega
            have h2 : ((0 : Int) + (j : Int)) = ((j : Nat) : Int) := by omega
            rw [h1, h2]
            rfl
      · rintro H2 ⟨e2, ys, hy, hty⟩
        have hs := ht'.len
        have hl := hty.len
        apply v_cat (e2 _ _ hlq) hy
        · have hw := sw_len i
          refine small ?_
          rw [hs, hl, List.length_map, List.length_range]
          omega
        · intro r hr2
          have e4 : Same H (upd H2 r (.lst (xs ++ ys))) := (e.trans e2).trans (same_new hr2)
          refine ⟨r, xs ++ ys, _, _, rfl, (e.trans e2).free hr2, e4, upd_same, ?_, hi2⟩
          rw [sw_succ]
          refine Tups.append ((ht'.same e2).same (same_new hr2)) ?_
          have : swPart i = (List.range ((1 : Int) + (i : Int)).toNat).map fun d => [i + 1, d] := by
            unfold swPart
            rw [show ((1 : Int) + (i : Int)).toNat = i + 1 by omega]
          rw [this]
          exact hty.same (same_new hr2)
    · rintro σ H' ⟨q, xs, v2, v3, rfl, hq, e, hl, ht', hi'⟩
      refine ⟨_, rfl, k q H' xs hq e hl ?_⟩
      have : (((top : Nat) : Int) + 1 - 1).toNat = top := by omega
      rw [this] at ht'
      exact ht'
end

/-! ### the law's memories: lists of lists, pairs of a length and a tuple -/
inductive Lsts (H : Hp) : List V → List (List Nat) → Prop
  | nil : Lsts H [] []
  | cons {a : Addr} {ns : List Nat} {xs : List V} {nss : List (List Nat)} : H a = some (.lst (vns ns)) → Lsts H xs nss → Lsts H (.ref a :: xs) (ns :: nss)
theorem Lsts.len {H : Hp} : ∀ {xs : List V} {nss : List (List Nat)}, Lsts H xs nss → xs.length = nss.length
  | _, _, .nil => rfl
  | _, _, .cons _ t => congrArg (· + 1) t.len
theorem Lsts.but {H H' : Hp} (f : ∀ a ns, H a = some (.lst (vns ns)) → H' a = some (.lst (vns ns))) : ∀ {xs : List V} {nss : List (List Nat)}, Lsts H xs nss → Lsts H' xs nss
  | _, _, .nil => .nil
  | _, _, .cons h t => .cons (f _ _ h) (t.but f)
theorem Lsts.same {H H' : Hp} (e : Same H H') {xs : List V} {nss : List (List Nat)} (t : Lsts H xs nss) : Lsts H' xs nss := t.but fun _ _ h => e _ _ h
theorem Lsts.get {H : Hp} : ∀ {xs : List V} {nss : List (List Nat)} {i : Nat} {x : V}, Lsts H xs nss → xs[i]? = some x → ∃ a ns, x = .ref a ∧ nss[i]? = some ns ∧ H a = some (.lst (vns ns))
  | _, _, i, _, .nil, h => by simp at h
  | _, _, 0, x, .cons h t, e => by
    have e' := Option.some.inj (show some _ = some x from e)
    subst e'
    exact ⟨_, _, rfl, rfl, h⟩
  | _, _, i + 1, x, .cons h t, e => by
    obtain ⟨a, ns, h1, h2, h3⟩ := t.get (i := i) (x := x) (by simpa using e)
    exact ⟨a, ns, h1, by simpa using h2, h3⟩
theorem Lsts.append {H : Hp} : ∀ {xs ys : List V} {nss mss : List (List Nat)}, Lsts H xs nss → Lsts H ys mss → Lsts H (xs ++ ys) (nss ++ mss)
  | _, _, _, _, .nil, u => u
  | _, _, _, _, .cons h t, u => .cons h (t.append u)
theorem ref_vns {a : Addr} {ns : List Nat} (h : V.ref a ∈ vns ns) : False := by
  obtain ⟨n, _, e⟩ := List.mem_map.mp h
  cases e
theorem Lsts.put {H : Hp} {D : Addr} {ys : List V} (hy : H D = some (.lst ys)) (o : HO) : ∀ {xs : List V} {nss : List (List Nat)}, Lsts H xs nss → (∀ x ∈ xs, x ∈ ys) → Lsts (upd H D o) xs nss
  | _, _, .nil, _ => .nil
  | _, _, .cons (a := a) (ns := ns) h t, f => by
    have ne : a ≠ D := fun z => by
      rw [z, hy] at h
      have e : ys = vns ns := by
        injection h with h1
        injection h1
      have := f (.ref a) (by simp)
      rw [e] at this
      exact ref_vns this
    exact .cons (upd_old ne h) (t.put hy o fun x hx => f x (by simp [hx]))
inductive Prs (K : PySem.W.Frag) (H : Hp) : List V → List (List Nat) → Prop
  | nil : Prs K H [] []
  | cons {t e : Addr} {ns : List Nat} {xs : List V} {nss : List (List Nat)} : SqT K H t [vn ns.length, .ref e] → SqT K H e (vns ns) → Prs K H xs nss → Prs K H (.ref t :: xs) (ns :: nss)
theorem Prs.len {K : PySem.W.Frag} {H : Hp} : ∀ {xs : List V} {nss : List (List Nat)}, Prs K H xs nss → xs.length = nss.length
  | _, _, .nil => rfl
  | _, _, .cons _ _ t => congrArg (· + 1) t.len
theorem Prs.but {K : PySem.W.Frag} {H H' : Hp} (f : ∀ a xs, SqT K H a xs → SqT K H' a xs) : ∀ {xs : List V} {nss : List (List Nat)}, Prs K H xs nss → Prs K H' xs nss
  | _, _, .nil => .nil
  | _, _, .cons h g t => .cons (f _ _ h) (f _ _ g) (t.but f)
theorem Prs.append {K : PySem.W.Frag} {H : Hp} : ∀ {xs ys : List V} {nss mss : List (List Nat)}, Prs K H xs nss → Prs K H ys mss → Prs K H (xs ++ ys) (nss ++ mss)
  | _, _, _, _, .nil, u => u
  | _, _, _, _, .cons h g t, u => .cons h g (t.append u)
theorem Prs.zip {K : PySem.W.Frag} {H : Hp} : ∀ {xs : List V} {nss : List (List Nat)}, Prs K H xs nss → ∀ x ns, (x, ns) ∈ xs.zip nss → ∃ t e, x = .ref t ∧ SqT K H t [vn ns.length, .ref e] ∧ SqT K H e (vns ns)
  | _, _, .nil, x, ns, h => by simp at h
  | _, _, .cons h g t, x, ns, hm => by
    simp only [List.zip_cons_cons, List.mem_cons, Prod.mk.injEq] at hm
    rcases hm with ⟨rfl, rfl⟩ | hm
    · exact ⟨_, _, rfl, h, g⟩
    · exact t.zip x ns hm
def penc (ns : List Nat) : PyData := .tuple [pint ns.length, ptup ns]
theorem Prs.dp {K : PySem.W.Frag} {H : Hp} : ∀ {xs : List V} {nss : List (List Nat)}, Prs K H xs nss → DpAll K H xs (nss.map penc)
  | _, _, .nil => .nil
  | _, _, .cons h g t => .cons (.tup h (.cons (.int _) (.cons (dp_tup g) .nil))) t.dp
theorem alike_pints : ∀ as bs : List Nat, PySem.W.alikeAll (as.map pint) (bs.map pint) = true
  | [], _ => by simp [PySem.W.alikeAll]
  | _ :: _, [] => by simp [PySem.W.alikeAll]
  | a :: as, b :: bs => by
    have := alike_pints as bs
    simp only [List.map_cons, PySem.W.alikeAll, this, Bool.and_true]
    rfl
theorem alike_penc (as bs : List Nat) : PySem.W.alike (penc as) (penc bs) = true := by
  unfold penc ptup
  simp only [PySem.W.alike, PySem.W.alikeAll, alike_pints, Bool.and_true]
  rfl
theorem srt_map (xs : List V) (nss : List (List Nat)) : ∃ M : List (V × List Nat), M.Perm (xs.zip nss) ∧ srt xs (nss.map penc) = M.map fun p => (p.1, penc p.2) := by
  refine ⟨(xs.zip nss).mergeSort fun p q => PySem.W.dataLe false Prod.snd (p.1, penc p.2) (q.1, penc q.2), List.mergeSort_perm _ _, ?_⟩
  unfold srt
  have e : xs.zip (nss.map penc) = (xs.zip nss).map fun p => (p.1, penc p.2) := by
    rw [List.zip_map_right]
    rfl
  rw [e]
  exact (List.map_mergeSort (f := fun p : V × List Nat => (p.1, penc p.2)) (r := fun p q => PySem.W.dataLe false Prod.snd (p.1, penc p.2) (q.1, penc q.2)) (s := PySem.W.dataLe false Prod.snd) (fun a _ b _ => rfl)).symm
theorem snd_zip2 : ∀ {xs : List V} {nss : List (List Nat)}, xs.length = nss.length → (xs.zip nss).map Prod.snd = nss
  | [], [], _ => rfl
  | x :: xs, n :: nss, h => by simp [snd_zip2 (xs := xs) (nss := nss) (by simpa using h)]
theorem lots_len : ∀ n, (VM.lots n).length = 2 ^ n
  | 0 => rfl
  | n + 1 => by
    show (VM.lots n ++ (VM.lots n).map (· ++ [n + 1])).length = _
    rw [List.length_append, List.length_map, lots_len n, Nat.pow_succ]
    omega
theorem lot_len : ∀ n, ∀ l ∈ VM.lots n, l.length ≤ n
  | 0, l, h => by
    have : l = [] := by simpa [VM.lots] using h
    subst this
    simp
  | n + 1, l, h => by
    have h' : l ∈ VM.lots n ++ (VM.lots n).map (· ++ [n + 1]) := h
    rcases List.mem_append.mp h' with h' | h'
    · have := lot_len n l h'
      omega
    · obtain ⟨m, hm, rfl⟩ := List.mem_map.mp h'
      have := lot_len n m hm
      simp
      omega
theorem two_pow {n : Nat} (h : n ≤ 6) : 2 ^ n ≤ 64 := Nat.pow_le_pow_right (by decide : 0 < 2) h
theorem at_last (n : Nat) : seqIndex? (-1) (n + 1) = some n := by
  unfold seqIndex?
  have e : ((-1 : Int) + ((n + 1 : Nat) : Int)) = (n : Int) := by omega
  simp only [e, show ((-1 : Int) < 0) from by decide, if_true]
  have h1 : (0 : Int) ≤ (n : Int) := by omega
  have h2 : (n : Int) < ((n + 1 : Nat) : Int) := by omega
  simp [h1]
  omega
theorem at_first (n : Nat) : seqIndex? 0 (n + 1) = some 0 := by
  unfold seqIndex?
  have h2 : (0 : Int) < ((n + 1 : Nat) : Int) := by omega
  simp
theorem erase_last : ∀ (l : List V) (v : V), (l ++ [v]).eraseIdx l.length = l
  | [], _ => rfl
  | a :: l, v => by simp [erase_last l v]
theorem entries_last (l : List Nat) (v i : Nat) (h : i % 2 = 0) : VM.entries (l ++ [v]).length i (l ++ [v]) = v :: VM.entries l.length (i + 1) l := by
  cases l with
  | nil => simp [VM.entries, h]
  | cons a r =>
    rw [show (a :: r ++ [v]).length = (a :: r).length + 1 by simp]
    show (if i % 2 = 0 then ((a :: (r ++ [v])).getLastD 0) :: VM.entries (a :: r).length (i + 1) ((a :: (r ++ [v])).dropLast) else a :: VM.entries (a :: r).length (i + 1) (r ++ [v])) = _
    rw [if_pos h]
    congr 1
    · exact List.getLastD_concat (a := 0) (b := v) (l := a :: r)
    · have : (a :: (r ++ [v])).dropLast = a :: r := by
        rw [show a :: (r ++ [v]) = (a :: r) ++ [v] from rfl, List.dropLast_concat]
      rw [this]
theorem entries_first (l : List Nat) (v i : Nat) (h : ¬ i % 2 = 0) : VM.entries (v :: l).length i (v :: l) = v :: VM.entries l.length (i + 1) l := by
  show (if i % 2 = 0 then _ else v :: VM.entries l.length (i + 1) l) = _
  rw [if_neg h]

section
variable {P : Program} {w : World} {K : PySem.W.Frag} {mg : Str → Option Value} {base : Heap} {C : Addr}
def spMemories (K : PySem.W.Frag) : Sp := fun vs H Q _ => ∃ (top : Nat), vs = [vn top] ∧ top ≤ 6 ∧ ∀ p H' ys nss, H p = none → Same H H' → H' p = some (.lst ys) → Tups K H' ys nss → nss.Perm (VM.msOf top) → Q (.ref p) H'
theorem ok_memories {f : Addr} {fd : FuncData} (F : Fun K "_law_memories" "_law_memories" s_law_memories f fd) (T : Txt K mg C) : FnOk P w K mg base CX0 1 f fd ["top"] (spMemories K) := by
  have nd := sc_law_memories.nd
  refine F.ok sc_law_memories (fun vs H Q E h => ?_) (fun cdv A outer s H vs Q E hr h => ?_)
  · obtain ⟨top, rfl, _⟩ := h
    rfl
  · obtain ⟨top, rfl, ht, k⟩ := h
    refine ⟨_, (pss_cons (ps_par (i := 1) (j := 2) (by rfl) nd rfl rfl (by decide) rfl rfl (pa_cons (pe_lst (pa_cons (pe_lst pa_nil) pa_nil)) (pa_cons (pe_lst pa_nil) pa_nil)) (by rfl)) (pss_cons (ps_for PassesOwn.never rfl (pi_range2 (by rfl) T.range_ (pa_cons pe_int (pa_cons (pe_op op_add (pv 0) pe_int) pa_nil))) (pg_name (i := 3) nd rfl (Or.inr rfl)) (pss_one (ps_set (i := 1) nd rfl (Or.inl rfl) (pe_op op_cat (pv 1) (pe_lc (own := [("lot", 4)]) (by rfl) nd (pi_list (pv 1)) (blkOk_by (own := [("lot", 4)]) (N := n_law_memories) (sc := defScope s_law_memories) (by decide +kernel)) (fun _ _ _ _ _ => (pg_name (i := 4) nd rfl (Or.inl rfl))) (fun _ _ _ _ _ => pts_nil) (fun _ _ _ _ _ => (pe_op op_cat (pv 4) (pe_lst (pa_cons (pv 3) pa_nil))))))))) (pss_cons (ps_for PassesOwn.never rfl (pi_list (pv 1)) (pg_name (i := 4) nd rfl (Or.inl rfl)) (pss_cons (ps_par (i := 5) (j := 6) (by rfl) nd rfl rfl (by decide) rfl rfl (pa_cons (pe_callTy call_list_of (by rfl) T.list_ (by decide +kernel) (pa_cons (pv 4) pa_nil)) (pa_cons (pe_lst pa_nil) pa_nil)) (by rfl)) (pss_cons (ps_while PassesOwn.never (pt_cmpR (op_neD hr.units) (pv 5) (pe_lst pa_nil) (nomark _)) (pss_one (ps_expr (pe_bm PySem.F.plainAttrs_list PySem.F.slot_list_append PySem.F.type_list_append mt_append (pv 6) (pa_cons (pe_ifExp (pt_cmpR op_eq (pe_op op_mod (pe_callTy call_int1 (by rfl) T.int_ (by decide +kernel) (pa_cons (pe_callB call_len_seq (by rfl) T.len_ PySem.boot_len (pa_cons (pv 6) pa_nil)) pa_nil)) pe_int) pe_int (nomark _)) (pe_bm PySem.F.plainAttrs_list PySem.F.slot_list_pop PySem.F.type_list_pop mt_popAt (pv 5) (pa_cons (pe_un un_neg pe_int) pa_nil)) (pe_bm PySem.F.plainAttrs_list PySem.F.slot_list_pop PySem.F.type_list_pop mt_popAt (pv 5) (pa_cons pe_int pa_nil))) pa_nil))))) (pss_one (ps_expr (pe_bm PySem.F.plainAttrs_list PySem.F.slot_list_append PySem.F.type_list_append mt_append (pv 2) (pa_cons (pe_tup (pa_cons (pe_callB call_len_seq (by rfl) T.len_ PySem.boot_len (pa_cons (pv 6) pa_nil)) (pa_cons (pe_callTy call_tuple_of (by rfl) T.tuple_ (by decide +kernel) (pa_cons (pv 6) pa_nil)) pa_nil))) pa_nil))))))) (pss_one (ps_ret (pe_lc (own := [("many", 7), ("entries", 6)]) (by rfl) nd (pi_list (pe_callB (cr_sortD hr.units) (by rfl) T.sorted_ (by decide +kernel) (pa_cons (pv 2) pa_nil))) (blkOk_by (own := [("many", 7), ("entries", 6)]) (N := n_law_memories) (sc := defScope s_law_memories) (by decide +kernel)) (fun _ _ _ _ _ => (pg_tupK K (pg_tup (n := 2) rfl (pgs_cons (pg_name (i := 7) nd rfl (Or.inl rfl)) (pgs_cons (pg_name (i := 6) nd rfl (Or.inl rfl)) pgs_nil))))) (fun _ _ _ _ _ => pts_nil) (fun _ _ _ _ _ => (pv 6)))))))), ?_⟩
    -- lots, found = [[]], []
    refine ⟨(by show 0 ≤ sizeLine; decide), fun p hp => ⟨(by show 1 ≤ sizeLine; decide), fun q hq => ⟨(by show 0 ≤ sizeLine; decide), fun fa hfa => ⟨_, _, rfl, ?_⟩⟩⟩⟩
    have e0 : Same H (upd (upd (upd H p (.lst [])) q (.lst [.ref p])) fa (.lst [])) := ((same_new hp).trans (same_new hq)).trans (same_new hfa)
    have nq : H q = none := (same_new hp).free hq
    have nfa : H fa = none := ((same_new hp).trans (same_new hq)).free hfa
    refine ⟨_, rfl, _, _, rfl, rfl, _, _, rfl, ⟨by decide, by decide, by omega, by omega⟩, for_range (lo := 1) (n := (((top : Nat) : Int) + 1 - 1).toNat)
      (fun i σ H' => ∃ q xs v3, σ = [some (vn top), some (.ref q), some (.ref fa), v3, none, none, none, none] ∧ H q = none ∧ Same H H' ∧ q ≠ fa ∧ H' fa = some (.lst []) ∧ H' q = some (.lst xs) ∧ Lsts H' xs (VM.lots i) ∧ (∀ x ∈ xs, x ≠ V.ref fa) ∧ i ≤ top) ?_ ?_ ?_⟩
    · refine ⟨q, [.ref p], _, rfl, nq, e0, ?_, upd_same, upd_new hfa upd_same, .cons (upd_new hfa (upd_new hq upd_same)) .nil, ?_, Nat.zero_le _⟩
      · rintro rfl
        rw [upd_same] at hfa
        cases hfa
      · intro x hx z
        have hx' : x = V.ref p := by simpa using hx
        rw [hx'] at z
        injection z with z
        have := upd_new (o' := .lst [.ref p]) hq (upd_same (H := H) (a := p) (o := .lst []))
        have h2 : upd (upd H p (.lst [])) q (.lst [.ref p]) p = none := by
          have h3 := hfa
          rw [← z] at h3
          exact h3
        rw [h2] at this
        cases this
    · rintro i σ H' hi ⟨q, xs, v3, rfl, hq, e, hne, hf, hl, hls, hxf, hi'⟩
      have hi2 : i < top := by omega
      have len1 := hls.len
      rw [lots_len] at len1
      have p64 := two_pow (show i ≤ 6 by omega)
      refine ⟨_, rfl, _, rfl, q, rfl, ⟨_, SqL.of hl⟩, fun D hD => lc_list (K := K) (a := q) (xs := xs) (fun j H2 => Same H' H2 ∧ ∃ ys, H2 D = some (.lst ys) ∧ Lsts H2 ys (((VM.lots i).take j).map (· ++ [i + 1])) ∧ ∀ y ∈ ys, y ≠ V.ref fa)
        ⟨same_new hD, [], upd_same, .nil, by simp⟩ (fun j H2 _ h => SqL.of (h.1 _ _ hl)) ?_ ?_⟩
      · rintro j x H2 hx ⟨e2, ys, hy, hly, hyf⟩
        obtain ⟨a, ns, rfl, hns, ha⟩ := hls.get hx
        have ln := lot_len i ns (List.mem_of_getElem? hns)
        refine ⟨rfl, _, rfl, _, rfl, (by show 1 ≤ sizeLine; decide), fun t ht => ?_⟩
        apply v_cat (upd_new ht (e2 _ _ ha)) upd_same
        · refine small ?_
          simp only [List.length_map, List.length_cons, List.length_nil]
          omega
        intro r hr
        have hy2 := upd_new (o' := .lst (vns ns ++ [.int (1 + (i : Int))])) hr (upd_new (o' := .lst [.int (1 + (i : Int))]) ht hy)
        have e3 := (e2.trans (same_new (o' := .lst [.int (1 + (i : Int))]) ht)).trans (same_new (o' := .lst (vns ns ++ [.int (1 + (i : Int))])) hr)
        have l2 := (hly.same (same_new (o' := .lst [.int (1 + (i : Int))]) ht)).same (same_new (o' := .lst (vns ns ++ [.int (1 + (i : Int))])) hr)
        have lj : ys.length = j := by
          rw [hly.len, List.length_map, List.length_take]
          have := (List.getElem?_eq_some_iff.mp hns).1
          omega
        have rD : r ≠ D := fun z => by rw [z, upd_new ht hy] at hr; cases hr
        refine ⟨ys, hy2, ?_, same_mut hD e3, _, upd_same, ?_, ?_⟩
        · have := (List.getElem?_eq_some_iff.mp hns).1
          rw [lots_len] at this
          refine small' ?_
          omega
        · rw [VM.take_succ hns, List.map_append]
          -- the new list at D: the old ones stand, the new one behind them
          have keep : Lsts (upd (upd (upd H2 t (.lst [.int (1 + (i : Int))])) r (.lst (vns ns ++ [.int (1 + (i : Int))]))) D (.lst (ys ++ [V.ref r]))) ys (((VM.lots i).take j).map (· ++ [i + 1])) := l2.put hy2 _ fun x hx => hx
          refine Lsts.append keep (.cons ?_ .nil)
          rw [upd_ne rD, upd_same]
          rw [show ((1 : Int) + (i : Int)) = ((i + 1 : Nat) : Int) by omega]
          simp [vns, vn]
        · intro y hy3 z
          rcases List.mem_append.mp hy3 with h | h
          · exact hyf y h z
          · have h' : y = V.ref r := by simpa using h
            rw [h'] at z
            injection z with z
            rw [z, upd_new ht (e2 _ _ hf)] at hr
            cases hr
      · rintro H2 ⟨e2, ys, hy, hly, hyf⟩
        rw [len1, ← lots_len i, List.take_length] at hly
        have len2 := hly.len
        rw [List.length_map, lots_len] at len2
        apply v_cat (e2 _ _ hl) hy
        · refine small ?_
          omega
        intro r hr
        refine ⟨r, xs ++ ys, _, rfl, (e.trans e2).free hr, (e.trans e2).trans (same_new hr), ?_, upd_new hr (e2 _ _ hf), upd_same, Lsts.append ((hls.same e2).same (same_new hr)) (hly.same (same_new hr)), ?_, hi2⟩
        · intro z
          rw [z, e2 _ _ hf] at hr
          cases hr
        · intro x hx
          rcases List.mem_append.mp hx with h | h
          · exact hxf x h
          · exact hyf x h
    · rintro σ H' ⟨q, xs, v3, rfl, hq, e, hne, hf, hl, hls, hxf, hi'⟩
      rw [show (((top : Nat) : Int) + 1 - 1).toNat = top by omega] at hls
      have lenL := hls.len
      rw [lots_len] at lenL
      have p64 := two_pow ht
      -- the entries of each lot
      refine ⟨_, rfl, q, rfl, ⟨_, SqL.of hl⟩, for_list (K := K) (a := q) (xs := xs) (fun j σ H2 => ∃ v3 v4 v5 v6 fs, σ = [some (vn top), some (.ref q), some (.ref fa), v3, v4, v5, v6, none] ∧ But fa H' H2 ∧ H2 fa = some (.lst fs) ∧ Prs K H2 fs (((VM.lots top).take j).map VM.ent))
        ⟨_, _, _, _, [], rfl, fun _ _ h _ => h, hf, .nil⟩ (fun j σ H2 _ ⟨_, _, _, _, _, _, b, _, _⟩ => SqL.of (b _ _ hl hne)) ?_ ?_⟩
      · rintro j x σ H2 hx ⟨v3, v4, v5, v6, fs, rfl, hb, hfs, hprs⟩
        obtain ⟨a, lot, rfl, hlot, ha⟩ := hls.get hx
        have naf : a ≠ fa := fun z => hxf _ (List.mem_of_getElem? hx) (by rw [z])
        have hlen := lot_len top lot (List.mem_of_getElem? hlot)
        have hfl : fs.length = j := by
          have := (List.getElem?_eq_some_iff.mp hlot).1
          rw [hprs.len, List.length_map, List.length_take]
          omega
        have ha2 := hb _ _ ha naf
        -- left, entries = list(lot), []
        refine ⟨_, rfl, a, _, rfl, .inl (SqL.of ha2), fun la hla => ⟨(by show 0 ≤ sizeLine; decide), fun ea hea => ⟨_, _, rfl, ?_⟩⟩⟩
        have b2 : Same H2 (upd (upd H2 la (.lst (vns lot))) ea (.lst [])) := (same_new hla).trans (same_new hea)
        have nla := hla
        have nea := (same_new hla).free hea
        have lae : la ≠ ea := fun z => by rw [← z, upd_same] at hea; cases hea
        refine while_by (fun σ H3 => ∃ l e, σ = [some (vn top), some (.ref q), some (.ref fa), v3, some (.ref a), some (.ref la), some (.ref ea), none] ∧ Same H2 H3 ∧ H3 la = some (.lst (vns l)) ∧ H3 ea = some (.lst (vns e)) ∧
            l.length + e.length ≤ 6 ∧ VM.ent lot = e ++ VM.entries l.length e.length l) (fun σ H3 => match H3 la with | some (.lst xs) => xs.length | _ => 0) ?_ ?_ ?_
        · exact ⟨lot, [], rfl, b2, upd_new hea upd_same, upd_same, by simp; omega, rfl⟩
        · rintro σ H3 ⟨l, e, rfl, s3, hl3, he3, hle, hent⟩
          refine ⟨_, rfl, (by show 0 ≤ sizeLine; decide), fun t ht => ⟨_, _, .lst (SqL.of (upd_new ht hl3)) (dp_vns l), .lst (SqL.of upd_same) (dp_vns []), shaped_ilist l, shaped_ilist [], ?_⟩⟩
          rw [eqv_ilist]
          refine ⟨_, rfl, ?_⟩
          refine v_ifn (fun hc => ?_) (fun hc => ?_)
          · have hl4 : upd H3 t (.lst []) la = some (.lst (vns l)) := upd_new ht hl3
            have he4 : upd H3 t (.lst []) ea = some (.lst (vns e)) := upd_new ht he3
            have s4 : Same H2 (upd H3 t (.lst [])) := s3.trans (same_new ht)
            have mu3 : (match H3 la with | some (.lst xs) => xs.length | _ => 0) = l.length := by
              rw [hl3]
              simp [vns]
            have fin : ∀ (v : Nat) (l' : List Nat), l'.length + 1 = l.length → VM.entries l.length e.length l = v :: VM.entries l'.length (e.length + 1) l' →
                (∃ l'' e', ([some (vn top), some (.ref q), some (.ref fa), v3, some (.ref a), some (.ref la), some (.ref ea), none] : List (Option V)) = [some (vn top), some (.ref q), some (.ref fa), v3, some (.ref a), some (.ref la), some (.ref ea), none] ∧
                  Same H2 (upd (upd (upd H3 t (.lst [])) la (.lst (vns l'))) ea (.lst (vns e ++ [vn v]))) ∧ (upd (upd (upd H3 t (.lst [])) la (.lst (vns l'))) ea (.lst (vns e ++ [vn v]))) la = some (.lst (vns l'')) ∧
                  (upd (upd (upd H3 t (.lst [])) la (.lst (vns l'))) ea (.lst (vns e ++ [vn v]))) ea = some (.lst (vns e')) ∧ l''.length + e'.length ≤ 6 ∧ VM.ent lot = e' ++ VM.entries l''.length e'.length l'') ∧
                (match (upd (upd (upd H3 t (.lst [])) la (.lst (vns l'))) ea (.lst (vns e ++ [vn v]))) la with | some (.lst xs) => xs.length | _ => 0) < (match H3 la with | some (.lst xs) => xs.length | _ => 0) := by
              intro v l' h1 h2
              have g1 : (upd (upd (upd H3 t (.lst [])) la (.lst (vns l'))) ea (.lst (vns e ++ [vn v]))) la = some (.lst (vns l')) := upd_old lae upd_same
              refine ⟨⟨l', e ++ [v], rfl, same_mut nea (same_mut nla s4), g1, ?_, ?_, ?_⟩, ?_⟩
              · rw [upd_same]
                simp [vns]
              · simp
                omega
              · rw [hent, h2]
                simp
              · rw [g1, mu3]
                simp [vns]
                omega
            refine ⟨_, rfl, .inl ⟨rfl, _, SqL.of he4⟩, _, rfl, ?_⟩
            apply v_lenL (SqL.of he4)
            refine .inl ⟨_, rfl, _, _, rfl, rfl, (by show (0 : Int) < 2; decide), rfl, _, rfl, ?_⟩
            have el : ((vns e).length : Int) = (e.length : Int) := by simp [vns]
            refine v_ifd (fun hp => ?_) (fun hp => ?_)
            · have hp' : e.length % 2 = 0 := by
                have h0 : V.int (((vns e).length : Int) % 2) = V.int 0 := hp
                injection h0 with h1
                rw [el] at h1
                omega
              obtain ⟨l', v, rfl⟩ : ∃ l' v, l = l' ++ [v] := by
                rcases List.eq_nil_or_concat l with h | ⟨l', v, h⟩
                · exact absurd h hc
                · exact ⟨l', v, by rw [h, List.concat_eq_append]⟩
              have hvl : vns (l' ++ [v]) = vns l' ++ [vn v] := by simp [vns]
              refine ⟨_, rfl, .inl ⟨rfl, _, SqL.of hl4⟩, _, rfl, la, _, -1, l'.length, vn v, rfl, rfl, hl4, by decide, by decide, ?_, ?_, ?_⟩
              · rw [hvl, List.length_append, List.length_map]
                exact at_last l'.length
              · rw [hvl]
                simp [vns]
              · have hee : (vns (l' ++ [v])).eraseIdx l'.length = vns l' := by
                  rw [hvl, ← List.length_map (f := vn) (as := l')]
                  exact erase_last _ _
                rw [hee]
                apply v_app (upd_old (Ne.symm lae) he4)
                · refine small' ?_
                  simp only [List.length_map]
                  omega
                · exact fin v l' (by simp) (entries_last l' v e.length hp')
            · have hp' : ¬ e.length % 2 = 0 := by
                intro h
                apply hp
                show V.int (((vns e).length : Int) % 2) = V.int 0
                rw [el]
                congr 1
                omega
              obtain ⟨v, l', rfl⟩ : ∃ v l', l = v :: l' := by
                cases l with
                | nil => exact absurd rfl hc
                | cons v l' => exact ⟨v, l', rfl⟩
              refine ⟨_, rfl, .inl ⟨rfl, _, SqL.of hl4⟩, la, _, 0, 0, vn v, rfl, rfl, hl4, by decide, by decide, ?_, rfl, ?_⟩
              · rw [List.length_map]
                exact at_first l'.length
              · apply v_app (upd_old (Ne.symm lae) he4)
                · refine small' ?_
                  simp only [List.length_map]
                  omega
                · exact fin v l' (by simp) (entries_first l' v e.length hp')
          · -- found.append((len(entries), tuple(entries)))
            subst hc
            have he4 : upd H3 t (.lst []) ea = some (.lst (vns e)) := upd_new ht he3
            have s4 : Same H2 (upd H3 t (.lst [])) := s3.trans (same_new ht)
            have hent' : VM.ent lot = e := by
              rw [hent]
              simp [VM.entries]
            have hf4 := s4 _ _ hfs
            refine ⟨_, rfl, .inl ⟨rfl, _, SqL.of hf4⟩, _, rfl, ?_⟩
            apply v_lenL (SqL.of he4)
            refine ⟨_, rfl, ea, _, rfl, .inl ⟨SqL.of he4, fun u hu => ⟨(by show 2 ≤ sizeLine; decide), fun r hr => ?_⟩⟩⟩
            have s6 := (s4.trans (same_new (o' := .tup (vns e)) hu)).trans (same_new (o' := .tup [.int (vns e).length, .ref u]) hr)
            have hf6 := s6 _ _ hfs
            apply v_app hf6
            · refine small' ?_
              have := (List.getElem?_eq_some_iff.mp hlot).1
              rw [lots_len] at this
              omega
            · refine ⟨_, _, _, _, _, rfl, but_trans hb (but_trans (but_same s6) but_upd), upd_same, ?_⟩
              rw [VM.take_succ hlot, List.map_append]
              have kp : ∀ a xs, SqT K H2 a xs → SqT K (upd (upd (upd (upd H3 t (.lst [])) u (.tup (vns e))) r (.tup [.int (vns e).length, .ref u])) fa (.lst (fs ++ [.ref r]))) a xs := fun a xs h =>
                sqT_but but_upd hf6 (sqT_same s6 h)
              have nr : r ≠ fa := fun z => by rw [z, upd_new hu hf4] at hr; cases hr
              have nu : u ≠ fa := fun z => by rw [z, hf4] at hu; cases hu
              refine Prs.append (hprs.but kp) (.cons (e := u) (SqT.of ?_) (SqT.of ?_) .nil)
              · rw [upd_ne nr, upd_same, hent']
                simp [vns, vn]
              · rw [upd_ne nu, hent']
                exact upd_new hr upd_same
        · rintro σ H Q1 Q2 f ⟨v, h1, h2, h3⟩
          exact ⟨v, h1, h2, fun p hp => let ⟨d, e, a, b, c, dd, k, hk, q⟩ := h3 p hp; ⟨d, e, a, b, c, dd, k, hk, f _ _ q⟩⟩
      · rintro σ H2 ⟨v3, v4, v5, v6, fs, rfl, hb, hfs, hprs⟩
        rw [lenL, ← lots_len top, List.take_length] at hprs
        have hms : (VM.lots top).map VM.ent = VM.msOf top := rfl
        rw [hms] at hprs
        have hfl := hprs.len
        obtain ⟨M, hM, eM⟩ := srt_map fs (VM.msOf top)
        refine ⟨_, rfl, fa, fs, (VM.msOf top).map penc, rfl, SqL.of hfs, hprs.dp, ?_, ?_, ?_, fun p hp => ?_⟩
        · intro d hd d' hd'
          obtain ⟨a, _, rfl⟩ := List.mem_map.mp hd
          obtain ⟨b, _, rfl⟩ := List.mem_map.mp hd'
          exact alike_penc a b
        · refine .inl fun d hd => ?_
          obtain ⟨a, _, rfl⟩ := List.mem_map.mp hd
          exact ⟨_, _, rfl⟩
        · intro d hd
          obtain ⟨a, _, rfl⟩ := List.mem_map.mp hd
          show max 0 (max (PyData.depthAll (a.map pint) + 1) 0) + 1 ≤ 60
          rw [dep_ints]
          decide
        · have eF : (srt fs ((VM.msOf top).map penc)).map Prod.fst = M.map Prod.fst := by
            rw [eM, List.map_map]
            rfl
          rw [eF]
          refine ⟨p, rfl, ⟨_, SqL.of upd_same⟩, fun D hD => lc_list (K := K) (a := p) (xs := M.map Prod.fst) (fun j H3 => Same (upd H2 p (.lst (M.map Prod.fst))) H3 ∧ ∃ ys, H3 D = some (.lst ys) ∧ Tups K H3 ys ((M.take j).map Prod.snd))
            ⟨same_new hD, [], upd_same, .nil⟩ (fun j H3 _ h => h.1.seq (SqL.of upd_same)) ?_ ?_⟩
          · rintro j x H3 hx ⟨e3, ys, hy, hty⟩
            rw [List.getElem?_map] at hx
            cases em : M[j]? with
            | none => rw [em] at hx; cases hx
            | some m =>
              rw [em] at hx
              obtain rfl : m.1 = x := Option.some.inj hx
              obtain ⟨x, ns⟩ := m
              have hmem : (x, ns) ∈ fs.zip (VM.msOf top) := hM.mem_iff.mp (List.mem_of_getElem? em)
              obtain ⟨t, u, rfl, ht1, hu1⟩ := hprs.zip x ns hmem
              have e23 : Same H2 H3 := (same_new hp).trans e3
              refine ⟨t, _, rfl, sqT_same e23 ht1, rfl, _, _, rfl, _, _, rfl, rfl, ?_⟩
              refine ⟨rfl, _, rfl, ys, hy, ?_, same_mut hD e3, _, upd_same, ?_⟩
              · have h1 := hty.len
                have h2 : (M.take j).length ≤ j := by
                  rw [List.length_take]
                  omega
                have h3 : j < M.length := (List.getElem?_eq_some_iff.mp em).1
                have h4 : M.length = (fs.zip (VM.msOf top)).length := hM.length_eq
                rw [List.length_zip, hfl, ← hms, List.length_map, lots_len] at h4
                rw [List.length_map] at h1
                refine small' ?_
                omega
              · rw [VM.take_succ em, List.map_append]
                refine Tups.append (hty.but fun a ns h => sqT_but but_upd hy h) (Tups.one ?_)
                exact sqT_but but_upd hy (sqT_same e23 hu1)
          · rintro H3 ⟨e3, ys, hy, hty⟩
            have h4 : M.length = (M.map Prod.fst).length := by simp
            rw [← h4, List.take_length] at hty
            have hperm : (M.map Prod.snd).Perm (VM.msOf top) := by
              have := hM.map Prod.snd
              rw [snd_zip2 hfl] at this
              exact this
            have e23 : Same H2 H3 := (same_new hp).trans e3
            have eHH : Same H H3 := fun b o hbo => e23 _ _ (hb b o (e b o hbo) fun z => by rw [z, nfa] at hbo; cases hbo)
            refine k D H3 ys _ ?_ eHH hy hty hperm
            cases hn : H D with
            | none => rfl
            | some o =>
              have h5 := hb D o (e D o hn) fun z => by rw [z, nfa] at hn; cases hn
              have h6 := upd_new (o' := .lst (M.map Prod.fst)) hp h5
              rw [hD] at h6
              cases h6
end

section
variable {P : Program} {w : World} {K : PySem.W.Frag} {mg : Str → Option Value} {base : Heap} {C : Addr}
def spOn (K : PySem.W.Frag) : Sp := fun vs H Q _ => ∃ (top : Nat) (a : Addr) (ls : List Nat), vs = [vn top, .ref a] ∧ top ≤ 6 ∧ SqT K H a (vns ls) ∧ ∀ p H' xs, H p = none → Same H H' → H' p = some (.lst xs) → Tups K H' xs (VM.on top ls) → Q (.ref p) H'
theorem sw_small {n : Nat} (h : n ≤ 6) : (VM.switches n).length ≤ 42 := by
  rcases sw_len n with h' | h'
  · omega
  · omega
theorem filter_take {α : Type} {l : List α} {i : Nat} {x : α} (p : α → Bool) (h : l[i]? = some x) : (l.take (i + 1)).filter p = (l.take i).filter p ++ (if p x then [x] else []) := by
  rw [VM.take_succ h, List.filter_append]
  congr 1
  by_cases c : p x
  · simp [c]
  · simp [c]
theorem ok_on {f : Addr} {fd : FuncData} (F : Fun K "_law_on" "_law_on" s_law_on f fd) (T : Txt K mg C) (D_law_switches : Def P w K mg base CX0 1 "_law_switches" ["top"] (spSwitches K))
    (D_law_is_on : Def P w K mg base CX0 1 "_law_is_on" ["switch", "levels"] (spIsOn K)) : FnOk P w K mg base CX0 2 f fd ["top", "memory"] (spOn K) := by
  have nd := sc_law_on.nd
  refine F.ok sc_law_on (fun vs H Q E h => ?_) (fun cdv A outer s H vs Q E hr h => ?_)
  · obtain ⟨top, a, ls, rfl, _⟩ := h
    rfl
  · obtain ⟨top, a, ls, rfl, ht, ha, k⟩ := h
    refine ⟨_, (pss_one (ps_ret (pe_lc (own := [("switch", 2)]) (by rfl) nd (pi_list (pe_callD D_law_switches (hr.mono (by decide)) rfl pass0 (pa_cons (pv 0) pa_nil))) (blkOk_by (own := [("switch", 2)]) (N := n_law_on) (sc := defScope s_law_on) (by decide +kernel)) (fun _ _ _ _ _ => (pg_name (i := 2) nd rfl (Or.inl rfl))) (fun _ _ _ _ _ => (pts_one (pt_val (pe_callD D_law_is_on (hr.mono (by decide)) rfl pass0 (pa_cons (pv 2) (pa_cons (pv 1) pa_nil)))))) (fun _ _ _ _ _ => (pv 2))))), ?_⟩
    refine ⟨_, rfl, top, rfl, ht, fun p H1 xs hp e1 h1 hty => ?_⟩
    refine ⟨p, rfl, ⟨_, SqL.of h1⟩, fun D hD => lc_list (K := K) (a := p) (xs := xs) (fun j H2 => Same H1 H2 ∧ ∃ ys, H2 D = some (.lst ys) ∧ Tups K H2 ys (((VM.switches top).take j).filter fun s => VM.isOn (s.getD 0 0) (s.getD 1 0) ls))
      ⟨same_new hD, [], upd_same, .nil⟩ (fun j H2 _ h => SqL.of (h.1 _ _ h1)) ?_ ?_⟩
    · rintro j x H2 hx ⟨e2, ys, hy, hty2⟩
      obtain ⟨t, ns, rfl, hns, hs⟩ := hty.get hx
      obtain ⟨u, d, rfl, _, _⟩ := VM.mem_switches.mp (List.mem_of_getElem? hns)
      have hf := filter_take (fun s => VM.isOn (s.getD 0 0) (s.getD 1 0) ls) hns
      refine ⟨rfl, _, rfl, _, rfl, t, a, u, d, ls, rfl, sqT_same e2 hs, sqT_same (e1.trans e2) ha, _, rfl, ?_⟩
      refine v_ifb (fun hb => ?_) (fun hb => ?_)
      · refine ⟨_, rfl, ys, hy, ?_, same_mut hD e2, _, upd_same, ?_⟩
        · have h2 := hty2.len
          have h3 := List.length_filter_le (fun s => VM.isOn (s.getD 0 0) (s.getD 1 0) ls) ((VM.switches top).take j)
          have h4 := sw_small ht
          rw [List.length_take] at h3
          refine small' ?_
          omega
        · have hb' : VM.isOn ([u, d].getD 0 0) ([u, d].getD 1 0) ls = true := hb
          rw [hf, if_pos hb']
          exact Tups.append (hty2.but fun a ns h => sqT_but but_upd hy h) (Tups.one (sqT_but but_upd hy (sqT_same e2 hs)))
      · refine ⟨e2, ys, hy, ?_⟩
        have hb' : ¬ (VM.isOn ([u, d].getD 0 0) ([u, d].getD 1 0) ls) = true := by
          intro h
          have : VM.isOn u d ls = true := h
          rw [hb] at this
          cases this
        rw [hf, if_neg hb', List.append_nil]
        exact hty2
    · rintro H2 ⟨e2, ys, hy, hty2⟩
      rw [hty.len, List.take_length] at hty2
      have n1 : H D = none := e1.free hD
      exact k D H2 ys n1 (e1.trans e2) hy hty2
def spRefused (K : PySem.W.Frag) : Sp := fun vs H Q _ => ∃ (way top : Nat) (x y : V) (b c : Bool), vs = [vn way, vn top, x, y] ∧ top ≤ 100 ∧ MemV K H top x b ∧ MemV K H top y c ∧ (b = false ∨ c = false) ∧ ∀ H', Same H H' → Q (.bl true) H'
theorem ok_refused {f : Addr} {fd : FuncData} (F : Fun K "_law_refused" "_law_refused" s_law_refused f fd) (T : Txt K mg C) (Djoined : Def P w K mg base (L2.CX P w) 5 "joined" ["top", "first", "second"] (spJoined K C max))
    (Dmet : Def P w K mg base (L2.CX P w) 5 "met" ["top", "first", "second"] (spJoined K C min)) : FnOk P w K mg base CX0 6 f fd ["way", "top", "first", "second"] (spRefused K) := by
  have nd := sc_law_refused.nd
  refine F.ok sc_law_refused (fun vs H Q E h => ?_) (fun cdv A outer s H vs Q E hr h => ?_)
  · obtain ⟨way, top, x, y, b, c, rfl, _⟩ := h
    rfl
  · obtain ⟨way, top, x, y, b, c, rfl, ht, hx, hy, hbc, k⟩ := h
    refine ⟨_, (pss_cons (ps_set (i := 4) nd rfl (Or.inl rfl) pe_non) (pss_cons (ps_try_only rfl rfl (T.BadMemory_names) takes0 (fun W pn xe tk _ => (pss_one (ps_set (i := 4) nd rfl (Or.inl rfl) (pe_ifExp (pt_cmpR op_eq (pv 0) pe_int (nomark _)) (pe_callDS Djoined (hr.mono (by decide)) rfl (fun σ => passAt tk σ) (pa_cons (pv 1) (pa_cons (pv 2) (pa_cons (pv 3) pa_nil)))) (pe_callDS Dmet (hr.mono (by decide)) rfl (fun σ => passAt tk σ) (pa_cons (pv 1) (pa_cons (pv 2) (pa_cons (pv 3) pa_nil)))))))) (fun a oe cls d pn _ _ => (pss_one (ps_set (i := 4) nd rfl (Or.inl rfl) pe_str)))) (pss_one (ps_ret (pe_cmpR (op_eqD hr.units) (pv 4) pe_str (nomark _)))))), ?_⟩
    have tail : ∀ H', Same H H' → tRet (tOp (rEqD K) (tVar 4) (tC (.str "memory"))) { nx := fun _ H' => Q .non H', rt := Q } [some (vn way), some (vn top), some x, some y, some (.str "memory")] H' := by
      intro H' e
      refine ⟨_, rfl, _, _, .str _, .str _, by decide +kernel, by decide +kernel, ?_⟩
      have q := k H' e
      have : PyData.eqv (.str "memory") (.str "memory") = true := by decide +kernel
      show Q (.bl (PyData.eqv (.str "memory") (.str "memory"))) H'
      rw [this]
      exact q
    refine ⟨_, rfl, rfl, _, rfl, ?_⟩
    refine v_ifd (fun hc => ?_) (fun hc => ?_)
    · refine ⟨_, rfl, _, rfl, _, rfl, top, x, y, b, c, rfl, ht, hx, hy, fun _ H' e => ?_, fun hb hc' => ?_⟩
      · refine ⟨true, T.eC, fun _ a0 _ => ?_, fun q => Bool.noConfusion q⟩
        exact tail H' e
      · rcases hbc with h | h
        · rw [hb] at h
          cases h
        · rw [hc'] at h
          cases h
    · refine ⟨_, rfl, _, rfl, _, rfl, top, x, y, b, c, rfl, ht, hx, hy, fun _ H' e => ?_, fun hb hc' => ?_⟩
      · refine ⟨true, T.eC, fun _ a0 _ => ?_, fun q => Bool.noConfusion q⟩
        exact tail H' e
      · rcases hbc with h | h
        · rw [hb] at h
          cases h
        · rw [hc'] at h
          cases h
end

theorem tyX_put {K : PySem.W.Frag} {H : Hp} {f : Addr} {u u' : List V} (hf : H f = some (.lst u)) {x : V} {t : Value} (h : TyX K H x t) : TyX K (upd H f (.lst u')) x t := by
  have ne : ∀ {a : Addr} {o : HO}, H a = some o → (∀ z, o ≠ .lst z) → a ≠ f := fun {a o} ha hn e => by
    rw [e, hf] at ha
    exact hn u (Option.some.inj ha).symm
  cases h with
  | base b =>
    refine .base ?_
    cases b with
    | non => exact .non
    | bl => exact .bl _
    | int => exact .int _
    | str => exact .str _
    | flt => exact .flt _
    | @lst a xs h =>
      by_cases e : a = f
      · rw [e]
        exact .lst upd_same
      · exact .lst (upd_old e h)
    | frz h => exact .frz (upd_old (ne h (by intro z e; cases e)) h)
    | tup h => exact .tup (upd_old (ne h (by intro z e; cases e)) h)
    | dK h => exact .dK (upd_old (ne h (by intro z e; cases e)) h)
    | dT h => exact .dT (upd_old (ne h (by intro z e; cases e)) h)
    | ins h a b c d g => exact .ins (upd_old (ne h (by intro z e; cases e)) h) a b c d g
  | byt => exact .byt _
  | set h => exact .set (upd_old (ne h (by intro z e; cases e)) h)
  | kList h c => exact .kList h c
  | kTuple h c => exact .kTuple h c
  | kDict h c => exact .kDict h c
  | fTuple h => exact .fTuple (upd_old (ne h (by intro z e; cases e)) h)
  | fDict h => exact .fDict (upd_old (ne h (by intro z e; cases e)) h)
theorem OkT.put {K : PySem.W.Frag} {H : Hp} {f : Addr} {u u' : List V} (hf : H f = some (.lst u)) {x : V} {n : String} (h : OkT K H x n) : OkT K (upd H f (.lst u')) x n := ⟨tyX_put hf h.ty, h.kd⟩
theorem MemV.put {K : PySem.W.Frag} {H : Hp} {f : Addr} {u u' : List V} (hf : H f = some (.lst u)) {top : Nat} {x : V} {b : Bool} (h : MemV K H top x b) : MemV K (upd H f (.lst u')) top x b := by
  cases h with
  | tup h ht hi hz => exact .tup (sqT_but but_upd hf h) (OkT.put hf ht) (fun x hx => let ⟨n, q⟩ := hi x hx; ⟨n, OkT.put hf q⟩) hz
  | other h hn => exact .other (OkT.put hf h) hn
theorem sqL_keep {K : PySem.W.Frag} {H H' : Hp} {f a : Addr} {xs : List V} (h : SqL K H a xs) (hf : H f = none) (e : But f H H') : SqL K H' a xs := by
  rcases h with (h | ⟨o, h⟩) | h
  · exact .inl (.inl (e _ _ h (ne_of_none h hf)))
  · exact .inl (.inr ⟨o, e _ _ h (ne_of_none h hf)⟩)
  · exact .inr h
theorem ok_tup {K : PySem.W.Frag} {H : Hp} {a : Addr} {xs : List V} (h : H a = some (.tup xs)) : OkT K H (.ref a) "tuple" := ⟨.base (.tup h), by decide⟩
theorem ok_tupS {K : PySem.W.Frag} {H : Hp} {a : Addr} {xs : List V} (h : SqT K H a xs) : OkT K H (.ref a) "tuple" := by
  rcases h with (h | ⟨o, h⟩) | ⟨o, its, n, hk, hc, _⟩
  · exact ⟨.base (.tup h), by decide⟩
  · exact ⟨.fTuple h, by decide⟩
  · exact ⟨.kTuple hk hc, by decide⟩
theorem ok_lst {K : PySem.W.Frag} {H : Hp} {a : Addr} {xs : List V} (h : H a = some (.lst xs)) : OkT K H (.ref a) "list" := ⟨.base (.lst h), by decide⟩
theorem ok_int {K : PySem.W.Frag} {H : Hp} {i : Int} : OkT K H (.int i) "int" := ⟨.base (.int _), by decide⟩
/-- a memory of the law's list as a value that is handed in -/
theorem good_mem {K : PySem.W.Frag} {H : Hp} {top : Nat} {a : Addr} {ns : List Nat} (g : VM.Good top ns) (h1 : top ≤ 6) (h : SqT K H a (vns ns)) (hz : ns.length ≤ 1000) : MemV K H top (.ref a) true := by
  have e : isMem top (vns ns) = true := by
    unfold isMem
    rw [nat_vns, lvl_vns g.lev, g.self]
    simp
  rw [← e]
  refine .tup h (ok_tupS h) (fun x hx => ?_) (by simpa [vns] using hz)
  obtain ⟨n, _, rfl⟩ := List.mem_map.mp hx
  exact ⟨_, ok_int⟩
theorem ms_len {top : Nat} (h6 : top ≤ 6) {a : List Nat} (h : a ∈ VM.msOf top) : a.length ≤ 6 := by
  rcases (show top = 0 ∨ top = 1 ∨ top = 2 ∨ top = 3 ∨ top = 4 ∨ top = 5 ∨ top = 6 by omega) with rfl | rfl | rfl | rfl | rfl | rfl | rfl
  · exact (show ∀ a ∈ VM.msOf 0, a.length ≤ 6 by decide +kernel) a h
  · exact (show ∀ a ∈ VM.msOf 1, a.length ≤ 6 by decide +kernel) a h
  · exact (show ∀ a ∈ VM.msOf 2, a.length ≤ 6 by decide +kernel) a h
  · exact (show ∀ a ∈ VM.msOf 3, a.length ≤ 6 by decide +kernel) a h
  · exact (show ∀ a ∈ VM.msOf 4, a.length ≤ 6 by decide +kernel) a h
  · exact (show ∀ a ∈ VM.msOf 5, a.length ≤ 6 by decide +kernel) a h
  · exact (show ∀ a ∈ VM.msOf 6, a.length ≤ 6 by decide +kernel) a h
theorem ms_count {top : Nat} : (VM.msOf top).length = 2 ^ top := by
  unfold VM.msOf
  rw [List.length_map, lots_len]
theorem memF {K : PySem.W.Frag} {H : Hp} {top : Nat} {a : Addr} {xs : List V} (h : H a = some (.tup xs)) (hi : ∀ x ∈ xs, ∃ n, OkT K H x n) (hz : xs.length ≤ 1000) (e : isMem top xs = false) : MemV K H top (.ref a) false := e ▸ .tup (SqT.of h) (ok_tup h) hi hz
theorem notSelf {top : Nat} {xs : List V} (h : decide (VM.followed [] (xs.map natV) = xs.map natV) = false) : isMem top xs = false := by
  unfold isMem
  rw [h, Bool.and_false]
theorem notLvl {top : Nat} {xs : List V} (h : xs.all (lvl top) = false) : isMem top xs = false := by
  unfold isMem
  rw [h, Bool.false_and]
theorem items1 {K : PySem.W.Frag} {H : Hp} {x : V} {n : String} (h : OkT K H x n) : ∀ y ∈ [x], ∃ n, OkT K H y n := fun y hy => ⟨n, by
  have : y = x := by simpa using hy
  rw [this]
  exact h⟩
theorem itemsI {K : PySem.W.Frag} {H : Hp} (ns : List Int) : ∀ y ∈ ns.map V.int, ∃ n, OkT K H y n := fun y hy => by
  obtain ⟨i, _, rfl⟩ := List.mem_map.mp hy
  exact ⟨_, ok_int⟩
section
variable {P : Program} {w : World} {K : PySem.W.Frag} {mg : Str → Option Value} {base : Heap} {C : Addr}
def spLaw (K : PySem.W.Frag) : Sp := fun vs H Q _ => ∃ (a : Addr) (ns : List Int), vs = [.ref a] ∧ SqL K H a (ns.map V.int) ∧ ns.length ≤ 63 ∧ ∀ H', Q (.bl true) H'
theorem ok_law {f : Addr} {fd : FuncData} (F : Fun K "law" "law" slaw f fd) (T : Txt K mg C)
    (D_law_feed : Def P w K mg base CX0 1 "_law_feed" ["script", "k"] (spFeed K)) (D_law_take : Def P w K mg base CX0 1 "_law_take" ["feed", "size"] spTake) (D_law_pick : Def P w K mg base CX0 2 "_law_pick" ["feed", "things"] (spPick K))
    (D_law_switches : Def P w K mg base CX0 1 "_law_switches" ["top"] (spSwitches K)) (D_law_memories : Def P w K mg base CX0 1 "_law_memories" ["top"] (spMemories K)) (D_law_on : Def P w K mg base CX0 2 "_law_on" ["top", "memory"] (spOn K))
    (D_law_refused : Def P w K mg base CX0 6 "_law_refused" ["way", "top", "first", "second"] (spRefused K))
    (Djoined : Def P w K mg base (L2.CX P w) 5 "joined" ["top", "first", "second"] (spJoined K C max)) (Dmet : Def P w K mg base (L2.CX P w) 5 "met" ["top", "first", "second"] (spJoined K C min)) :
    FnOk P w K mg base CX0 7 f fd ["script"] (spLaw K) := by
  have nd := sclaw.nd
  refine F.ok sclaw (fun vs H Q E h => ?_) (fun cdv A outer s H vs Q E hr h => ?_)
  · obtain ⟨a, ns, rfl, _⟩ := h
    rfl
  · obtain ⟨sa, ns, rfl, hS, hz, k⟩ := h
    refine ⟨_, (pss_cons (ps_for PassesOwn.never rfl (pi_range1 (by rfl) T.range_ (pa_cons (pe_callB (call_max2 rfl) (by rfl) T.max_ (by decide +kernel) (pa_cons pe_int (pa_cons (pe_callB (call_min2 rfl) (by rfl) T.min_ (by decide +kernel) (pa_cons pe_int (pa_cons (pe_callB call_len_seq (by rfl) T.len_ PySem.boot_len (pa_cons (pv 0) pa_nil)) pa_nil))) pa_nil))) pa_nil)) (pg_name (i := 1) nd rfl (Or.inl rfl)) (pss_cons (ps_set (i := 2) nd rfl (Or.inl rfl) (pe_callD D_law_feed (hr.mono (by decide)) rfl pass0 (pa_cons (pv 0) (pa_cons (pv 1) pa_nil)))) (pss_cons (ps_set (i := 3) nd rfl (Or.inl rfl) (pe_op op_add pe_int (pe_callD D_law_take (hr.mono (by decide)) rfl pass0 (pa_cons (pv 2) (pa_cons pe_int pa_nil))))) (pss_cons (ps_set (i := 4) nd rfl (Or.inl rfl) (pe_callD D_law_memories (hr.mono (by decide)) rfl pass0 (pa_cons (pv 3) pa_nil))) (pss_one (ps_for PassesOwn.never rfl (pi_range1 (by rfl) T.range_ (pa_cons pe_int pa_nil)) (pg_name (i := 5) nd rfl (Or.inl rfl)) (pss_cons (ps_par (i := 6) (j := 7) (by rfl) nd rfl rfl (by decide) rfl rfl (pa_cons (pe_callD D_law_pick (hr.mono (by decide)) rfl pass0 (pa_cons (pv 2) (pa_cons (pv 4) pa_nil))) (pa_cons (pe_callD D_law_pick (hr.mono (by decide)) rfl pass0 (pa_cons (pv 2) (pa_cons (pv 4) pa_nil))) pa_nil)) (by rfl)) (pss_cons (ps_asg (pe_tup (pa_cons (pe_callD D_law_on (hr.mono (by decide)) rfl pass0 (pa_cons (pv 3) (pa_cons (pv 6) pa_nil))) (pa_cons (pe_callD D_law_on (hr.mono (by decide)) rfl pass0 (pa_cons (pv 3) (pa_cons (pv 7) pa_nil))) pa_nil))) (pg_tup rfl (pgs_cons (pg_name (i := 8) nd rfl (Or.inr rfl)) (pgs_cons (pg_name (i := 9) nd rfl (Or.inr rfl)) pgs_nil)))) (pss_cons (ps_par (i := 10) (j := 11) (by rfl) nd rfl rfl (by decide) rfl rfl (pa_cons (pe_callD Djoined (hr.mono (by decide)) rfl passL (pa_cons (pv 3) (pa_cons (pv 6) (pa_cons (pv 7) pa_nil)))) (pa_cons (pe_callD Dmet (hr.mono (by decide)) rfl passL (pa_cons (pv 3) (pa_cons (pv 6) (pa_cons (pv 7) pa_nil)))) pa_nil)) (by rfl)) (pss_cons (ps_if (PW.pt (pw_or (pt_cmpR (op_notInD (u65 hr)) (pv 10) (pv 4) rfl) (pw_or (pt_cmpR (op_notInD (u65 hr)) (pv 11) (pv 4) rfl) (pw_or (pt_not (pt_val (pe_callB call_isi (by rfl) T.isinstance_ (by decide +kernel) (pa_cons (pv 10) (pa_cons (pe_bltn (v := .ty "tuple") (by rfl) T.tuple_ (by decide +kernel) rfl) pa_nil))))) (pw_or1 (pt_not (pt_val (pe_callB call_isi (by rfl) T.isinstance_ (by decide +kernel) (pa_cons (pv 11) (pa_cons (pe_bltn (v := .ty "tuple") (by rfl) T.tuple_ (by decide +kernel) rfl) pa_nil)))))))))) (pss_one (ps_ret pe_bl)) pss_nil) (pss_cons (ps_if (pt_cmpR (op_neD hr.units) (pe_callD D_law_on (hr.mono (by decide)) rfl pass0 (pa_cons (pv 3) (pa_cons (pv 10) pa_nil))) (pe_lc (own := [("switch", 14)]) (by rfl) nd (pi_list (pe_callD D_law_switches (hr.mono (by decide)) rfl pass0 (pa_cons (pv 3) pa_nil))) (blkOk_by (own := [("switch", 14)]) (N := nlaw) (sc := defScope slaw) (by decide +kernel)) (fun _ _ _ _ _ => (pg_name (i := 14) nd rfl (Or.inl rfl))) (fun _ _ _ _ _ => (pts_one (PW.pt (pw_or (pt_cmpR (kOp rInD K (op_inD (u65 hr))) (pv 14) (pv 8) rfl) (pw_or1 (pt_cmpR (kOp rInD K (op_inD (u65 hr))) (pv 14) (pv 9) rfl)))))) (fun _ _ _ _ _ => (pv 14))) (nomark _)) (pss_one (ps_ret pe_bl)) pss_nil) (pss_cons (ps_if (pt_cmpR (op_neD hr.units) (pe_callD D_law_on (hr.mono (by decide)) rfl pass0 (pa_cons (pv 3) (pa_cons (pv 11) pa_nil))) (pe_lc (own := [("switch", 14)]) (by rfl) nd (pi_list (pv 8)) (blkOk_by (own := [("switch", 14)]) (N := nlaw) (sc := defScope slaw) (by decide +kernel)) (fun _ _ _ _ _ => (pg_name (i := 14) nd rfl (Or.inl rfl))) (fun _ _ _ _ _ => (pts_one (pt_cmpR (kOp rInD K (op_inD (u65 hr))) (pv 14) (pv 9) rfl))) (fun _ _ _ _ _ => (pv 14))) (nomark _)) (pss_one (ps_ret pe_bl)) pss_nil) (pss_cons (ps_if (PW.pt (pw_or (pt_cmpR (op_neD hr.units) (pe_callD Djoined (hr.mono (by decide)) rfl passL (pa_cons (pv 3) (pa_cons (pv 7) (pa_cons (pv 6) pa_nil)))) (pv 10) (nomark _)) (pw_or1 (pt_cmpR (op_neD hr.units) (pe_callD Dmet (hr.mono (by decide)) rfl passL (pa_cons (pv 3) (pa_cons (pv 7) (pa_cons (pv 6) pa_nil)))) (pv 11) (nomark _))))) (pss_one (ps_ret pe_bl)) pss_nil) (pss_cons (ps_if (PW.pt (pw_or (pt_cmpR (op_neD hr.units) (pe_callD Djoined (hr.mono (by decide)) rfl passL (pa_cons (pv 3) (pa_cons (pv 6) (pa_cons (pv 6) pa_nil)))) (pv 6) (nomark _)) (pw_or (pt_cmpR (op_neD hr.units) (pe_callD Dmet (hr.mono (by decide)) rfl passL (pa_cons (pv 3) (pa_cons (pv 6) (pa_cons (pv 6) pa_nil)))) (pv 6) (nomark _)) (pw_or1 (pt_cmpR (op_neD hr.units) (pe_callD Dmet (hr.mono (by decide)) rfl passL (pa_cons (pv 3) (pa_cons (pv 6) (pa_cons (pe_tup pa_nil) pa_nil)))) (pe_tup pa_nil) (nomark _)))))) (pss_one (ps_ret pe_bl)) pss_nil) (pss_cons (ps_if (pt_cmpR (op_neD hr.units) (pe_callD Djoined (hr.mono (by decide)) rfl passL (pa_cons (pv 3) (pa_cons (pe_tup pa_nil) (pa_cons (pv 6) pa_nil)))) (pv 6) (nomark _)) (pss_one (ps_ret pe_bl)) pss_nil) (pss_cons (ps_set (i := 12) nd rfl (Or.inl rfl) (pe_lst (pa_cons pe_non (pa_cons (pe_lst pa_nil) (pa_cons (pe_callTy call_list_of (by rfl) T.list_ (by decide +kernel) (pa_cons (pv 6) pa_nil)) (pa_cons (pe_tup (pa_cons pe_int pa_nil)) (pa_cons (pe_tup (pa_cons (pe_op op_add (pv 3) pe_int) pa_nil)) (pa_cons (pe_tup (pa_cons pe_int (pa_cons pe_int pa_nil))) (pa_cons (pe_tup (pa_cons pe_bl pa_nil)) (pa_cons (pe_tup (pa_cons pe_int (pa_cons pe_int (pa_cons pe_int pa_nil)))) (pa_cons (pe_tup (pa_cons (pe_tup pa_nil) pa_nil)) (pa_cons pe_str (pa_cons (pe_tup (pa_cons pe_int (pa_cons pe_int pa_nil))) pa_nil))))))))))))) (pss_cons (ps_set (i := 12) nd rfl (Or.inl rfl) (pe_callD D_law_pick (hr.mono (by decide)) rfl pass0 (pa_cons (pv 2) (pa_cons (pv 12) pa_nil)))) (pss_one (ps_for PassesOwn.never rfl (pi_tup (pe_tup (pa_cons pe_int (pa_cons pe_int pa_nil)))) (pg_name (i := 13) nd rfl (Or.inl rfl)) (pss_one (ps_if (PW.pt (pw_or (pt_not (pt_val (pe_callD D_law_refused (hr.mono (by decide)) rfl pass0 (pa_cons (pv 13) (pa_cons (pv 3) (pa_cons (pv 12) (pa_cons (pv 7) pa_nil))))))) (pw_or1 (pt_not (pt_val (pe_callD D_law_refused (hr.mono (by decide)) rfl pass0 (pa_cons (pv 13) (pa_cons (pv 3) (pa_cons (pv 6) (pa_cons (pv 12) pa_nil)))))))))) (pss_one (ps_ret pe_bl)) pss_nil))))))))))))))))))))) (pss_one (ps_ret pe_bl))), ?_⟩
    refine ⟨_, rfl, ?_⟩
    apply v_lenL hS
    refine ⟨_, _, rfl, _, _, rfl, _, rfl, ?_, ?_, for_range (lo := 0) (fun i σ H' => (∃ v1 v2 v3 v4 v5 v6 v7 v8 v9 v10 v11 v12 v13 v14, σ = [some (.ref sa), v1, v2, v3, v4, v5, v6, v7, v8, v9, v10, v11, v12, v13, v14]) ∧ SqL K H' sa (ns.map V.int)) ?_ ?_ ?_⟩
    · split <;> split <;> omega
    · split <;> split <;> omega
    · exact ⟨⟨_, _, _, _, _, _, _, _, _, _, _, _, _, _, rfl⟩, hS⟩
    · rintro i σ H0 hi ⟨⟨v1, v2, v3, v4, v5, v6, v7, v8, v9, v10, v11, v12, v13, v14, rfl⟩, hS0⟩
      have hi3 : i ≤ 3 := by
        revert hi
        split <;> split <;> omega
      clear hi
      -- feed
      refine ⟨_, rfl, _, rfl, sa, ns, i, (by simp [vn]), hS0, hz, by omega, fun fe H1 x y nf e1 hf hx hy => ?_⟩
      -- top
      refine ⟨_, rfl, fe, x, y, 6, rfl, hf, hx, hy, by omega, by omega, fun r x' y' hr0 hr1 hx' hy' => ?_⟩
      obtain ⟨top, rfl⟩ : ∃ top : Nat, r = (top : Int) - 1 := ⟨(r + 1).toNat, by omega⟩
      have ht1 : 1 ≤ top := by omega
      have ht6 : top ≤ 6 := by omega
      refine ⟨_, _, rfl, rfl, _, rfl, top, ?_, ht6, fun ev H2 ys nss nev e2 hev htys hperm => ?_⟩
      · have htv : V.int (1 + ((top : Int) - 1)) = vn top := by
          unfold vn
          congr 1
          omega
        show [V.int (1 + ((top : Int) - 1))] = [vn top]
        rw [htv]
      have htv : V.int (1 + ((top : Int) - 1)) = vn top := by
        unfold vn
        congr 1
        omega
      have b01 : But fe H0 H1 := but_same e1
      have b02 : But fe H0 H2 := but_trans (but_trans b01 but_upd) (but_same e2)
      have hf2 : H2 fe = some (.lst [.int x', .int y']) := e2 _ _ upd_same
      have hne : ev ≠ fe := fun z => by rw [z, upd_same] at nev; cases nev
      have hlen : ys.length = 2 ^ top := by rw [htys.len, hperm.length_eq, ms_count]
      have hpos : 0 < ys.length := by rw [hlen]; exact Nat.pow_pos (by decide)
      have hl64 : ys.length ≤ 64 := by rw [hlen]; exact two_pow ht6
      refine ⟨_, rfl, by decide, by decide, for_range (lo := 0) (n := (4 : Int).toNat) (fun j σ H' => ∃ v5 v6 v7 v8 v9 v10 v11 v12 v13 v14 a b, σ = [some (.ref sa), some (.int (0 + (i : Int))), some (.ref fe), some (vn top), some (.ref ev), v5, v6, v7, v8, v9, v10, v11, v12, v13, v14] ∧
          But fe H0 H' ∧ H' fe = some (.lst [.int a, .int b]) ∧ 0 ≤ a ∧ 0 ≤ b ∧ H' ev = some (.lst ys) ∧ Tups K H' ys nss) ?_ ?_ ?_⟩
      · refine ⟨v5, v6, v7, v8, v9, v10, v11, v12, v13, v14, x', y', ?_, b02, hf2, hx', hy', hev, htys⟩
        rw [← htv]
        rfl
      · rintro j σ H3 hj ⟨w5, w6, w7, w8, w9, w10, w11, w12, w13, w14, a, b, rfl, b03, hf3, ha, hb, hev3, hty3⟩
        -- first, second
        refine ⟨_, rfl, _, rfl, fe, ev, a, b, ys, rfl, hf3, ha, hb, SqL.of hev3, hne, hpos, by omega, fun v a' b' hv ha' hb' => ?_⟩
        obtain ⟨p1, m1, rfl, hm1, hp1⟩ := hty3.mem hv
        refine ⟨_, rfl, _, rfl, fe, ev, a', b', ys, rfl, upd_same, ha', hb', SqL.of (upd_old hne hev3), hne, hpos, by omega, fun v da db hv2 ha2 hb2 => ⟨_, _, rfl, ?_⟩⟩
        obtain ⟨p2, m2, rfl, hm2, hp2⟩ := hty3.mem hv2
        have b34 : But fe H3 (upd (upd H3 fe (.lst [.int a', .int b'])) fe (.lst [.int da, .int db])) := but_trans but_upd but_upd
        have f4 : (upd (upd H3 fe (.lst [.int a', .int b'])) fe (.lst [.int da, .int db])) fe = some (.lst [.int da, .int db]) := upd_same
        have b04 := but_trans b03 b34
        have ev4 := b34 _ _ hev3 hne
        have ty4 : Tups K (upd (upd H3 fe (.lst [.int a', .int b'])) fe (.lst [.int da, .int db])) ys nss := hty3.but fun a ns h => sqT_but b34 hf3 h
        have p14 : SqT K (upd (upd H3 fe (.lst [.int a', .int b'])) fe (.lst [.int da, .int db])) p1 (vns m1) := sqT_but b34 hf3 hp1
        have p24 : SqT K (upd (upd H3 fe (.lst [.int a', .int b'])) fe (.lst [.int da, .int db])) p2 (vns m2) := sqT_but b34 hf3 hp2
        revert f4 b04 ev4 ty4 p14 p24
        generalize (upd (upd H3 fe (.lst [.int a', .int b'])) fe (.lst [.int da, .int db])) = H4
        intro f4 b04 ev4 ty4 p14 p24
        have mm1 : m1 ∈ VM.msOf top := hperm.mem_iff.mp hm1
        have mm2 : m2 ∈ VM.msOf top := hperm.mem_iff.mp hm2
        have g1 := VM.good_of ht1 ht6 mm1
        have g2 := VM.good_of ht1 ht6 mm2
        have lm1 := ms_len ht6 mm1
        have lm2 := ms_len ht6 mm2
        -- one, other
        refine ⟨_, rfl, _, rfl, top, p1, m1, rfl, ht6, p14, fun q1 H5 xs1 n5 e5 h5 ty5 => ?_⟩
        refine ⟨_, rfl, _, rfl, top, p2, m2, rfl, ht6, sqT_same e5 p24, fun q2 H6 xs2 n6 e6 h6 ty6 => ?_⟩
        refine ⟨(by show 2 ≤ sizeLine; decide), fun tp htp => ⟨tp, _, rfl, SqT.of upd_same, rfl, _, _, rfl, _, _, rfl, rfl, ?_⟩⟩
        have s47 : Same H4 (upd H6 tp (.tup [.ref q1, .ref q2])) := (e5.trans e6).trans (same_new htp)
        have h57 : (upd H6 tp (.tup [.ref q1, .ref q2])) q1 = some (.lst xs1) := upd_new htp (e6 _ _ h5)
        have h67 : (upd H6 tp (.tup [.ref q1, .ref q2])) q2 = some (.lst xs2) := upd_new htp h6
        have ty57 : Tups K (upd H6 tp (.tup [.ref q1, .ref q2])) xs1 (VM.on top m1) := (ty5.same e6).same (same_new htp)
        have ty67 : Tups K (upd H6 tp (.tup [.ref q1, .ref q2])) xs2 (VM.on top m2) := ty6.same (same_new htp)
        revert s47 h57 h67 ty57 ty67
        generalize (upd H6 tp (.tup [.ref q1, .ref q2])) = H7
        intro s47 h57 h67 ty57 ty67
        have p17 := sqT_same s47 p14
        have p27 := sqT_same s47 p24
        -- more, less
        refine ⟨_, rfl, _, rfl, _, rfl, top, .ref p1, .ref p2, true, true, rfl, by omega, good_mem g1 ht6 p17 (by omega), good_mem g2 ht6 p27 (by omega), fun h => (by rcases h with h | h <;> cases h), fun _ _ => ⟨p1, p2, m1, m2, rfl, rfl, p17, p27, fun r1 H8 e8 h8 => ?_⟩⟩
        refine ⟨_, rfl, _, rfl, _, rfl, top, .ref p1, .ref p2, true, true, rfl, by omega, good_mem g1 ht6 (sqT_same e8 p17) (by omega), good_mem g2 ht6 (sqT_same e8 p27) (by omega), fun h => (by rcases h with h | h <;> cases h),
          fun _ _ => ⟨p1, p2, m1, m2, rfl, rfl, sqT_same e8 p17, sqT_same e8 p27, fun r2 H9 e9 h9 => ⟨_, _, rfl, ?_⟩⟩⟩
        have hj : SqT K H9 r1 (vns (VM.joinM top m1 m2)) := sqT_same e9 h8
        have hm : SqT K H9 r2 (vns (VM.meetM top m1 m2)) := h9
        clear h8 h9
        have s49 : Same H4 H9 := (s47.trans e8).trans e9
        have jok := (VM.join_ok ht1 ht6 mm1 mm2).1
        have mok := (VM.meet_ok ht1 ht6 mm1 mm2).1
        have evs : H9 ev = some (.lst ys) := s49 _ _ ev4
        have tys : Tups K H9 ys nss := ty4.same s49
        have inj : nss.contains (VM.joinM top m1 m2) = true := List.contains_iff_mem.mpr (hperm.mem_iff.mpr jok)
        have inm : nss.contains (VM.meetM top m1 m2) = true := List.contains_iff_mem.mpr (hperm.mem_iff.mpr mok)
        have s79 : Same H7 H9 := e8.trans e9
        have h19 := s79 _ _ h57
        have h29 := s79 _ _ h67
        have ty19 := ty57.same s79
        have ty29 := ty67.same s79
        have p19 := sqT_same s49 p14
        have p29 := sqT_same s49 p24
        -- not in every, isinstance
        refine ⟨_, rfl, _, rfl, _, _, dp_tup hj, dp_list (SqL.of evs) tys, shaped_tup _, shaped_list _, _, rfl, ?_⟩
        rw [any_tups, inj]
        refine v_iff rfl ?_
        refine ⟨_, rfl, _, rfl, _, _, dp_tup hm, dp_list (SqL.of evs) tys, shaped_tup _, shaped_list _, _, rfl, ?_⟩
        rw [any_tups, inm]
        refine v_iff rfl ?_
        refine ⟨_, rfl, ?_⟩
        apply v_isi (ok_tupS hj) (kit_tuple (by decide))
        refine ⟨_, rfl, ?_⟩
        refine v_iff rfl ?_
        refine ⟨_, rfl, ?_⟩
        apply v_isi (ok_tupS hm) (kit_tuple (by decide))
        refine ⟨_, rfl, ?_⟩
        refine v_iff rfl ?_
        -- what is on with the joint memory
        refine ⟨_, rfl, _, rfl, top, r1, _, rfl, ht6, hj, fun q3 Ha xs3 n3 ea h3a ty3 => ?_⟩
        refine ⟨_, rfl, top, rfl, ht6, fun sw Hb swx nsw eb hsw tsw => ?_⟩
        have s9b : Same H9 Hb := ea.trans eb
        refine ⟨sw, rfl, ⟨_, SqL.of hsw⟩, fun D hD => lc_list (K := K) (a := sw) (xs := swx) (fun j H' => Same Hb H' ∧ ∃ zs, H' D = some (.lst zs) ∧ Tups K H' zs (((VM.switches top).take j).filter fun s => (VM.on top m1).contains s || (VM.on top m2).contains s))
          ⟨same_new hD, [], upd_same, .nil⟩ (fun j H' _ h => SqL.of (h.1 _ _ hsw)) ?_ ?_⟩
        · rintro l x H' hx ⟨e', zs, hzs, tzs⟩
          obtain ⟨t, s, rfl, hs, hst⟩ := tsw.get hx
          have hfil := filter_take (fun s => (VM.on top m1).contains s || (VM.on top m2).contains s) hs
          have s9' : Same H9 H' := s9b.trans e'
          have hst' := sqT_same e' hst
          have hcount : zs.length < 100000 := by
            have h2 := tzs.len
            have h3 := List.length_filter_le (fun s => (VM.on top m1).contains s || (VM.on top m2).contains s) ((VM.switches top).take l)
            have h4 := sw_small ht6
            rw [List.length_take] at h3
            omega
          refine ⟨rfl, ?_⟩
          refine ⟨_, rfl, _, rfl, _, _, dp_tup hst', dp_list (SqL.of (s9' _ _ h19)) (ty19.same s9'), shaped_tup _, shaped_list _, _, rfl, ?_⟩
          rw [any_tups]
          have yes : ((VM.on top m1).contains s || (VM.on top m2).contains s) = true → Same Hb (upd H' D (.lst (zs ++ [.ref t]))) ∧ ∃ zs', (upd H' D (.lst (zs ++ [.ref t]))) D = some (.lst zs') ∧ Tups K (upd H' D (.lst (zs ++ [.ref t]))) zs' (((VM.switches top).take (l + 1)).filter fun s => (VM.on top m1).contains s || (VM.on top m2).contains s) := by
            intro hc
            refine ⟨same_mut hD e', _, upd_same, ?_⟩
            rw [hfil, if_pos hc]
            exact Tups.append (tzs.but fun a ns h => sqT_but but_upd hzs h) (Tups.one (sqT_but but_upd hzs hst'))
          refine v_ifb (fun hc => ?_) (fun hc => ?_)
          · refine v_ift rfl ?_
            exact ⟨_, rfl, zs, hzs, small' hcount, yes (by rw [hc]; rfl)⟩
          · refine ⟨_, rfl, _, rfl, _, _, dp_tup hst', dp_list (SqL.of (s9' _ _ h29)) (ty29.same s9'), shaped_tup _, shaped_list _, _, rfl, ?_⟩
            rw [any_tups]
            refine v_ifb (fun hd => ?_) (fun hd => ?_)
            · exact ⟨_, rfl, zs, hzs, small' hcount, yes (by rw [hc, hd]; rfl)⟩
            · refine ⟨e', zs, hzs, ?_⟩
              rw [hfil, if_neg (by rw [hc, hd]; exact Bool.false_ne_true), List.append_nil]
              exact tzs
        · rintro Hc ⟨e', zs, hzs, tzs⟩
          rw [tsw.len, List.take_length] at tzs
          have s9c : Same H9 Hc := s9b.trans e'
          refine ⟨_, _, dp_list (SqL.of ((eb.trans e') _ _ h3a)) (ty3.same (eb.trans e')), dp_list (SqL.of hzs) tzs, shaped_list _, shaped_list _, _, rfl, ?_⟩
          rw [eqv_list, ← VM.on_join ht1 ht6 mm1 mm2]
          refine v_iff (by simp) ?_
          -- what is on with the meeting
          have h1c := s9c _ _ h19
          have h2c := s9c _ _ h29
          have ty1c := ty19.same s9c
          have ty2c := ty29.same s9c
          have xl1 : xs1.length ≤ 42 := by
            have h3 := List.length_filter_le (fun s => VM.isOn (s.getD 0 0) (s.getD 1 0) m1) (VM.switches top)
            have h4 := sw_small ht6
            have h5 : (VM.on top m1).length ≤ (VM.switches top).length := h3
            rw [ty19.len]
            omega
          refine ⟨_, rfl, _, rfl, top, r2, _, rfl, ht6, sqT_same s9c hm, fun q4 Hd xs4 n4 ed h4d ty4d => ?_⟩
          have s9d : Same H9 Hd := s9c.trans ed
          refine ⟨_, rfl, q1, rfl, ⟨_, SqL.of (ed _ _ h1c)⟩, fun D2 hD2 => lc_list (K := K) (a := q1) (xs := xs1) (fun j H' => Same Hd H' ∧ ∃ zs, H' D2 = some (.lst zs) ∧ Tups K H' zs (((VM.on top m1).take j).filter fun s => (VM.on top m2).contains s))
            ⟨same_new hD2, [], upd_same, .nil⟩ (fun j H' _ h => SqL.of (h.1 _ _ (ed _ _ h1c))) ?_ ?_⟩
          · rintro l x H' hx ⟨e', zs, hzs, tzs⟩
            obtain ⟨t, s, rfl, hs, hst⟩ := (ty1c.same ed).get hx
            have hfil := filter_take (fun s => (VM.on top m2).contains s) hs
            have s9' : Same H9 H' := s9d.trans e'
            have hst' := sqT_same e' hst
            have hcount : zs.length < 100000 := by
              have h2 := tzs.len
              have h3 := List.length_filter_le (fun s => (VM.on top m2).contains s) ((VM.on top m1).take l)
              have h4 := ty19.len
              rw [List.length_take] at h3
              omega
            refine ⟨rfl, ?_⟩
            refine ⟨_, rfl, _, rfl, _, _, dp_tup hst', dp_list (SqL.of (s9' _ _ h29)) (ty29.same s9'), shaped_tup _, shaped_list _, _, rfl, ?_⟩
            rw [any_tups]
            refine v_ifb (fun hc => ?_) (fun hc => ?_)
            · refine ⟨_, rfl, zs, hzs, small' hcount, same_mut hD2 e', _, upd_same, ?_⟩
              rw [hfil, if_pos hc]
              exact Tups.append (tzs.but fun a ns h => sqT_but but_upd hzs h) (Tups.one (sqT_but but_upd hzs hst'))
            · refine ⟨e', zs, hzs, ?_⟩
              rw [hfil, if_neg (by rw [hc]; exact Bool.false_ne_true), List.append_nil]
              exact tzs
          · rintro He ⟨e', zs2, hzs2, tzs2⟩
            rw [ty19.len, List.take_length] at tzs2
            have s9e : Same H9 He := s9d.trans e'
            refine ⟨_, _, dp_list (SqL.of (e' _ _ h4d)) (ty4d.same e'), dp_list (SqL.of hzs2) tzs2, shaped_list _, shaped_list _, _, rfl, ?_⟩
            rw [eqv_list, ← VM.on_meet ht1 ht6 mm1 mm2]
            refine v_iff (by simp) ?_
            have nofail : ∀ {A B : Bool} {Z : Prop}, A = true → B = true → (A = false ∨ B = false) → Z := fun {A B Z} h1 h2 h => by
              rcases h with h | h
              · rw [h1] at h
                cases h
              · rw [h2] at h
                cases h
            -- the other way round
            have p1e := sqT_same s9e p19
            have p2e := sqT_same s9e p29
            refine ⟨_, rfl, _, rfl, _, rfl, top, .ref p2, .ref p1, true, true, rfl, by omega, good_mem g2 ht6 p2e (by omega), good_mem g1 ht6 p1e (by omega), nofail rfl rfl, fun _ _ => ⟨p2, p1, m2, m1, rfl, rfl, p2e, p1e, fun r3 Hf ef hf' => ?_⟩⟩
            have hf3 : SqT K Hf r3 (vns (VM.joinM top m1 m2)) := by
              rw [VM.join_comm]
              exact hf'
            have s9f := s9e.trans ef
            refine ⟨_, rfl, _, _, dp_tup hf3, dp_tup (sqT_same s9f hj), shaped_tup _, shaped_tup _, _, rfl, ?_⟩
            rw [eqv_tup]
            refine v_iff (by simp) ?_
            have p1f := sqT_same s9f p19
            have p2f := sqT_same s9f p29
            refine ⟨_, rfl, _, rfl, _, rfl, top, .ref p2, .ref p1, true, true, rfl, by omega, good_mem g2 ht6 p2f (by omega), good_mem g1 ht6 p1f (by omega), nofail rfl rfl, fun _ _ => ⟨p2, p1, m2, m1, rfl, rfl, p2f, p1f, fun r4 Hg eg hg' => ?_⟩⟩
            have hg4 : SqT K Hg r4 (vns (VM.meetM top m1 m2)) := by
              rw [VM.meet_comm]
              exact hg'
            have s9g := s9f.trans eg
            refine ⟨_, rfl, _, _, dp_tup hg4, dp_tup (sqT_same s9g hm), shaped_tup _, shaped_tup _, _, rfl, ?_⟩
            rw [eqv_tup]
            refine v_iff (by simp) ?_
            -- with itself, with the empty one
            have p1g := sqT_same s9g p19
            refine ⟨_, rfl, _, rfl, _, rfl, top, .ref p1, .ref p1, true, true, rfl, by omega, good_mem g1 ht6 p1g (by omega), good_mem g1 ht6 p1g (by omega), nofail rfl rfl, fun _ _ => ⟨p1, p1, m1, m1, rfl, rfl, p1g, p1g, fun r5 Hh eh hh' => ?_⟩⟩
            have hh5 : SqT K Hh r5 (vns m1) := by
              rw [← VM.join_self g1]
              exact hh'
            have s9h := s9g.trans eh
            have p1h := sqT_same s9h p19
            refine ⟨_, rfl, _, _, dp_tup hh5, dp_tup p1h, shaped_tup _, shaped_tup _, _, rfl, ?_⟩
            rw [eqv_tup]
            refine v_iff (by simp) ?_
            refine ⟨_, rfl, _, rfl, _, rfl, top, .ref p1, .ref p1, true, true, rfl, by omega, good_mem g1 ht6 p1h (by omega), good_mem g1 ht6 p1h (by omega), nofail rfl rfl, fun _ _ => ⟨p1, p1, m1, m1, rfl, rfl, p1h, p1h, fun r6 Hi ei hi' => ?_⟩⟩
            have hi6 : SqT K Hi r6 (vns m1) := by
              rw [← VM.meet_self g1]
              exact hi'
            have s9i := s9h.trans ei
            have p1i := sqT_same s9i p19
            refine ⟨_, rfl, _, _, dp_tup hi6, dp_tup p1i, shaped_tup _, shaped_tup _, _, rfl, ?_⟩
            rw [eqv_tup]
            refine v_iff (by simp) ?_
            have g0 := VM.good_of ht1 ht6 (VM.nil_mem ht1 ht6)
            refine ⟨_, rfl, _, rfl, (by show 0 ≤ sizeLine; decide), fun t1 ht1' => ?_⟩
            have s9i1 := s9i.trans (same_new (o' := .tup []) ht1')
            have p1i1 := sqT_same s9i1 p19
            refine ⟨top, .ref p1, .ref t1, true, true, rfl, by omega, good_mem g1 ht6 p1i1 (by omega), good_mem (ns := []) g0 ht6 (SqT.of upd_same) (by simp), nofail rfl rfl, fun _ _ => ⟨p1, t1, m1, [], rfl, rfl, p1i1, SqT.of upd_same, fun r7 Hj ej hj' => ?_⟩⟩
            have hj7 : SqT K Hj r7 (vns []) := by
              rw [← VM.meet_nil ht1 ht6 m1]
              exact hj'
            refine ⟨(by show 0 ≤ sizeLine; decide), fun t2 ht2' => ?_⟩
            refine ⟨_, _, dp_tup (ns := []) (sqT_same (same_new ht2') hj7), dp_tup (ns := []) (SqT.of upd_same), shaped_tup _, shaped_tup _, _, rfl, ?_⟩
            rw [eqv_tup]
            refine v_iff (by simp) ?_
            have s9j := (s9i1.trans ej).trans (same_new (o' := .tup []) ht2')
            refine ⟨_, rfl, (by show 0 ≤ sizeLine; decide), fun t3 ht3' => ⟨_, rfl, ?_⟩⟩
            have s9j1 := s9j.trans (same_new (o' := .tup []) ht3')
            have p1j1 := sqT_same s9j1 p19
            refine ⟨top, .ref t3, .ref p1, true, true, rfl, by omega, good_mem (ns := []) g0 ht6 (SqT.of upd_same) (by simp), good_mem g1 ht6 p1j1 (by omega), nofail rfl rfl, fun _ _ => ⟨t3, p1, [], m1, rfl, rfl, SqT.of upd_same, p1j1, fun r8 Hk ek hk' => ?_⟩⟩
            have hk8 : SqT K Hk r8 (vns m1) := by
              rw [← VM.join_nil g1]
              exact hk'
            have s9k := s9j1.trans ek
            have p1k := sqT_same s9k p19
            refine ⟨_, rfl, _, _, dp_tup hk8, dp_tup p1k, shaped_tup _, shaped_tup _, _, rfl, ?_⟩
            rw [eqv_tup]
            refine v_iff (by simp) ?_
            -- values that are no memories
            refine ⟨(by show 0 ≤ sizeLine; decide), fun a1 n1 => ?_⟩
            have u1 := upd_same (H := Hk) (a := a1) (o := .lst [])
            have s1 := same_new (o' := .lst []) n1
            revert u1 s1; generalize (upd Hk a1 (.lst [])) = X1; intro u1 s1
            refine ⟨_, rfl, p1, _, rfl, .inr (sqT_same s1 p1k), fun a2 n2 => ?_⟩
            have u2 := upd_same (H := X1) (a := a2) (o := .lst (vns m1))
            have s2 := same_new (o' := .lst (vns m1)) n2
            revert u2 s2; generalize (upd X1 a2 (.lst (vns m1))) = X2; intro u2 s2
            refine ⟨(by show 1 ≤ sizeLine; decide), fun a3 n3 => ?_⟩
            have u3 := upd_same (H := X2) (a := a3) (o := .tup [.int 0])
            have s3 := same_new (o' := .tup [.int 0]) n3
            revert u3 s3; generalize (upd X2 a3 (.tup [.int 0])) = X3; intro u3 s3
            refine ⟨_, rfl, _, _, rfl, rfl, (by show 1 ≤ sizeLine; decide), fun a4 n4 => ?_⟩
            have u4 := upd_same (H := X3) (a := a4) (o := .tup [.int ((top : Int) + 1)])
            have s4 := same_new (o' := .tup [.int ((top : Int) + 1)]) n4
            revert u4 s4; generalize (upd X3 a4 (.tup [.int ((top : Int) + 1)])) = X4; intro u4 s4
            refine ⟨(by show 2 ≤ sizeLine; decide), fun a5 n5 => ?_⟩
            have u5 := upd_same (H := X4) (a := a5) (o := .tup [.int 1, .int 1])
            have s5 := same_new (o' := .tup [.int 1, .int 1]) n5
            revert u5 s5; generalize (upd X4 a5 (.tup [.int 1, .int 1])) = X5; intro u5 s5
            refine ⟨(by show 1 ≤ sizeLine; decide), fun a6 n6 => ?_⟩
            have u6 := upd_same (H := X5) (a := a6) (o := .tup [.bl true])
            have s6 := same_new (o' := .tup [.bl true]) n6
            revert u6 s6; generalize (upd X5 a6 (.tup [.bl true])) = X6; intro u6 s6
            refine ⟨(by show 3 ≤ sizeLine; decide), fun a7 n7 => ?_⟩
            have u7 := upd_same (H := X6) (a := a7) (o := .tup [.int 1, .int 2, .int 3])
            have s7 := same_new (o' := .tup [.int 1, .int 2, .int 3]) n7
            revert u7 s7; generalize (upd X6 a7 (.tup [.int 1, .int 2, .int 3])) = X7; intro u7 s7
            refine ⟨(by show 0 ≤ sizeLine; decide), fun a8 n8 => ?_⟩
            have u8 := upd_same (H := X7) (a := a8) (o := .tup [])
            have s8 := same_new (o' := .tup []) n8
            revert u8 s8; generalize (upd X7 a8 (.tup [])) = X8; intro u8 s8
            refine ⟨(by show 1 ≤ sizeLine; decide), fun a9 n9 => ?_⟩
            have u9 := upd_same (H := X8) (a := a9) (o := .tup [.ref a8])
            have s9 := same_new (o' := .tup [.ref a8]) n9
            revert u9 s9; generalize (upd X8 a9 (.tup [.ref a8])) = X9; intro u9 s9
            refine ⟨(by show 2 ≤ sizeLine; decide), fun a10 n10 => ?_⟩
            have u10 := upd_same (H := X9) (a := a10) (o := .tup [.int 1, .int 0])
            have s10 := same_new (o' := .tup [.int 1, .int 0]) n10
            revert u10 s10; generalize (upd X9 a10 (.tup [.int 1, .int 0])) = X10; intro u10 s10
            refine ⟨(by show 11 ≤ sizeLine; decide), fun a11 n11 => ?_⟩
            have u11 := upd_same (H := X10) (a := a11) (o := .lst [.non, .ref a1, .ref a2, .ref a3, .ref a4, .ref a5, .ref a6, .ref a7, .ref a9, .str "m", .ref a10])
            have s11 := same_new (o' := .lst [.non, .ref a1, .ref a2, .ref a3, .ref a4, .ref a5, .ref a6, .ref a7, .ref a9, .str "m", .ref a10]) n11
            revert u11 s11; generalize (upd X10 a11 (.lst [.non, .ref a1, .ref a2, .ref a3, .ref a4, .ref a5, .ref a6, .ref a7, .ref a9, .str "m", .ref a10])) = X11; intro u11 s11
            have sA : Same Hk X11 := (((((((((s1.trans s2).trans s3).trans s4).trans s5).trans s6).trans s7).trans s8).trans s9).trans s10).trans s11
            have s9X : Same H9 X11 := s9k.trans sA
            have s4X : Same H4 X11 := s49.trans s9X
            have feX := s4X _ _ f4
            have bad : ∀ v ∈ ([.non, .ref a1, .ref a2, .ref a3, .ref a4, .ref a5, .ref a6, .ref a7, .ref a9, .str "m", .ref a10] : List V), MemV K X11 top v false := by
              have t11 := s11
              have t10 := s10.trans t11
              have t9 := s9.trans t10
              have t8 := s8.trans t9
              have t7 := s7.trans t8
              have t6 := s6.trans t7
              have t5 := s5.trans t6
              have t4 := s4.trans t5
              have t3 := s3.trans t4
              have t2 := s2.trans t3
              intro v hv
              simp only [List.mem_cons, List.not_mem_nil, or_false] at hv
              rcases hv with rfl | rfl | rfl | rfl | rfl | rfl | rfl | rfl | rfl | rfl | rfl
              · exact .other ⟨.base .non, by decide⟩ (by decide)
              · exact .other (ok_lst (t2 _ _ u1)) (by decide)
              · exact .other (ok_lst (t3 _ _ u2)) (by decide)
              · exact memF (t4 _ _ u3) (itemsI [0]) (by simp) (notSelf (by decide))
              · refine memF (t5 _ _ u4) (itemsI [(top : Int) + 1]) (by simp) (notLvl ?_)
                simp only [List.all_cons, List.all_nil, Bool.and_true, lvl, decide_eq_false_iff_not]
                omega
              · exact memF (t6 _ _ u5) (itemsI [1, 1]) (by simp) (notSelf (by decide))
              · exact memF (t7 _ _ u6) (items1 ⟨.base (.bl _), by decide⟩) (by simp) (notLvl rfl)
              · exact memF (t8 _ _ u7) (itemsI [1, 2, 3]) (by simp) (notSelf (by decide))
              · exact memF (t10 _ _ u9) (items1 (ok_tup (t9 _ _ u8))) (by simp) (notLvl rfl)
              · exact .other ⟨.base (.str _), by decide⟩ (by decide)
              · exact memF (t11 _ _ u10) (itemsI [1, 0]) (by simp) (notSelf (by decide))
            have odf : a11 ≠ fe := fun z => by
              have := s4.trans (s5.trans (s6.trans (s7.trans (s8.trans (s9.trans s10)))))
              have h1 := ((s1.trans s2).trans s3).trans this
              rw [z, h1 _ _ ((s49.trans s9k) _ _ f4)] at n11
              cases n11
            -- one of them
            refine ⟨_, rfl, _, rfl, fe, a11, da, db, _, rfl, feX, ha2, hb2, SqL.of u11, odf, (by show 0 < 11; decide), (by show 11 < 100000; decide), fun v a3' b3' hv ha3 hb3 => ?_⟩
            have hbad := MemV.put (u' := [.int a3', .int b3']) feX (bad v hv)
            have b0X : But fe H0 (upd X11 fe (.lst [.int a3', .int b3'])) := but_trans (but_trans b04 (but_same s4X)) but_upd
            have fX := upd_same (H := X11) (a := fe) (o := .lst [.int a3', .int b3'])
            have evX : (upd X11 fe (.lst [.int a3', .int b3'])) ev = some (.lst ys) := upd_old hne (s4X _ _ ev4)
            have tyX : Tups K (upd X11 fe (.lst [.int a3', .int b3'])) ys nss := (ty4.same s4X).but fun a ns h => sqT_but but_upd feX h
            have p1X : SqT K (upd X11 fe (.lst [.int a3', .int b3'])) p1 (vns m1) := sqT_but but_upd feX (sqT_same s9X p19)
            have p2X : SqT K (upd X11 fe (.lst [.int a3', .int b3'])) p2 (vns m2) := sqT_but but_upd feX (sqT_same s9X p29)
            revert hbad b0X fX evX tyX p1X p2X
            generalize (upd X11 fe (.lst [.int a3', .int b3'])) = Y
            intro hbad b0X fX evX tyX p1X p2X
            refine ⟨(by show 2 ≤ sizeLine; decide), fun wt hwt => ⟨wt, rfl, ⟨_, SqT.of upd_same⟩, ?_⟩⟩
            have sY := same_new (o' := .tup [.int 0, .int 1]) hwt
            refine for_tup (K := K) (a := wt) (xs := [.int 0, .int 1]) (fun l σ H' => (∃ z, σ = [some (.ref sa), some (.int (0 + (i : Int))), some (.ref fe), some (vn top), some (.ref ev), some (.int (0 + (j : Int))), some (.ref p1), some (.ref p2), some (.ref q1), some (.ref q2), some (.ref r1), some (.ref r2), some v, z, w14]) ∧ Same (upd Y wt (.tup [.int 0, .int 1])) H')
              ⟨⟨_, rfl⟩, Same.refl _⟩ (fun l σ H' _ h => sqT_same h.2 (SqT.of upd_same)) ?_ ?_
            · rintro l x σ H' hx ⟨⟨z, rfl⟩, e'⟩
              obtain ⟨way, rfl⟩ : ∃ way : Nat, x = vn way := by
                have hm := List.mem_of_getElem? hx
                simp only [List.mem_cons, List.not_mem_nil, or_false] at hm
                rcases hm with rfl | rfl
                · exact ⟨0, rfl⟩
                · exact ⟨1, rfl⟩
              have sYH := sY.trans e'
              refine ⟨_, rfl, _, rfl, _, rfl, _, rfl, way, top, v, .ref p2, false, true, rfl, by omega, hbad.same sYH, good_mem g2 ht6 (sqT_same sYH p2X) (by omega), .inl rfl, fun H'' e'' => ⟨_, rfl, ?_⟩⟩
              refine v_iff rfl ?_
              refine ⟨_, rfl, _, rfl, _, rfl, _, rfl, way, top, .ref p1, v, true, false, rfl, by omega, good_mem g1 ht6 (sqT_same (sYH.trans e'') p1X) (by omega), hbad.same (sYH.trans e''), .inr rfl, fun H3' e3' => ⟨_, rfl, ?_⟩⟩
              refine v_iff rfl ?_
              exact ⟨⟨_, rfl⟩, (e'.trans e'').trans e3'⟩
            · rintro σ H' ⟨⟨z, rfl⟩, e'⟩
              have sYH := sY.trans e'
              exact ⟨_, _, _, _, _, _, _, _, _, _, a3', b3', rfl, but_trans b0X (but_same sYH), sYH _ _ fX, ha3, hb3, sYH _ _ evX, tyX.same sYH⟩
      · rintro σ H' ⟨w5, w6, w7, w8, w9, w10, w11, w12, w13, w14, a, b, rfl, b0, _⟩
        exact ⟨⟨_, _, _, _, _, _, _, _, _, _, _, _, _, _, rfl⟩, sqL_keep hS0 nf b0⟩
    · rintro σ H' ⟨⟨v1, v2, v3, v4, v5, v6, v7, v8, v9, v10, v11, v12, v13, v14, rfl⟩, _⟩
      exact k H'
end
theorem def_mk {P : Program} {w : World} {K : PySem.W.Frag} {mg : Str → Option Value} {base : Heap} {CX : CXT} {k : Nat} {x : Str} {st : Stmt} {f : Addr} {fd : FuncData} {ps : List Str} {sp : Sp} (F : Fun K x x st f fd) (hm : mg x = some (.ref f)) (b : Binds K fd ps [])
    (G : FnOk P w K mg base CX k f fd ps sp) : Def P w K mg base CX k x ps sp := ⟨f, fd, hm, F.kp, b, G⟩
theorem own_exm {K : PySem.W.Frag} {S : Addr} (h1 : PySem.W.subIn K (.ref S) (.type "BaseException") = some true) (h2 : PySem.W.isClsIn K S = true) (h3 : PySem.W.typeIn K (.ref S) = some (.type "type")) (h4 : PySem.W.subIn K (.ref S) (.ref S) = some true) :
    PySem.W.exmOne K (.ref S) (.ref S) = some true := by
  have h2' : (PySem.W.clsIn K S).isSome = true := h2
  have a : (PySem.W.subIn K (.ref S) (.type "BaseException") == some true) = true := by rw [h1] <;> rfl
  have b : ((PySem.W.clsIn K S).isSome && PySem.W.typeIn K (.ref S) == some (.type "type")) = true := by rw [h2', h3] <;> rfl
  have c : PySem.W.exmOne K (.ref S) (.ref S) = (if (PySem.W.subIn K (.ref S) (.type "BaseException") == some true) = true then (if ((PySem.W.clsIn K S).isSome && PySem.W.typeIn K (.ref S) == some (.type "type")) = true then PySem.W.subIn K (.ref S) (.ref S) else none) else none) := rfl
  rw [c, if_pos a, if_pos b, h4]
theorem all_mk {l : PySem.W.OpenLaw} {w : World} {K : PySem.W.Frag} {h : Heap} {mg : Str → Option Value} {fa C : Addr} (X : K.In h) (G : h.Ns mainGlobals mg) (hfa : mg "law" = some (.ref fa))
    {od0 an0 : Option Addr} {sl0 : Array (Option Value)} {oc0 kV0 dc0 pm0 cd0 ct0 : Value} {f0 : Addr}
    (a0 : PySem.W.nsIn K mainGlobals "is_integer" = some (some (.ref f0))) (l0 : K.lookup f0 = some ⟨oc0, od0, .func (PySem.W.fnOf "is_integer" "is_integer" (defArgs sis_integer) (defBody sis_integer) (defScope sis_integer) .none kV0 dc0 pm0 an0 cd0 ct0), sl0⟩) (c0 : PySem.W.codeIn K cd0 "is_integer" = true) (k0 : PySem.W.keepIn K (.ref f0) = true)
    {od1 an1 : Option Addr} {sl1 : Array (Option Value)} {oc1 kV1 dc1 pm1 cd1 ct1 : Value} {f1 : Addr}
    (a1 : PySem.W.nsIn K mainGlobals "is_level" = some (some (.ref f1))) (l1 : K.lookup f1 = some ⟨oc1, od1, .func (PySem.W.fnOf "is_level" "is_level" (defArgs sis_level) (defBody sis_level) (defScope sis_level) .none kV1 dc1 pm1 an1 cd1 ct1), sl1⟩) (c1 : PySem.W.codeIn K cd1 "is_level" = true) (k1 : PySem.W.keepIn K (.ref f1) = true)
    {od2 an2 : Option Addr} {sl2 : Array (Option Value)} {oc2 kV2 dc2 pm2 cd2 ct2 : Value} {f2 : Addr}
    (a2 : PySem.W.nsIn K mainGlobals "moved" = some (some (.ref f2))) (l2 : K.lookup f2 = some ⟨oc2, od2, .func (PySem.W.fnOf "moved" "moved" (defArgs smoved) (defBody smoved) (defScope smoved) .none kV2 dc2 pm2 an2 cd2 ct2), sl2⟩) (c2 : PySem.W.codeIn K cd2 "moved" = true) (k2 : PySem.W.keepIn K (.ref f2) = true)
    {od3 an3 : Option Addr} {sl3 : Array (Option Value)} {oc3 kV3 dc3 pm3 cd3 ct3 : Value} {f3 : Addr}
    (a3 : PySem.W.nsIn K mainGlobals "_followed" = some (some (.ref f3))) (l3 : K.lookup f3 = some ⟨oc3, od3, .func (PySem.W.fnOf "_followed" "_followed" (defArgs s_followed) (defBody s_followed) (defScope s_followed) .none kV3 dc3 pm3 an3 cd3 ct3), sl3⟩) (c3 : PySem.W.codeIn K cd3 "_followed" = true) (k3 : PySem.W.keepIn K (.ref f3) = true)
    {od4 an4 : Option Addr} {sl4 : Array (Option Value)} {oc4 kV4 dc4 pm4 cd4 ct4 : Value} {f4 : Addr}
    (a4 : PySem.W.nsIn K mainGlobals "_height" = some (some (.ref f4))) (l4 : K.lookup f4 = some ⟨oc4, od4, .func (PySem.W.fnOf "_height" "_height" (defArgs s_height) (defBody s_height) (defScope s_height) .none kV4 dc4 pm4 an4 cd4 ct4), sl4⟩) (c4 : PySem.W.codeIn K cd4 "_height" = true) (k4 : PySem.W.keepIn K (.ref f4) = true)
    {od5 an5 : Option Addr} {sl5 : Array (Option Value)} {oc5 kV5 dc5 pm5 cd5 ct5 : Value} {f5 : Addr}
    (a5 : PySem.W.nsIn K mainGlobals "_heights" = some (some (.ref f5))) (l5 : K.lookup f5 = some ⟨oc5, od5, .func (PySem.W.fnOf "_heights" "_heights" (defArgs s_heights) (defBody s_heights) (defScope s_heights) .none kV5 dc5 pm5 an5 cd5 ct5), sl5⟩) (c5 : PySem.W.codeIn K cd5 "_heights" = true) (k5 : PySem.W.keepIn K (.ref f5) = true)
    {od6 an6 : Option Addr} {sl6 : Array (Option Value)} {oc6 kV6 dc6 pm6 cd6 ct6 : Value} {f6 : Addr}
    (a6 : PySem.W.nsIn K mainGlobals "_memory_of_heights" = some (some (.ref f6))) (l6 : K.lookup f6 = some ⟨oc6, od6, .func (PySem.W.fnOf "_memory_of_heights" "_memory_of_heights" (defArgs s_memory_of_heights) (defBody s_memory_of_heights) (defScope s_memory_of_heights) .none kV6 dc6 pm6 an6 cd6 ct6), sl6⟩) (c6 : PySem.W.codeIn K cd6 "_memory_of_heights" = true) (k6 : PySem.W.keepIn K (.ref f6) = true)
    {od7 an7 : Option Addr} {sl7 : Array (Option Value)} {oc7 kV7 dc7 pm7 cd7 ct7 : Value} {f7 : Addr}
    (a7 : PySem.W.nsIn K mainGlobals "is_memory" = some (some (.ref f7))) (l7 : K.lookup f7 = some ⟨oc7, od7, .func (PySem.W.fnOf "is_memory" "is_memory" (defArgs sis_memory) (defBody sis_memory) (defScope sis_memory) .none kV7 dc7 pm7 an7 cd7 ct7), sl7⟩) (c7 : PySem.W.codeIn K cd7 "is_memory" = true) (k7 : PySem.W.keepIn K (.ref f7) = true)
    {od8 an8 : Option Addr} {sl8 : Array (Option Value)} {oc8 kV8 dc8 pm8 cd8 ct8 : Value} {f8 : Addr}
    (a8 : PySem.W.nsIn K mainGlobals "check_memory" = some (some (.ref f8))) (l8 : K.lookup f8 = some ⟨oc8, od8, .func (PySem.W.fnOf "check_memory" "check_memory" (defArgs scheck_memory) (defBody scheck_memory) (defScope scheck_memory) .none kV8 dc8 pm8 an8 cd8 ct8), sl8⟩) (c8 : PySem.W.codeIn K cd8 "check_memory" = true) (k8 : PySem.W.keepIn K (.ref f8) = true)
    {od9 an9 : Option Addr} {sl9 : Array (Option Value)} {oc9 kV9 dc9 pm9 cd9 ct9 : Value} {f9 : Addr}
    (a9 : PySem.W.nsIn K mainGlobals "joined" = some (some (.ref f9))) (l9 : K.lookup f9 = some ⟨oc9, od9, .func (PySem.W.fnOf "joined" "joined" (defArgs sjoined) (defBody sjoined) (defScope sjoined) .none kV9 dc9 pm9 an9 cd9 ct9), sl9⟩) (c9 : PySem.W.codeIn K cd9 "joined" = true) (k9 : PySem.W.keepIn K (.ref f9) = true)
    {od10 an10 : Option Addr} {sl10 : Array (Option Value)} {oc10 kV10 dc10 pm10 cd10 ct10 : Value} {f10 : Addr}
    (a10 : PySem.W.nsIn K mainGlobals "met" = some (some (.ref f10))) (l10 : K.lookup f10 = some ⟨oc10, od10, .func (PySem.W.fnOf "met" "met" (defArgs smet) (defBody smet) (defScope smet) .none kV10 dc10 pm10 an10 cd10 ct10), sl10⟩) (c10 : PySem.W.codeIn K cd10 "met" = true) (k10 : PySem.W.keepIn K (.ref f10) = true)
    {od11 an11 : Option Addr} {sl11 : Array (Option Value)} {oc11 kV11 dc11 pm11 cd11 ct11 : Value} {f11 : Addr}
    (a11 : PySem.W.nsIn K mainGlobals "_law_feed" = some (some (.ref f11))) (l11 : K.lookup f11 = some ⟨oc11, od11, .func (PySem.W.fnOf "_law_feed" "_law_feed" (defArgs s_law_feed) (defBody s_law_feed) (defScope s_law_feed) .none kV11 dc11 pm11 an11 cd11 ct11), sl11⟩) (c11 : PySem.W.codeIn K cd11 "_law_feed" = true) (k11 : PySem.W.keepIn K (.ref f11) = true)
    {od12 an12 : Option Addr} {sl12 : Array (Option Value)} {oc12 kV12 dc12 pm12 cd12 ct12 : Value} {f12 : Addr}
    (a12 : PySem.W.nsIn K mainGlobals "_law_take" = some (some (.ref f12))) (l12 : K.lookup f12 = some ⟨oc12, od12, .func (PySem.W.fnOf "_law_take" "_law_take" (defArgs s_law_take) (defBody s_law_take) (defScope s_law_take) .none kV12 dc12 pm12 an12 cd12 ct12), sl12⟩) (c12 : PySem.W.codeIn K cd12 "_law_take" = true) (k12 : PySem.W.keepIn K (.ref f12) = true)
    {od13 an13 : Option Addr} {sl13 : Array (Option Value)} {oc13 kV13 dc13 pm13 cd13 ct13 : Value} {f13 : Addr}
    (a13 : PySem.W.nsIn K mainGlobals "_law_pick" = some (some (.ref f13))) (l13 : K.lookup f13 = some ⟨oc13, od13, .func (PySem.W.fnOf "_law_pick" "_law_pick" (defArgs s_law_pick) (defBody s_law_pick) (defScope s_law_pick) .none kV13 dc13 pm13 an13 cd13 ct13), sl13⟩) (c13 : PySem.W.codeIn K cd13 "_law_pick" = true) (k13 : PySem.W.keepIn K (.ref f13) = true)
    {od14 an14 : Option Addr} {sl14 : Array (Option Value)} {oc14 kV14 dc14 pm14 cd14 ct14 : Value} {f14 : Addr}
    (a14 : PySem.W.nsIn K mainGlobals "_law_is_on" = some (some (.ref f14))) (l14 : K.lookup f14 = some ⟨oc14, od14, .func (PySem.W.fnOf "_law_is_on" "_law_is_on" (defArgs s_law_is_on) (defBody s_law_is_on) (defScope s_law_is_on) .none kV14 dc14 pm14 an14 cd14 ct14), sl14⟩) (c14 : PySem.W.codeIn K cd14 "_law_is_on" = true) (k14 : PySem.W.keepIn K (.ref f14) = true)
    {od15 an15 : Option Addr} {sl15 : Array (Option Value)} {oc15 kV15 dc15 pm15 cd15 ct15 : Value} {f15 : Addr}
    (a15 : PySem.W.nsIn K mainGlobals "_law_switches" = some (some (.ref f15))) (l15 : K.lookup f15 = some ⟨oc15, od15, .func (PySem.W.fnOf "_law_switches" "_law_switches" (defArgs s_law_switches) (defBody s_law_switches) (defScope s_law_switches) .none kV15 dc15 pm15 an15 cd15 ct15), sl15⟩) (c15 : PySem.W.codeIn K cd15 "_law_switches" = true) (k15 : PySem.W.keepIn K (.ref f15) = true)
    {od16 an16 : Option Addr} {sl16 : Array (Option Value)} {oc16 kV16 dc16 pm16 cd16 ct16 : Value} {f16 : Addr}
    (a16 : PySem.W.nsIn K mainGlobals "_law_memories" = some (some (.ref f16))) (l16 : K.lookup f16 = some ⟨oc16, od16, .func (PySem.W.fnOf "_law_memories" "_law_memories" (defArgs s_law_memories) (defBody s_law_memories) (defScope s_law_memories) .none kV16 dc16 pm16 an16 cd16 ct16), sl16⟩) (c16 : PySem.W.codeIn K cd16 "_law_memories" = true) (k16 : PySem.W.keepIn K (.ref f16) = true)
    {od17 an17 : Option Addr} {sl17 : Array (Option Value)} {oc17 kV17 dc17 pm17 cd17 ct17 : Value} {f17 : Addr}
    (a17 : PySem.W.nsIn K mainGlobals "_law_on" = some (some (.ref f17))) (l17 : K.lookup f17 = some ⟨oc17, od17, .func (PySem.W.fnOf "_law_on" "_law_on" (defArgs s_law_on) (defBody s_law_on) (defScope s_law_on) .none kV17 dc17 pm17 an17 cd17 ct17), sl17⟩) (c17 : PySem.W.codeIn K cd17 "_law_on" = true) (k17 : PySem.W.keepIn K (.ref f17) = true)
    {od18 an18 : Option Addr} {sl18 : Array (Option Value)} {oc18 kV18 dc18 pm18 cd18 ct18 : Value} {f18 : Addr}
    (a18 : PySem.W.nsIn K mainGlobals "_law_refused" = some (some (.ref f18))) (l18 : K.lookup f18 = some ⟨oc18, od18, .func (PySem.W.fnOf "_law_refused" "_law_refused" (defArgs s_law_refused) (defBody s_law_refused) (defScope s_law_refused) .none kV18 dc18 pm18 an18 cd18 ct18), sl18⟩) (c18 : PySem.W.codeIn K cd18 "_law_refused" = true) (k18 : PySem.W.keepIn K (.ref f18) = true)
    {od19 an19 : Option Addr} {sl19 : Array (Option Value)} {oc19 kV19 dc19 pm19 cd19 ct19 : Value} {f19 : Addr}
    (a19 : PySem.W.nsIn K mainGlobals "law" = some (some (.ref f19))) (l19 : K.lookup f19 = some ⟨oc19, od19, .func (PySem.W.fnOf "law" "law" (defArgs slaw) (defBody slaw) (defScope slaw) .none kV19 dc19 pm19 an19 cd19 ct19), sl19⟩) (c19 : PySem.W.codeIn K cd19 "law" = true) (k19 : PySem.W.keepIn K (.ref f19) = true)
    (z_len : PySem.W.nsIn K mainGlobals "len" = some none)
    (z_int : PySem.W.nsIn K mainGlobals "int" = some none)
    (z_bool : PySem.W.nsIn K mainGlobals "bool" = some none)
    (z_tuple : PySem.W.nsIn K mainGlobals "tuple" = some none)
    (z_list : PySem.W.nsIn K mainGlobals "list" = some none)
    (z_abs : PySem.W.nsIn K mainGlobals "abs" = some none)
    (z_max : PySem.W.nsIn K mainGlobals "max" = some none)
    (z_min : PySem.W.nsIn K mainGlobals "min" = some none)
    (z_range : PySem.W.nsIn K mainGlobals "range" = some none)
    (z_zip : PySem.W.nsIn K mainGlobals "zip" = some none)
    (z_enumerate : PySem.W.nsIn K mainGlobals "enumerate" = some none)
    (z_isinstance : PySem.W.nsIn K mainGlobals "isinstance" = some none)
    (z_sorted : PySem.W.nsIn K mainGlobals "sorted" = some none)
    (z_all : PySem.W.nsIn K mainGlobals "all" = some none)
    (gC : PySem.W.nsIn K mainGlobals "BadMemory" = some (some (.ref C))) (xC : PySem.W.excIn K C [.type "ValueError", .type "Exception", .type "BaseException", .type "object"] "ValueError.__new__" = true)
    (kC : PySem.W.keepIn K (.ref C) = true) (bC : PySem.W.subIn K (.ref C) (.type "BaseException") = some true) (tC : PySem.W.typeIn K (.ref C) = some (.type "type")) (iC : PySem.W.isClsIn K C = true) (sC : PySem.W.subIn K (.ref C) (.ref C) = some true) :
    ∃ fd : FuncData, (∀ (s : Shared) (v : Value), BindsTo s fd ⟨[v], []⟩ [("script", v)]) ∧ ∀ base : Heap, K.In base → base.Ns mainGlobals mg → FnOk l.prog w K mg base CX0 7 fa fd ["script"] (spLaw K) := by
  have e := hfa.symm.trans (PySem.W.mg_of X G a19)
  cases e
  have T : Txt K mg C := ⟨PySem.W.mg_none_of X G z_len, PySem.W.mg_none_of X G z_int, PySem.W.mg_none_of X G z_bool, PySem.W.mg_none_of X G z_tuple, PySem.W.mg_none_of X G z_list, PySem.W.mg_none_of X G z_abs, PySem.W.mg_none_of X G z_max, PySem.W.mg_none_of X G z_min, PySem.W.mg_none_of X G z_range, PySem.W.mg_none_of X G z_zip, PySem.W.mg_none_of X G z_enumerate, PySem.W.mg_none_of X G z_isinstance, PySem.W.mg_none_of X G z_sorted, PySem.W.mg_none_of X G z_all, PySem.W.mg_of X G gC, xC, kC, bC, tC, own_exm bC iC tC sC⟩
  have F0 := fun_mk (st := sis_integer) l0 c0 k0
  have b0 := F0.binds (ps := ["value"]) fun _ _ _ _ _ _ us hl => match us, hl with | [_], _ => rfl
  have F1 := fun_mk (st := sis_level) l1 c1 k1
  have b1 := F1.binds (ps := ["top", "value"]) fun _ _ _ _ _ _ us hl => match us, hl with | [_, _], _ => rfl
  have F2 := fun_mk (st := smoved) l2 c2 k2
  have b2 := F2.binds (ps := ["memory", "level"]) fun _ _ _ _ _ _ us hl => match us, hl with | [_, _], _ => rfl
  have F3 := fun_mk (st := s_followed) l3 c3 k3
  have b3 := F3.binds (ps := ["memory", "levels"]) fun _ _ _ _ _ _ us hl => match us, hl with | [_, _], _ => rfl
  have F4 := fun_mk (st := s_height) l4 c4 k4
  have b4 := F4.binds (ps := ["memory", "down"]) fun _ _ _ _ _ _ us hl => match us, hl with | [_, _], _ => rfl
  have F5 := fun_mk (st := s_heights) l5 c5 k5
  have b5 := F5.binds (ps := ["top", "memory"]) fun _ _ _ _ _ _ us hl => match us, hl with | [_, _], _ => rfl
  have F6 := fun_mk (st := s_memory_of_heights) l6 c6 k6
  have b6 := F6.binds (ps := ["heights"]) fun _ _ _ _ _ _ us hl => match us, hl with | [_], _ => rfl
  have F7 := fun_mk (st := sis_memory) l7 c7 k7
  have b7 := F7.binds (ps := ["top", "value"]) fun _ _ _ _ _ _ us hl => match us, hl with | [_, _], _ => rfl
  have F8 := fun_mk (st := scheck_memory) l8 c8 k8
  have b8 := F8.binds (ps := ["top", "memory"]) fun _ _ _ _ _ _ us hl => match us, hl with | [_, _], _ => rfl
  have F9 := fun_mk (st := sjoined) l9 c9 k9
  have b9 := F9.binds (ps := ["top", "first", "second"]) fun _ _ _ _ _ _ us hl => match us, hl with | [_, _, _], _ => rfl
  have F10 := fun_mk (st := smet) l10 c10 k10
  have b10 := F10.binds (ps := ["top", "first", "second"]) fun _ _ _ _ _ _ us hl => match us, hl with | [_, _, _], _ => rfl
  have F11 := fun_mk (st := s_law_feed) l11 c11 k11
  have b11 := F11.binds (ps := ["script", "k"]) fun _ _ _ _ _ _ us hl => match us, hl with | [_, _], _ => rfl
  have F12 := fun_mk (st := s_law_take) l12 c12 k12
  have b12 := F12.binds (ps := ["feed", "size"]) fun _ _ _ _ _ _ us hl => match us, hl with | [_, _], _ => rfl
  have F13 := fun_mk (st := s_law_pick) l13 c13 k13
  have b13 := F13.binds (ps := ["feed", "things"]) fun _ _ _ _ _ _ us hl => match us, hl with | [_, _], _ => rfl
  have F14 := fun_mk (st := s_law_is_on) l14 c14 k14
  have b14 := F14.binds (ps := ["switch", "levels"]) fun _ _ _ _ _ _ us hl => match us, hl with | [_, _], _ => rfl
  have F15 := fun_mk (st := s_law_switches) l15 c15 k15
  have b15 := F15.binds (ps := ["top"]) fun _ _ _ _ _ _ us hl => match us, hl with | [_], _ => rfl
  have F16 := fun_mk (st := s_law_memories) l16 c16 k16
  have b16 := F16.binds (ps := ["top"]) fun _ _ _ _ _ _ us hl => match us, hl with | [_], _ => rfl
  have F17 := fun_mk (st := s_law_on) l17 c17 k17
  have b17 := F17.binds (ps := ["top", "memory"]) fun _ _ _ _ _ _ us hl => match us, hl with | [_, _], _ => rfl
  have F18 := fun_mk (st := s_law_refused) l18 c18 k18
  have b18 := F18.binds (ps := ["way", "top", "first", "second"]) fun _ _ _ _ _ _ us hl => match us, hl with | [_, _, _, _], _ => rfl
  have F19 := fun_mk (st := slaw) l19 c19 k19
  have b19 := F19.binds (ps := ["script"]) fun _ _ _ _ _ _ us hl => match us, hl with | [_], _ => rfl
  refine ⟨PySem.W.fnOf "law" "law" (defArgs slaw) (defBody slaw) (defScope slaw) .none kV19 dc19 pm19 an19 cd19 ct19, fun s v => .of_eq rfl, fun base _ _ => ?_⟩
  have Dis_integer : Def l.prog w K mg base CX0 1 "is_integer" ["value"] (spIsInteger K) := def_mk F0 (PySem.W.mg_of X G a0) b0 (ok_is_integer F0 T )
  have Dis_level : Def l.prog w K mg base CX0 2 "is_level" ["top", "value"] (spIsLevel K) := def_mk F1 (PySem.W.mg_of X G a1) b1 (ok_is_level F1 T Dis_integer)
  have Dmoved : Def l.prog w K mg base CX0 1 "moved" ["memory", "level"] (spMoved K) := def_mk F2 (PySem.W.mg_of X G a2) b2 (okmoved F2 T )
  have D_followed : Def l.prog w K mg base CX0 2 "_followed" ["memory", "levels"] (spFollowed K) := def_mk F3 (PySem.W.mg_of X G a3) b3 (ok_followed F3 T Dmoved)
  have D_height : Def l.prog w K mg base CX0 1 "_height" ["memory", "down"] (spHeight K) := def_mk F4 (PySem.W.mg_of X G a4) b4 (ok_height F4 T )
  have D_heights : Def l.prog w K mg base CX0 2 "_heights" ["top", "memory"] (spHeights K) := def_mk F5 (PySem.W.mg_of X G a5) b5 (ok_heights F5 T D_height)
  have D_memory_of_heights : Def l.prog w K mg base CX0 3 "_memory_of_heights" ["heights"] (spMemOf K) := def_mk F6 (PySem.W.mg_of X G a6) b6 (ok_memOf F6 T D_followed)
  have Dis_memory : Def l.prog w K mg base CX0 3 "is_memory" ["top", "value"] (spIsMemory K) := def_mk F7 (PySem.W.mg_of X G a7) b7 (ok_is_memory F7 T Dis_level D_followed)
  have Dcheck_memory : Def l.prog w K mg base (L2.CX l.prog w) 4 "check_memory" ["top", "memory"] (spCheckMemory K C) := def_mk F8 (PySem.W.mg_of X G a8) b8 (ok_check_memory F8 T Dis_memory)
  have Djoined : Def l.prog w K mg base (L2.CX l.prog w) 5 "joined" ["top", "first", "second"] (spJoined K C max) := def_mk F9 (PySem.W.mg_of X G a9) b9 (ok_joined F9 T Dcheck_memory D_heights D_memory_of_heights)
  have Dmet : Def l.prog w K mg base (L2.CX l.prog w) 5 "met" ["top", "first", "second"] (spJoined K C min) := def_mk F10 (PySem.W.mg_of X G a10) b10 (ok_met F10 T Dcheck_memory D_heights D_memory_of_heights)
  have D_law_feed : Def l.prog w K mg base CX0 1 "_law_feed" ["script", "k"] (spFeed K) := def_mk F11 (PySem.W.mg_of X G a11) b11 (ok_feed F11 T )
  have D_law_take : Def l.prog w K mg base CX0 1 "_law_take" ["feed", "size"] spTake := def_mk F12 (PySem.W.mg_of X G a12) b12 (ok_take F12 T )
  have D_law_pick : Def l.prog w K mg base CX0 2 "_law_pick" ["feed", "things"] (spPick K) := def_mk F13 (PySem.W.mg_of X G a13) b13 (ok_pick F13 T D_law_take)
  have D_law_is_on : Def l.prog w K mg base CX0 1 "_law_is_on" ["switch", "levels"] (spIsOn K) := def_mk F14 (PySem.W.mg_of X G a14) b14 (ok_is_on F14 T )
  have D_law_switches : Def l.prog w K mg base CX0 1 "_law_switches" ["top"] (spSwitches K) := def_mk F15 (PySem.W.mg_of X G a15) b15 (ok_switches F15 T )
  have D_law_memories : Def l.prog w K mg base CX0 1 "_law_memories" ["top"] (spMemories K) := def_mk F16 (PySem.W.mg_of X G a16) b16 (ok_memories F16 T )
  have D_law_on : Def l.prog w K mg base CX0 2 "_law_on" ["top", "memory"] (spOn K) := def_mk F17 (PySem.W.mg_of X G a17) b17 (ok_on F17 T D_law_switches D_law_is_on)
  have D_law_refused : Def l.prog w K mg base CX0 6 "_law_refused" ["way", "top", "first", "second"] (spRefused K) := def_mk F18 (PySem.W.mg_of X G a18) b18 (ok_refused F18 T Djoined Dmet)
  exact ok_law F19 T D_law_feed D_law_take D_law_pick D_law_switches D_law_memories D_law_on D_law_refused Djoined Dmet
theorem walk {l : PySem.W.OpenLaw} {q : Program} {loose : List Str} {XP : (Str → Option Value) → Heap → Prop} {YP : World → Heap → Prop} {d : DefRec} {K : Params → PySem.W.Frag} (hn : l.most = some 63) (hdf : d.params.defaults = [])
    (hY : ∀ (w : World) (h : Heap), YP w h → (K w.params).In h)
    (F : ∀ (w : World) (mg : Str → Option Value) (fa : Addr) (h : Heap), (K w.params).In h → h.Ns mainGlobals mg → mg d.name = some (.ref fa) →
      ∃ fd : FuncData, (∀ (s : Shared) (u : Value), BindsTo s fd ⟨[u], []⟩ [("script", u)]) ∧ ∀ base : Heap, (K w.params).In base → base.Ns mainGlobals mg → FnOk l.prog w (K w.params) mg base CX0 7 fa fd ["script"] (spLaw (K w.params))) :
    PySem.W.WalkO q loose XP YP l.row.toRowW d [] (fun f vs => PySem.call f vs) :=
  L2.walk_of (n := 63) (k := 7) (x := "script") (CX := fun _ => CX0) (sp := fun w => spLaw (K w.params)) hn (by decide) hdf ⟨rfl, by decide, by decide⟩ hY F (fun _ _ a ns hl _ hS => ⟨a, ns, rfl, hS, hl, fun _ => rfl⟩) fun _ _ _ _ _ z => z
end My
open PySem PySem.W PyProof.Rows
set_option maxRecDepth 100000 in
set_option maxHeartbeats 0 in
theorem PySem.Challenge.cw_turnweights_k13_memories_joined_and_met_holds : PySem.Challenge.rw_turnweights_k13_memories_joined_and_met.Holds := by
  w_on; o_law; k_head; (case hw => w_witness2)
  k_fill
  refine My.walk (l := PySem.Challenge.rw_turnweights_k13_memories_joined_and_met) rfl rfl (fun w h Y => PySem.W.kIn_of Y) ?F
  case F =>
    intro w mg fa h KX G hmg
    refine' My.all_mk KX G hmg ?a0 ?l0 ?c0 ?k0 ?a1 ?l1 ?c1 ?k1 ?a2 ?l2 ?c2 ?k2 ?a3 ?l3 ?c3 ?k3 ?a4 ?l4 ?c4 ?k4 ?a5 ?l5 ?c5 ?k5 ?a6 ?l6 ?c6 ?k6 ?a7 ?l7 ?c7 ?k7 ?a8 ?l8 ?c8 ?k8 ?a9 ?l9 ?c9 ?k9 ?a10 ?l10 ?c10 ?k10 ?a11 ?l11 ?c11 ?k11 ?a12 ?l12 ?c12 ?k12 ?a13 ?l13 ?c13 ?k13 ?a14 ?l14 ?c14 ?k14 ?a15 ?l15 ?c15 ?k15 ?a16 ?l16 ?c16 ?k16 ?a17 ?l17 ?c17 ?k17 ?a18 ?l18 ?c18 ?k18 ?a19 ?l19 ?c19 ?k19 ?z_len ?z_int ?z_bool ?z_tuple ?z_list ?z_abs ?z_max ?z_min ?z_range ?z_zip ?z_enumerate ?z_isinstance ?z_sorted ?z_all ?gC ?xC ?kC ?bC ?tC ?iC ?sC
    (case a0 => k_is)
    (case l0 => k_is)
    (case c0 => k_is)
    (case k0 => k_is)
    (case a1 => k_is)
    (case l1 => k_is)
    (case c1 => k_is)
    (case k1 => k_is)
    (case a2 => k_is)
    (case l2 => k_is)
    (case c2 => k_is)
    (case k2 => k_is)
    (case a3 => k_is)
    (case l3 => k_is)
    (case c3 => k_is)
    (case k3 => k_is)
    (case a4 => k_is)
    (case l4 => k_is)
    (case c4 => k_is)
    (case k4 => k_is)
    (case a5 => k_is)
    (case l5 => k_is)
    (case c5 => k_is)
    (case k5 => k_is)
    (case a6 => k_is)
    (case l6 => k_is)
    (case c6 => k_is)
    (case k6 => k_is)
    (case a7 => k_is)
    (case l7 => k_is)
    (case c7 => k_is)
    (case k7 => k_is)
    (case a8 => k_is)
    (case l8 => k_is)
    (case c8 => k_is)
    (case k8 => k_is)
    (case a9 => k_is)
    (case l9 => k_is)
    (case c9 => k_is)
    (case k9 => k_is)
    (case a10 => k_is)
    (case l10 => k_is)
    (case c10 => k_is)
    (case k10 => k_is)
    (case a11 => k_is)
    (case l11 => k_is)
    (case c11 => k_is)
    (case k11 => k_is)
    (case a12 => k_is)
    (case l12 => k_is)
    (case c12 => k_is)
    (case k12 => k_is)
    (case a13 => k_is)
    (case l13 => k_is)
    (case c13 => k_is)
    (case k13 => k_is)
    (case a14 => k_is)
    (case l14 => k_is)
    (case c14 => k_is)
    (case k14 => k_is)
    (case a15 => k_is)
    (case l15 => k_is)
    (case c15 => k_is)
    (case k15 => k_is)
    (case a16 => k_is)
    (case l16 => k_is)
    (case c16 => k_is)
    (case k16 => k_is)
    (case a17 => k_is)
    (case l17 => k_is)
    (case c17 => k_is)
    (case k17 => k_is)
    (case a18 => k_is)
    (case l18 => k_is)
    (case c18 => k_is)
    (case k18 => k_is)
    (case a19 => k_is)
    (case l19 => k_is)
    (case c19 => k_is)
    (case k19 => k_is)
    (case z_len => k_is)
    (case z_int => k_is)
    (case z_bool => k_is)
    (case z_tuple => k_is)
    (case z_list => k_is)
    (case z_abs => k_is)
    (case z_max => k_is)
    (case z_min => k_is)
    (case z_range => k_is)
    (case z_zip => k_is)
    (case z_enumerate => k_is)
    (case z_isinstance => k_is)
    (case z_sorted => k_is)
    (case z_all => k_is)
    (case gC => k_is)
    (case xC => k_exc)
    (case kC => k_is)
    (case bC => k_is)
    (case tC => k_is)
    (case iC => k_is)
    (case sC => first | rfl | k_is)
#print axioms PySem.Challenge.cw_turnweights_k13_memories_joined_and_met_holds
